import Derived.Test.YtdligpdfcfbgpaaSendT
import Derived.Test.YtdligpdfcfbgpaaSendO
namespace Go.Abs.Sh
set_option linter.unusedVariables false
set_option linter.unusedSimpArgs false

def staysS (s : T_Send) (l : List T_Frame) : ((Int × (List Int) × Bool × Int × Int × Int × Bool × Int)) → Option ((Int × (List Int) × Bool × Int × Int × Int × Bool × Int) ⊕ ((Unit) ⊕ Bool)) := (fun ((s329, s330, s331, s332, s333, s334, s335, s336) : Int × (List Int) × Bool × Int × Int × Int × Bool × Int) =>
        cond ((decide (s336 < (l.length : Int))))
          (bindS (S := Int × (List Int) × Bool × Int × Int × Int × Bool) (A := ((Int × (List Int) × Bool × Int × Int × Int × Bool × Int) ⊕ ((Unit) ⊕ Bool)))
            ((ixO s336 l.length).bind fun v13 =>
            (getO l v13).bind fun v14 =>
            cond ((decide (300 < (v14.Data.length : Int))))
              (some (.inr (.inr (.inr (true)))))
              ((sender_Tick (T_Send.mk s329 s330 s331 s332 s333 s334 s335)).bind fun v16 =>
              bindS (S := Bool) (A := ((Int × (List Int) × Bool × Int × Int × Int × Bool) ⊕ ((Int × (List Int) × Bool × Int × Int × Int × Bool × Int) ⊕ ((Unit) ⊕ Bool))))
                (cond ((v16.2.2 != 0))
                  (some (.inl true))
                  ((wherryref18_Send v16.1).bind fun v17 =>
                  cond ((!v17))
                    (some (.inl true))
                    (cond ((decide (7 < (v16.2.1.length : Int))))
                      (some (.inl true))
                      (cond ((v16.1.Number != s.Number))
                        (some (.inl true))
                        ((wherrykeep_Bytes v16.1.Data s.Data).bind fun v18 =>
                        some (.inl (!v18)))))))
                (fun (s558 : Bool) =>
                  cond (s558)
                    (some (.inr (.inr (.inr (false)))))
                    (bindS (S := (Unit)) (A := ((Int × (List Int) × Bool × Int × Int × Int × Bool) ⊕ ((Int × (List Int) × Bool × Int × Int × Int × Bool × Int) ⊕ ((Unit) ⊕ Bool))))
                      (loopF (S := (Int)) (O := (Unit) ⊕ ((Int × (List Int) × Bool × Int × Int × Int × Bool) ⊕ ((Int × (List Int) × Bool × Int × Int × Int × Bool × Int) ⊕ ((Unit) ⊕ Bool)))) (fun (s586 : Int) =>
                        cond ((decide (s586 < (v16.2.1.length : Int))))
                          (bindS (S := Bool) (A := ((Int) ⊕ ((Unit) ⊕ ((Int × (List Int) × Bool × Int × Int × Int × Bool) ⊕ ((Int × (List Int) × Bool × Int × Int × Int × Bool × Int) ⊕ ((Unit) ⊕ Bool))))))
                            ((ixO s586 v16.2.1.length).bind fun v25 =>
                            (getO v16.2.1 v25).bind fun v26 =>
                            (wherryref18_Frame v26).bind fun v27 =>
                            cond ((!v27))
                              (some (.inl true))
                              ((ixO s586 v16.2.1.length).bind fun v28 =>
                              (getO v16.2.1 v28).bind fun v29 =>
                              cond ((v29.Number != s.Number))
                                (some (.inl true))
                                (some (.inl s335))))
                            (fun (s605 : Bool) =>
                              cond (s605)
                                (some (.inr (.inr (.inr (.inr (.inr (false)))))))
                                ((ixO s586 v16.2.1.length).bind fun v35 =>
                                (getO v16.2.1 v35).bind fun v36 =>
                                bindS (S := Bool) (A := ((Int) ⊕ ((Unit) ⊕ ((Int × (List Int) × Bool × Int × Int × Int × Bool) ⊕ ((Int × (List Int) × Bool × Int × Int × Int × Bool × Int) ⊕ ((Unit) ⊕ Bool))))))
                                  ((ixO s586 v16.2.1.length).bind fun v37 =>
                                  (getO v16.2.1 v37).bind fun v38 =>
                                  cond ((v38.Kind == 3))
                                    ((ixO s586 v16.2.1.length).bind fun v39 =>
                                    (getO v16.2.1 v39).bind fun v40 =>
                                    (some (IntKind.i64.wrap (v36.Offset + (v40.Data.length : Int)))).bind fun v41 =>
                                    cond ((decide ((s.Data.length : Int) < v41)))
                                      (some (.inl true))
                                      ((ixO s586 v16.2.1.length).bind fun v42 =>
                                      (getO v16.2.1 v42).bind fun v43 =>
                                      (ixO s586 v16.2.1.length).bind fun v44 =>
                                      (getO v16.2.1 v44).bind fun v45 =>
                                      (some (IntKind.i64.wrap (v36.Offset + (v45.Data.length : Int)))).bind fun v46 =>
                                      (sliO s.Data v36.Offset v46).bind fun v47 =>
                                      (wherrykeep_Bytes v43.Data v47).bind fun v48 =>
                                      some (.inl (!v48))))
                                    (some (.inl false)))
                                  (fun (s610 : Bool) =>
                                    cond (s610)
                                      (some (.inr (.inr (.inr (.inr (.inr (false)))))))
                                      ((some (IntKind.i64.wrap (s586 + 1))).bind fun v54 =>
                                      some (.inl v54))) some)) some)
                          (some (.inr (.inl ()))))
                        BIG 0)
                      (fun (() : Unit) =>
                        (ixO s336 l.length).bind fun v96 =>
                        (getO l v96).bind fun v97 =>
                        (sender_Hear v16.1 v97).bind fun v98 =>
                        cond ((v98.2 != 0))
                          (some (.inl (v16.1.Number, v16.1.Data, v16.1.Ready, v16.1.Base, v16.1.Next, v16.1.Wait, v16.1.Over)))
                          (bindS (S := Bool) (A := ((Int × (List Int) × Bool × Int × Int × Int × Bool) ⊕ ((Int × (List Int) × Bool × Int × Int × Int × Bool × Int) ⊕ ((Unit) ⊕ Bool))))
                            ((wherryref18_Send v98.1).bind fun v100 =>
                            cond ((!v100))
                              (some (.inl true))
                              (cond ((v98.1.Number != s.Number))
                                (some (.inl true))
                                ((wherrykeep_Bytes v98.1.Data s.Data).bind fun v101 =>
                                cond ((!v101))
                                  (some (.inl true))
                                  (some (.inl v16.1.Over)))))
                            (fun (s616 : Bool) =>
                              cond (s616)
                                (some (.inr (.inr (.inr (false)))))
                                (some (.inl (v98.1.Number, v98.1.Data, v98.1.Ready, v98.1.Base, v98.1.Next, v98.1.Wait, v98.1.Over)))) some)) some)) some))
            (fun ((s547, s548, s549, s550, s551, s552, s553) : Int × (List Int) × Bool × Int × Int × Int × Bool) =>
              (some (IntKind.i64.wrap (s336 + 1))).bind fun v181 =>
              some (.inl (s547, s548, s549, s550, s551, s552, s553, v181))) some)
          (some (.inr (.inl ()))))
def stayS (s : T_Send) (s335 : Bool) (v16 : T_Send × (List T_Frame) × Int) : ((Int)) → Option ((Int) ⊕ ((Unit) ⊕ ((Int × (List Int) × Bool × Int × Int × Int × Bool) ⊕ ((Int × (List Int) × Bool × Int × Int × Int × Bool × Int) ⊕ ((Unit) ⊕ Bool))))) := (fun (s586 : Int) =>
                        cond ((decide (s586 < (v16.2.1.length : Int))))
                          (bindS (S := Bool) (A := ((Int) ⊕ ((Unit) ⊕ ((Int × (List Int) × Bool × Int × Int × Int × Bool) ⊕ ((Int × (List Int) × Bool × Int × Int × Int × Bool × Int) ⊕ ((Unit) ⊕ Bool))))))
                            ((ixO s586 v16.2.1.length).bind fun v25 =>
                            (getO v16.2.1 v25).bind fun v26 =>
                            (wherryref18_Frame v26).bind fun v27 =>
                            cond ((!v27))
                              (some (.inl true))
                              ((ixO s586 v16.2.1.length).bind fun v28 =>
                              (getO v16.2.1 v28).bind fun v29 =>
                              cond ((v29.Number != s.Number))
                                (some (.inl true))
                                (some (.inl s335))))
                            (fun (s605 : Bool) =>
                              cond (s605)
                                (some (.inr (.inr (.inr (.inr (.inr (false)))))))
                                ((ixO s586 v16.2.1.length).bind fun v35 =>
                                (getO v16.2.1 v35).bind fun v36 =>
                                bindS (S := Bool) (A := ((Int) ⊕ ((Unit) ⊕ ((Int × (List Int) × Bool × Int × Int × Int × Bool) ⊕ ((Int × (List Int) × Bool × Int × Int × Int × Bool × Int) ⊕ ((Unit) ⊕ Bool))))))
                                  ((ixO s586 v16.2.1.length).bind fun v37 =>
                                  (getO v16.2.1 v37).bind fun v38 =>
                                  cond ((v38.Kind == 3))
                                    ((ixO s586 v16.2.1.length).bind fun v39 =>
                                    (getO v16.2.1 v39).bind fun v40 =>
                                    (some (IntKind.i64.wrap (v36.Offset + (v40.Data.length : Int)))).bind fun v41 =>
                                    cond ((decide ((s.Data.length : Int) < v41)))
                                      (some (.inl true))
                                      ((ixO s586 v16.2.1.length).bind fun v42 =>
                                      (getO v16.2.1 v42).bind fun v43 =>
                                      (ixO s586 v16.2.1.length).bind fun v44 =>
                                      (getO v16.2.1 v44).bind fun v45 =>
                                      (some (IntKind.i64.wrap (v36.Offset + (v45.Data.length : Int)))).bind fun v46 =>
                                      (sliO s.Data v36.Offset v46).bind fun v47 =>
                                      (wherrykeep_Bytes v43.Data v47).bind fun v48 =>
                                      some (.inl (!v48))))
                                    (some (.inl false)))
                                  (fun (s610 : Bool) =>
                                    cond (s610)
                                      (some (.inr (.inr (.inr (.inr (.inr (false)))))))
                                      ((some (IntKind.i64.wrap (s586 + 1))).bind fun v54 =>
                                      some (.inl v54))) some)) some)
                          (some (.inr (.inl ()))))

theorem ready_cases (s : T_Send) (hl : s.Data.length ≤ 5000) (off : Nat) (hoff : off ≤ 5000) : sender_ready s (off : Int) = some (false, s) ∨ ∃ p : Nat, (p : Int) ≤ pcs s ∧ off = min (48 * p) s.Data.length := by
  have hb := pcs_bd s
  by_cases h1 : off = s.Data.length
  · refine .inr ⟨(s.Data.length + 47) / 48, ?_, by omega⟩
    unfold pcs; omega
  by_cases h2 : off < s.Data.length ∧ off % 48 = 0
  · refine .inr ⟨off / 48, by unfold pcs; omega, by omega⟩
  · refine .inl ?_
    unfold sender_ready
    have hne : ((off : Int) == (s.Data.length : Int)) = false := by simp; omega
    refine bndL (s := true) (cnd_t (by rw [hne]; rfl) ?_) (cnd_t rfl rfl)
    by_cases h3 : s.Data.length < off
    · exact cnd_t (by simp; omega) rfl
    · refine cnd_f (by simp; omega) (bnd (rem48 off) ?_)
      have : ((off % 48 : Nat) : Int) ≠ 0 := by omega
      simp only [bne_iff_ne.2 this]

/-- What is made of any frame. -/
theorem hear_cases {s : T_Send} (h : Rt s) (f : T_Frame) : ∃ z e, sender_Hear s f = some (z, e) ∧ (e ≠ 0 ∨ (e = 0 ∧ Rt z ∧ z.Number = s.Number ∧ z.Data = s.Data ∧ s.Over = false)) := by
  cases ho : s.Over with
  | true => exact ⟨_, _, hear_over h ho f, .inl (by cases good f <;> decide)⟩
  | false =>
  cases hg : good f with
  | false => exact ⟨_, _, hear_bad h f hg, .inl (by decide)⟩
  | true =>
  have l2 := h.l2
  have l1 := h.l1
  have hb := pcs_bd s
  by_cases hn : f.Number = s.Number
  · have hgd := hg
    simp only [good, numIn, offIn, seqIn, Bool.and_eq_true, Bool.or_eq_true, decide_eq_true_eq, beq_iff_eq] at hgd
    obtain ⟨K, M, O, S, D⟩ := f
    dsimp only at hn hgd
    subst hn
    by_cases k2 : K = 2
    · subst k2
      have hS : S = 0 ∧ D = [] := by
        have : S = 0 ∧ D.length = 0 := by omega
        exact ⟨this.1, List.length_eq_zero_iff.1 this.2⟩
      obtain ⟨rfl, rfl⟩ := hS
      obtain ⟨off, rfl⟩ : ∃ off : Nat, O = (off : Int) := ⟨O.toNat, by omega⟩
      rcases ready_cases s l2 off (by omega) with hr | ⟨p, hp, rfl⟩
      · exact ⟨_, _, hear_ready h ho off (by omega) _ hr, .inl (show (11 : Int) ≠ 0 by decide)⟩
      · exact ⟨_, _, hear_ready h ho _ (by omega) _ (ready_at s l2 p hp), .inr ⟨rfl, rt_ready h p hp 0 (by omega) (by omega) _, rfl, rfl, rfl⟩⟩
    by_cases k4 : K = 4
    · subst k4
      have hS : O = 0 ∧ D = [] := by
        have : O = 0 ∧ D.length = 0 := by omega
        exact ⟨this.1, List.length_eq_zero_iff.1 this.2⟩
      obtain ⟨rfl, rfl⟩ := hS
      obtain ⟨q, rfl⟩ : ∃ q : Nat, S = (q : Int) := ⟨S.toNat, by omega⟩
      have hq : q < 8 := by omega
      cases hR : s.Ready with
      | false =>
        have ha : sender_ack s (q : Int) = some (false, s) := by unfold sender_ack; exact cnd_t (by rw [hR]; rfl) rfl
        exact ⟨_, _, hear_ack h ho q hq _ ha, .inl (show (11 : Int) ≠ 0 by decide)⟩
      | true =>
        obtain ⟨B, hB⟩ : ∃ B : Nat, s.Base = (B : Int) := ⟨s.Base.toNat, by have := h.b0; omega⟩
        obtain ⟨n, hN⟩ : ∃ n : Nat, s.Next = (n : Int) := ⟨s.Next.toNat, by have := h.b0; have := h.nB; omega⟩
        have hBn : B ≤ n := by have := h.nB; omega
        have hn7 : n ≤ B + 7 := by have := h.nW; omega
        have hnP := h.nP
        have hnn : n ≤ 1000 := by omega
        have wB : IntKind.i64.wrap (s.Base + 1) = ((B + 1 : Nat) : Int) := by rw [hB, wrap_i64 (by omega) (by omega)]; simp
        by_cases hex : ∃ a0, B + 1 ≤ a0 ∧ a0 ≤ n ∧ a0 % 8 = q
        · obtain ⟨a0, e1, e2, e3⟩ := hex
          have ha : sender_ack s (q : Int) = some (true, T_Send.mk s.Number s.Data s.Ready (a0 : Int) s.Next 3 s.Over) := by
            unfold sender_ack
            refine cnd_f (by rw [hR]; rfl) (bnd (x := ((B + 1 : Nat) : Int)) (by rw [wB]) (bndR (a := (true, T_Send.mk s.Number s.Data s.Ready (a0 : Int) s.Next 3 s.Over)) ?_ rfl))
            exact ack_some s n q a0 hN hnn e2 e3 (a0 - (B + 1)) BIG (B + 1) rfl e1 (by unfold BIG; omega) fun j j1 j2 j3 => by omega
          exact ⟨_, _, hear_ack h ho q hq _ ha, .inr ⟨rfl, rt_mk h (by omega) (by omega) (by omega) (by omega) (by omega) (by omega) (by omega) (.inl hR), rfl, rfl, rfl⟩⟩
        · have ha : sender_ack s (q : Int) = some (false, s) := by
            unfold sender_ack
            refine cnd_f (by rw [hR]; rfl) (bnd (x := ((B + 1 : Nat) : Int)) (by rw [wB]) (bndL (s := ()) ?_ rfl))
            exact ack_none s n q hN hnn (n - B) BIG (B + 1) (by omega) (by unfold BIG; omega) fun j j1 j2 j3 => hex ⟨j, j1, j2, j3⟩
          exact ⟨_, _, hear_ack h ho q hq _ ha, .inl (show (11 : Int) ≠ 0 by decide)⟩
    by_cases k5 : K = 5
    · subst k5
      have hS : O = 0 ∧ S = 0 ∧ D = [] := by
        have : O = 0 ∧ S = 0 ∧ D.length = 0 := by omega
        exact ⟨this.1, this.2.1, List.length_eq_zero_iff.1 this.2.2⟩
      obtain ⟨rfl, rfl, rfl⟩ := hS
      exact ⟨_, _, hear_done h ho, .inr ⟨rfl, rt_over h true, rfl, rfl, rfl⟩⟩
    · refine ⟨zeroSend, 11, ?_, .inl (by decide)⟩
      unfold sender_Hear
      refine bnd (check_rt h) (cnd_f rfl (bnd (check_eq _) ?_))
      rw [hg]
      refine cnd_f rfl (bndL (s := false) (cnd_f (by simp) (by rw [ho])) (cnd_f rfl (bnd (clone_eq s (by omega)) ?_)))
      exact bndL (bndL (cnd_f (by simpa using k2) (cnd_f (by simpa using k4) (cnd_f (by simpa using k5) rfl))) rfl) (cnd_t rfl rfl)
  · refine ⟨zeroSend, 11, ?_, .inl (by decide)⟩
    unfold sender_Hear
    refine bnd (check_rt h) (cnd_f rfl (bnd (check_eq _) ?_))
    rw [hg]
    exact cnd_f rfl (bndL (s := true) (cnd_t (by simpa using hn) rfl) (cnd_t rfl rfl))

/-- What a tick sends: right frames of its own number, pieces of its Data. -/
structure Out (s : T_Send) (f : T_Frame) : Prop where
  g : good f = true
  n : f.Number = s.Number
  d : f.Data.length ≤ 48
  p : f.Kind = 3 → ∃ at_ : Nat, f.Offset = (at_ : Int) ∧ at_ + f.Data.length ≤ s.Data.length ∧ f.Data = (s.Data.drop at_).take f.Data.length

theorem out_hello {s : T_Send} (h : Rt s) : Out s (helloF s) := by
  have := h.n1; have := h.n2; have := h.l1; have := h.l2
  refine ⟨?_, rfl, by simp [helloF], by intro h; simp [helloF] at h⟩
  dsimp only [good, helloF, numIn, offIn, seqIn]
  simp only [Bool.and_eq_true, Bool.or_eq_true, decide_eq_true_eq, beq_iff_eq, List.length_nil]
  refine ⟨by omega, .inl (.inl (.inl ?_))⟩
  simp
  omega
theorem out_piece {s : T_Send} (h : Rt s) (i : Nat) (hi : 48 * i < s.Data.length) : Out s (pieceF s i) := by
  have := h.n1; have := h.n2; have := h.l1; have := h.l2
  have hl := pieceD_len s i
  refine ⟨?g, rfl, by simp only [pieceF]; omega, fun _ => ⟨48 * i, rfl, by simp only [pieceF]; omega, ?_⟩⟩
  case g =>
    dsimp only [good, pieceF, numIn, offIn, seqIn]
    simp only [hl, Bool.and_eq_true, Bool.or_eq_true, decide_eq_true_eq, beq_iff_eq]
    refine ⟨by omega, .inl (.inl (.inr ?_))⟩
    simp
    omega
  simp only [pieceF, hl]
  unfold pieceD
  rw [List.take_eq_take_iff]
  simp
theorem out_tick {s : T_Send} (h : Rt s) : (∀ f ∈ (tickF s).2, Out s f) ∧ (tickF s).2.length ≤ 7 ∧ (s.Over = true → (tickF s).2 = []) := by
  have hw := wnd_bd h
  have hb := pcs_bd s
  have b0 := h.b0; have nB := h.nB
  unfold tickF
  split
  · simp
  rename_i ho
  refine ⟨?_, ?_, fun e => absurd e ho⟩
  · repeat' split
    · simp
    · simpa using out_hello h
    · intro f hf
      simp only [frames, List.mem_map, List.mem_range] at hf
      obtain ⟨k, hk, rfl⟩ := hf
      exact out_piece h _ (by omega)
    · simpa using out_hello h
    · simp
  · repeat' split
    all_goals simp only [frames_len, List.length_nil, List.length_singleton]
    all_goals omega

theorem stay_loop (s : T_Send) (x : T_Send) (hd : s.Data.length ≤ 5000) (o : Bool) (t : T_Send) (l : List T_Frame) (hl : l.length ≤ 7) (ho : l ≠ [] → o = false) (hout : ∀ f ∈ l, Out s f) : ∀ (k fuel a : Nat), l.length - a = k → a ≤ l.length → k < fuel →
    loopF (stayS s o (t, l, 0)) fuel (a : Int) = some (.inl ()) := by
  intro k
  induction k with
  | zero =>
    intro fuel a hk ha hf
    obtain ⟨f, rfl⟩ : ∃ f, fuel = f + 1 := ⟨fuel - 1, by omega⟩
    refine loop_exit ?_
    unfold stayS; exact cnd_f (by simp; omega) rfl
  | succ k ih =>
    intro fuel a hk ha hf
    obtain ⟨f, rfl⟩ : ∃ f, fuel = f + 1 := ⟨fuel - 1, by omega⟩
    have w1 : IntKind.i64.wrap ((a : Int) + 1) = ((a + 1 : Nat) : Int) := by rw [wrap_i64 (by omega) (by omega)]; simp
    have ha' : a < l.length := by omega
    have hx : ixO (a : Int) l.length = some a := ixO_of ha'
    have hg := getO_of ha'
    have hO := hout l[a] (List.getElem_mem ha')
    have ho' := ho (fun e => by subst e; simp at ha')
    obtain ⟨F, hF⟩ : ∃ F, F = l[a] := ⟨_, rfl⟩
    rw [← hF] at hg hO
    have hfr := refFrame_eqS F (by have := hO.d; omega)
    rw [hO.g] at hfr
    refine (loop_next ?_).trans (ih f (a + 1) (by omega) (by omega) (by omega))
    unfold stayS
    refine cnd_t (by simp; omega) (bndL (s := false) (bnd hx (bnd hg (bnd hfr (cnd_f rfl (bnd hx (bnd hg (cnd_f (by simp [hO.n]) (by rw [ho'])))))))) (cnd_f rfl (bnd hx (bnd hg (bndL (s := false) (bnd hx (bnd hg ?_)) (cnd_f rfl (bnd (x := ((a + 1 : Nat) : Int)) (by rw [w1]) rfl)))))))
    by_cases hk3 : F.Kind = 3
    · obtain ⟨at_, p1, p2, p3⟩ := hO.p hk3
      have hd48 := hO.d
      have w2 : IntKind.i64.wrap (F.Offset + (F.Data.length : Int)) = ((at_ + F.Data.length : Nat) : Int) := by rw [p1, wrap_i64 (by omega) (by omega)]; simp
      have hs : sliO s.Data F.Offset ((at_ + F.Data.length : Nat) : Int) = some F.Data := by
        unfold sliO
        rw [if_pos (by rw [p1]; omega), p1]
        simp only [Int.toNat_natCast]
        rw [show at_ + F.Data.length - at_ = F.Data.length by omega, ← p3]
      have hkp : wherrykeep_Bytes F.Data F.Data = some true := by rw [keepBytes_eq _ _ (by omega)]; simp
      exact cnd_t (by rw [hk3]; rfl) (bnd hx (bnd hg (bnd (x := ((at_ + F.Data.length : Nat) : Int)) (by rw [w2]) (cnd_f (by simp; omega) (bnd hx (bnd hg (bnd hx (bnd hg (bnd (x := ((at_ + F.Data.length : Nat) : Int)) (by rw [w2]) (bnd hs (bnd hkp rfl)))))))))))
    · exact cnd_f (by simpa using hk3) rfl

theorem stays_loop (s : T_Send) (hr : Rt s) (l : List T_Frame) (hl : l.length ≤ 40) : ∀ (k fuel i : Nat) (x : T_Send), l.length - i = k → i ≤ l.length → k < fuel → Rt x → x.Number = s.Number → x.Data = s.Data →
    loopF (staysS s l) fuel (x.Number, x.Data, x.Ready, x.Base, x.Next, x.Wait, x.Over, (i : Int)) = some (.inl ()) ∨ loopF (staysS s l) fuel (x.Number, x.Data, x.Ready, x.Base, x.Next, x.Wait, x.Over, (i : Int)) = some (.inr true) := by
  intro k
  induction k with
  | zero =>
    intro fuel i x hk hi hf hx hn hd
    obtain ⟨f, rfl⟩ : ∃ f, fuel = f + 1 := ⟨fuel - 1, by omega⟩
    exact .inl (loop_exit (by unfold staysS; exact cnd_f (by simp; omega) rfl))
  | succ k ih =>
    intro fuel i x hk hi hf hx hn hd
    obtain ⟨f, rfl⟩ : ∃ f, fuel = f + 1 := ⟨fuel - 1, by omega⟩
    have w1 : IntKind.i64.wrap ((i : Int) + 1) = ((i + 1 : Nat) : Int) := by rw [wrap_i64 (by omega) (by omega)]; simp
    have hi' : i < l.length := by omega
    have hix : ixO (i : Int) l.length = some i := ixO_of hi'
    have hg := getO_of hi'
    obtain ⟨F, hF⟩ : ∃ F, F = l[i] := ⟨_, rfl⟩
    rw [← hF] at hg
    have hlt : decide ((i : Int) < (l.length : Int)) = true := by simp; omega
    by_cases hF3 : 300 < F.Data.length
    · refine .inr (loop_exit ?_)
      unfold staysS
      exact cnd_t hlt (bndR (bnd hix (bnd hg (cnd_t (by simp; omega) rfl))) rfl)
    have hts := tick_same x
    have hto := out_tick hx
    have hrt := rt_tick hx
    obtain ⟨t, out, htk⟩ : ∃ t out, tickF x = (t, out) := ⟨_, _, rfl⟩
    rw [htk] at hts hto hrt
    dsimp only at hts hto hrt
    obtain ⟨t1, t2, t3⟩ := hts
    obtain ⟨o1, o2, o3⟩ := hto
    have l2 := hx.l2
    have hsl := hr.l2
    have hky : wherrykeep_Bytes t.Data s.Data = some true := by rw [keepBytes_eq _ _ (by rw [t2, hd]; omega), t2, hd]; simp
    have hst := refSend_eq t (by rw [t2, hd]; omega)
    rw [ok_of hrt] at hst
    have lp := stay_loop s x hsl x.Over t out o2 (fun hne => by
      cases h : x.Over
      · rfl
      · exact absurd (o3 h) hne) (fun f hf => by
        have := o1 f hf
        exact ⟨this.g, by rw [this.n, hn], this.d, by rw [← hd]; exact this.p⟩) out.length BIG 0 (by omega) (by omega) (by unfold BIG; omega)
    obtain ⟨z, e, hh, hcase⟩ := hear_cases hrt F
    have tk := tick_eq hx
    rw [htk] at tk
    rcases hcase with he | ⟨rfl, z1, z2, z3, z4⟩
    · have step : staysS s l (x.Number, x.Data, x.Ready, x.Base, x.Next, x.Wait, x.Over, (i : Int)) = some (.inl (t.Number, t.Data, t.Ready, t.Base, t.Next, t.Wait, t.Over, ((i + 1 : Nat) : Int))) := by
        unfold staysS
        refine cnd_t hlt (bndL (s := (t.Number, t.Data, t.Ready, t.Base, t.Next, t.Wait, t.Over)) (bnd hix (bnd hg (cnd_f (by simp; omega) (bnd tk (bndL (s := false) (cnd_f rfl (bnd hst (cnd_f rfl (cnd_f (by simp; omega) (cnd_f (by simp [t1, hn]) (bnd hky rfl)))))) (cnd_f rfl (bndL lp (bnd hix (bnd hg (bnd hh (cnd_t (by simpa using he) rfl))))))))))) (bnd (x := ((i + 1 : Nat) : Int)) (by rw [w1]) rfl))
      rw [loop_next step]
      exact ih f (i + 1) t (by omega) (by omega) (by omega) hrt (by rw [t1, hn]) (by rw [t2, hd])
    · have hsz := refSend_eq z (by rw [z3, t2, hd]; omega)
      rw [ok_of z1] at hsz
      have hkz : wherrykeep_Bytes z.Data s.Data = some true := by rw [keepBytes_eq _ _ (by rw [z3, t2, hd]; omega), z3, t2, hd]; simp
      have step : staysS s l (x.Number, x.Data, x.Ready, x.Base, x.Next, x.Wait, x.Over, (i : Int)) = some (.inl (z.Number, z.Data, z.Ready, z.Base, z.Next, z.Wait, z.Over, ((i + 1 : Nat) : Int))) := by
        unfold staysS
        refine cnd_t hlt (bndL (s := (z.Number, z.Data, z.Ready, z.Base, z.Next, z.Wait, z.Over)) (bnd hix (bnd hg (cnd_f (by simp; omega) (bnd tk (bndL (s := false) (cnd_f rfl (bnd hst (cnd_f rfl (cnd_f (by simp; omega) (cnd_f (by simp [t1, hn]) (bnd hky rfl)))))) (cnd_f rfl (bndL lp (bnd hix (bnd hg (bnd hh (cnd_f rfl (bndL (s := false) (bnd hsz (cnd_f rfl (cnd_f (by simp [z2, t1, hn]) (bnd hkz (cnd_f rfl (by rw [z4])))))) (cnd_f rfl rfl))))))))))))) (bnd (x := ((i + 1 : Nat) : Int)) (by rw [w1]) rfl))
      rw [loop_next step]
      exact ih f (i + 1) z (by omega) (by omega) (by omega) z1 (by rw [z2, t1, hn]) (by rw [z3, t2, hd])

theorem refSend_some (s : T_Send) : ∃ b, wherryref18_Send s = some b := by
  unfold wherryref18_Send
  obtain ⟨p, hp⟩ : ∃ p, wherryref18_pieces s.Data = some p := ⟨_, rfl⟩
  rw [hp]
  simp only [Option.bind_some, in_eq, c_and, c_or, b_inl]
  exact ⟨_, rfl⟩
theorem senderStays_true (s : T_Send) (l : List T_Frame) : wherrylaw21_SenderStays s l = some true := by
  unfold wherrylaw21_SenderStays
  obtain ⟨b, hb⟩ := refSend_some s
  by_cases h1 : 5100 < s.Data.length
  · refine bndL (s := true) (cnd_t (by simp; omega) rfl) (cnd_t rfl (bndL (s := true) (bnd hb ?_) rfl))
    cases b
    · rfl
    · exact cnd_f rfl (cnd_t (by simp; omega) rfl)
  by_cases h2 : 40 < l.length
  · refine bndL (s := true) (cnd_f (by simp; omega) (cnd_t (by simp; omega) rfl)) (cnd_t rfl (bndL (s := true) (bnd hb ?_) rfl))
    cases b
    · rfl
    · exact cnd_f rfl (cnd_f (by simp; omega) (by simp; omega))
  have href := refSend_eq s (by omega)
  have hck := check_eqS s (by omega)
  cases hok : sendOk s with
  | false =>
    rw [hok] at href hck
    exact bndL (s := true) (cnd_f (by simp; omega) (cnd_f (by simp; omega) (bnd hck rfl))) (cnd_t rfl (bndL (s := true) (bnd href rfl) rfl))
  | true =>
  rw [hok] at hck
  have hr := rt_of hok
  refine bndL (s := false) (cnd_f (by simp; omega) (cnd_f (by simp; omega) (bnd hck rfl))) (cnd_f rfl ?_)
  rcases stays_loop s hr l (by omega) l.length BIG 0 s (by omega) (by omega) (by unfold BIG; omega) hr rfl rfl with h | h
  · exact bndL h (bnd wakes21 rfl)
  · exact bndR h rfl
end Go.Abs.Sh
