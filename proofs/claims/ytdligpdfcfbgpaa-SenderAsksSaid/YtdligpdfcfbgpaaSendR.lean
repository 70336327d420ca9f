import Derived.Test.YtdligpdfcfbgpaaSendA
namespace Go.Abs.Sh
set_option linter.unusedVariables false
set_option linter.unusedSimpArgs false

def tickS (v3 : T_Send) (v4 : Int) : (((List T_Frame) × Int)) → Option (((List T_Frame) × Int) ⊕ (((List T_Frame)) ⊕ ((Bool × Int × Int × Int × (List T_Frame)) ⊕ (T_Send × (List T_Frame) × Int)))) := (fun ((s59, s60) : (List T_Frame) × Int) =>
                cond ((decide (s60 < v4)))
                  ((sender_piece v3 s60).bind fun v18 =>
                  (appO 56 s59 [v18]).bind fun v19 =>
                  (some (IntKind.i64.wrap (s60 + 1))).bind fun v20 =>
                  some (.inl (v19, v20)))
                  (some (.inr (.inl s59))))
def lrdyS (s : T_Send) (v13 : Int) (v22 : T_Send × (List T_Frame) × Int) : ((Int)) → Option ((Int) ⊕ ((Unit) ⊕ Bool)) := (fun (s70 : Int) =>
                          cond ((decide (s70 < (v22.2.1.length : Int))))
                            ((some (IntKind.i64.wrap (v13 + s70))).bind fun v41 =>
                            (some (IntKind.i64.wrap (v41 * 48))).bind fun v42 =>
                            bindS (S := Bool) (A := ((Int) ⊕ ((Unit) ⊕ Bool)))
                              ((ixO s70 v22.2.1.length).bind fun v43 =>
                              (getO v22.2.1 v43).bind fun v44 =>
                              cond ((v44.Kind != 3))
                                (some (.inl true))
                                ((ixO s70 v22.2.1.length).bind fun v45 =>
                                (getO v22.2.1 v45).bind fun v46 =>
                                cond ((v46.Offset != v42))
                                  (some (.inl true))
                                  ((ixO s70 v22.2.1.length).bind fun v47 =>
                                  (getO v22.2.1 v47).bind fun v48 =>
                                  (some (IntKind.i64.wrap (v13 + s70))).bind fun v49 =>
                                  (remO v49 8).bind fun v50 =>
                                  cond ((v48.Seq != v50))
                                    (some (.inl true))
                                    ((ixO s70 v22.2.1.length).bind fun v51 =>
                                    (getO v22.2.1 v51).bind fun v52 =>
                                    (some (IntKind.i64.wrap (v42 + 48))).bind fun v53 =>
                                    (some (if (s.Data.length : Int) < v53 then (s.Data.length : Int) else v53)).bind fun v54 =>
                                    (sliO s.Data v42 v54).bind fun v55 =>
                                    (wherrykeep_Bytes v52.Data v55).bind fun v56 =>
                                    some (.inl (!v56))))))
                              (fun (s84 : Bool) =>
                                cond (s84)
                                  (some (.inr (.inr (false))))
                                  ((some (IntKind.i64.wrap (s70 + 1))).bind fun v62 =>
                                  some (.inl v62))) some)
                            (some (.inr (.inl ()))))

/-- A piece's bytes and frame. -/
def pieceD (s : T_Send) (i : Nat) : List Int := (s.Data.drop (48 * i)).take 48
def pieceF (s : T_Send) (i : Nat) : T_Frame := T_Frame.mk 3 s.Number ((48 * i : Nat) : Int) ((i % 8 : Nat) : Int) (pieceD s i)
def helloF (s : T_Send) : T_Frame := T_Frame.mk 1 s.Number (s.Data.length : Int) 0 []

theorem slice_piece (l : List Int) (i : Nat) (h : 48 * i ≤ l.length) : sliO l ((48 * i : Nat) : Int) (if ((l.length : Nat) : Int) < ((48 * i + 48 : Nat) : Int) then ((l.length : Nat) : Int) else ((48 * i + 48 : Nat) : Int)) = some ((l.drop (48 * i)).take 48) := by
  unfold sliO
  by_cases hc : l.length < 48 * i + 48
  · rw [if_pos (show ((l.length : Nat) : Int) < ((48 * i + 48 : Nat) : Int) by omega), if_pos (by omega)]
    simp only [Int.toNat_natCast]
    rw [List.take_of_length_le (by rw [List.length_drop]; omega), List.take_of_length_le (by rw [List.length_drop]; omega)]
  · rw [if_neg (show ¬ ((l.length : Nat) : Int) < ((48 * i + 48 : Nat) : Int) by omega), if_pos (by omega)]
    simp only [Int.toNat_natCast]
    rw [show 48 * i + 48 - 48 * i = 48 by omega]
theorem pieceD_len (s : T_Send) (i : Nat) : (pieceD s i).length = min 48 (s.Data.length - 48 * i) := by simp [pieceD]

theorem piece_eq (s : T_Send) (i : Nat) (hl : s.Data.length ≤ 5000) (hi : 48 * i ≤ s.Data.length) : sender_piece s (i : Int) = some (pieceF s i) := by
  unfold sender_piece
  have w1 : IntKind.i64.wrap ((i : Int) * 48) = ((48 * i : Nat) : Int) := by rw [wrap_i64 (by omega) (by omega)]; omega
  have w2 : IntKind.i64.wrap (((48 * i : Nat) : Int) + 48) = ((48 * i + 48 : Nat) : Int) := by rw [wrap_i64 (by omega) (by omega)]; omega
  have hd := pieceD_len s i
  exact bnd (x := ((48 * i : Nat) : Int)) (by rw [w1]) (bnd (x := ((48 * i + 48 : Nat) : Int)) (by rw [w2]) (bnd rfl (bnd (rem8 i) (bnd (slice_piece s.Data i hi) (bnd (list_eq (pieceD s i) (by omega)) rfl)))))

def frames (s : T_Send) (a n : Nat) : List T_Frame := (List.range n).map fun k => pieceF s (a + k)
theorem frames_len (s : T_Send) (a n : Nat) : (frames s a n).length = n := by simp [frames]
theorem frames_get (s : T_Send) (a n k : Nat) (h : k < n) : getO (frames s a n) k = some (pieceF s (a + k)) := by simp [getO, frames, h]

theorem tick_loop (s : T_Send) (hl : s.Data.length ≤ 5000) (w : Nat) (hw : ∀ i, i < w → 48 * i ≤ s.Data.length) (hw2 : w ≤ 1000) : ∀ (k fuel a : Nat) (l : List T_Frame), w - a = k → k < fuel → l.length ≤ 1000 - k →
    loopF (tickS s (w : Int)) fuel (l, (a : Int)) = some (.inl (l ++ frames s a (w - a))) := by
  intro k
  induction k with
  | zero =>
    intro fuel a l hk hf hll
    obtain ⟨f, rfl⟩ : ∃ f, fuel = f + 1 := ⟨fuel - 1, by omega⟩
    refine loop_exit ?_
    rw [hk]
    unfold tickS; exact cnd_f (by simp; omega) (by simp [frames])
  | succ k ih =>
    intro fuel a l hk hf hll
    obtain ⟨f, rfl⟩ : ∃ f, fuel = f + 1 := ⟨fuel - 1, by omega⟩
    have w1 : IntKind.i64.wrap ((a : Int) + 1) = ((a + 1 : Nat) : Int) := by rw [wrap_i64 (by omega) (by omega)]; simp
    have e : l ++ frames s a (w - a) = (l ++ [pieceF s a]) ++ frames s (a + 1) (w - (a + 1)) := by
      rw [show w - a = (w - (a + 1)) + 1 by omega]
      simp only [frames, List.range_succ_eq_map, List.map_cons, List.map_map, List.append_assoc, List.cons_append, List.nil_append, Nat.add_zero]
      congr 2
      apply List.map_congr_left
      intro j _
      simp only [Function.comp, Nat.succ_eq_add_one]
      congr 1; omega
    rw [e]
    refine (loop_next ?_).trans (ih f (a + 1) (l ++ [pieceF s a]) (by omega) (by omega) (by simp; omega))
    unfold tickS
    exact cnd_t (by simp; omega) (bnd (piece_eq s a hl (hw a (by omega))) (bnd (x := l ++ [pieceF s a]) (by simp only [appO]; rw [if_pos (by simp; omega)]) (bnd (x := ((a + 1 : Nat) : Int)) (by rw [w1]) rfl)))

/-- What a tick makes. -/
def tickF (s : T_Send) : T_Send × List T_Frame :=
  if s.Over = true then (s, [])
  else if s.Ready = false ∨ s.Base = pcs s then (if 0 < s.Wait then (T_Send.mk s.Number s.Data s.Ready s.Base s.Next (s.Wait - 1) s.Over, []) else (T_Send.mk s.Number s.Data s.Ready s.Base s.Next 3 s.Over, [helloF s]))
  else if s.Next < wnd s then (T_Send.mk s.Number s.Data s.Ready s.Base (wnd s) 3 s.Over, frames s s.Next.toNat ((wnd s).toNat - s.Next.toNat))
  else if s.Wait = 0 then (T_Send.mk s.Number s.Data false 0 0 3 s.Over, [helloF s])
  else (T_Send.mk s.Number s.Data s.Ready s.Base s.Next (s.Wait - 1) s.Over, [])

theorem hello_eq (s : T_Send) : sender_hello s = some (helloF s) := rfl
theorem app1 (f : T_Frame) : appO 56 ([] : List T_Frame) [f] = some [f] := by simp [appO]

theorem tick_eq {s : T_Send} (h : Rt s) : sender_Tick s = some ((tickF s).1, (tickF s).2, 0) := by
  have l2 := h.l2
  have hl : s.Data.length ≤ 100000 := by omega
  have hb := pcs_bd s
  unfold sender_Tick
  refine bnd (check_rt h) (cnd_f rfl (bnd (clone_eq s hl) (bnd (window_eq s hl) ?_)))
  unfold tickF
  by_cases ho : s.Over = true
  · rw [if_pos ho]
    exact bndL (cnd_t ho rfl) rfl
  rw [if_neg ho]
  have ho' : s.Over = false := by simpa using ho
  have w0 := h.w0
  have w3 := h.w3
  have ww : 0 < s.Wait → IntKind.i64.wrap (s.Wait - 1) = s.Wait - 1 := fun _ => wrap_i64 (by omega) (by omega)
  by_cases hq : s.Ready = false ∨ s.Base = pcs s
  · rw [if_pos hq]
    have hsel : (cond ((!s.Ready)) (some (.inl true)) ((sender_pieces s).bind fun v6 => some (.inl (s.Base == v6))) : Option (Bool ⊕ ((Bool × Int × Int × Int × (List T_Frame)) ⊕ (T_Send × (List T_Frame) × Int)))) = some (.inl true) := by
      rcases hq with hq | hq
      · exact cnd_t (by rw [hq]; rfl) rfl
      · by_cases hr : s.Ready = false
        · exact cnd_t (by rw [hr]; rfl) rfl
        · exact cnd_f (by simpa using hr) (bnd (pieces_eq s hl) (by rw [← hq]; simp))
    by_cases hw : 0 < s.Wait
    · rw [if_pos hw]
      exact bndL (cnd_f ho' (bndL hsel (cnd_t rfl (cnd_t (by simpa using hw) (bnd (x := s.Wait - 1) (by rw [ww hw]) rfl))))) rfl
    · rw [if_neg hw]
      exact bndL (cnd_f ho' (bndL hsel (cnd_t rfl (cnd_f (by simpa using hw) (bnd (hello_eq s) (bnd (app1 _) rfl)))))) rfl
  rw [if_neg hq]
  have hsel : (cond ((!s.Ready)) (some (.inl true)) ((sender_pieces s).bind fun v6 => some (.inl (s.Base == v6))) : Option (Bool ⊕ ((Bool × Int × Int × Int × (List T_Frame)) ⊕ (T_Send × (List T_Frame) × Int)))) = some (.inl false) := by
    have h1 : s.Ready = true := by
      cases hr : s.Ready
      · exact absurd (.inl hr) hq
      · rfl
    have h2 : s.Base ≠ pcs s := fun e => hq (.inr e)
    exact cnd_f (by rw [h1]; rfl) (bnd (pieces_eq s hl) (by rw [beq_eq_false_iff_ne.2 h2]))
  have hwe := wnd_eq s h.b0 (by have := h.bP; omega)
  have hwb : 0 ≤ wnd s ∧ wnd s ≤ pcs s := by
    have := h.b0
    rw [hwe]; constructor <;> split <;> omega
  by_cases hn : s.Next < wnd s
  · rw [if_pos hn]
    have hn0 : 0 ≤ s.Next := by have := h.b0; have := h.nB; omega
    have lp := tick_loop s (by omega) (wnd s).toNat (fun i hi => by omega) (by omega) ((wnd s).toNat - s.Next.toNat) BIG s.Next.toNat [] rfl (by unfold BIG; omega) (by simp)
    rw [Int.toNat_of_nonneg hwb.1, Int.toNat_of_nonneg hn0, List.nil_append] at lp
    exact bndL (cnd_f ho' (bndL hsel (cnd_f rfl (cnd_t (by simpa using hn) (bndL lp rfl))))) rfl
  rw [if_neg hn]
  by_cases hw : s.Wait = 0
  · rw [if_pos hw]
    exact bndL (cnd_f ho' (bndL hsel (cnd_f rfl (cnd_f (by simpa using hn) (cnd_t (by simpa using hw) (bnd (hello_eq s) (bnd (app1 _) rfl))))))) rfl
  · rw [if_neg hw]
    exact bndL (cnd_f ho' (bndL hsel (cnd_f rfl (cnd_f (by simpa using hn) (cnd_f (by simpa using hw) (bnd (x := s.Wait - 1) (by rw [ww (by omega)]) rfl)))))) rfl

/-- An answer where to go on. -/
theorem hear_ready {s : T_Send} (h : Rt s) (ho : s.Over = false) (off : Nat) (hoff : off ≤ 5000) (r : Bool × T_Send) (hr : sender_ready s (off : Int) = some r) :
    sender_Hear s (T_Frame.mk 2 s.Number (off : Int) 0 []) = some (cond r.1 (r.2, 0) (zeroSend, 11)) := by
  have hg : good (T_Frame.mk 2 s.Number (off : Int) 0 []) = true := by
    have := h.n1; have := h.n2
    simp [good, numIn, offIn]; omega
  unfold sender_Hear
  refine bnd (check_rt h) (cnd_f rfl (bnd (check_eq _) ?_))
  rw [hg]
  refine cnd_f rfl (bndL (s := false) (cnd_f (by simp) (by rw [ho])) (cnd_f rfl (bnd (clone_eq s (by have := h.l2; omega)) ?_)))
  refine bndL (bndL (cnd_t rfl (bnd hr rfl)) rfl) ?_
  obtain ⟨b, t⟩ := r
  cases b
  · exact cnd_t rfl rfl
  · exact cnd_f rfl rfl
theorem quo48 (a : Nat) (h : a ≤ 100000) : quoO .i64 (a : Int) 48 = some ((a / 48 : Nat) : Int) := by
  simp only [quoO]
  rw [if_neg (by omega), Int.tdiv_eq_ediv_of_nonneg (by omega), wrap_i64 (by omega) (by omega)]
  rfl
theorem rem48 (a : Nat) : remO (a : Int) 48 = some ((a % 48 : Nat) : Int) := by
  simp only [remO]
  rw [if_neg (by omega), Int.tmod_eq_emod_of_nonneg (by omega)]
  rfl
/-- From a piece's beginning, or behind the last. -/
theorem ready_at (s : T_Send) (hl : s.Data.length ≤ 5000) (p : Nat) (hp : (p : Int) ≤ pcs s) : sender_ready s ((min (48 * p) s.Data.length : Nat) : Int) = some (true, T_Send.mk s.Number s.Data true (p : Int) (p : Int) 0 s.Over) := by
  have hb := pcs_bd s
  unfold sender_ready
  by_cases hw : s.Data.length ≤ 48 * p
  · have e : min (48 * p) s.Data.length = s.Data.length := by omega
    rw [e]
    have hpe : pcs s = (p : Int) := by omega
    refine bndL (s := false) (cnd_f (by simp) rfl) (cnd_f rfl (bnd (quo48 _ (by omega)) (bndL (s := (p : Int)) (cnd_t (by simp) (bnd (pieces_eq s (by omega)) (by rw [hpe]))) rfl)))
  · have e : min (48 * p) s.Data.length = 48 * p := by omega
    rw [e]
    have hne : (((48 * p : Nat) : Int) == (s.Data.length : Int)) = false := by simp; omega
    refine bndL (s := false) (cnd_t (by rw [hne]; rfl) (cnd_f (by simp; omega) (bnd (rem48 _) ?_))) (cnd_f rfl (bnd (quo48 _ (by omega)) (bndL (s := (p : Int)) (cnd_f hne ?_) rfl)))
    · rw [show 48 * p % 48 = 0 by omega]; rfl
    · rw [show 48 * p / 48 = p by omega]
theorem ready_past (s : T_Send) (hl : s.Data.length ≤ 5000) : sender_ready s ((s.Data.length + 1 : Nat) : Int) = some (false, s) := by
  unfold sender_ready
  have hne : (((s.Data.length + 1 : Nat) : Int) == (s.Data.length : Int)) = false := by simp; omega
  exact bndL (s := true) (cnd_t (by rw [hne]; rfl) (cnd_t (by simp; omega) rfl)) (cnd_t rfl rfl)

theorem rt_ready {s : T_Send} (h : Rt s) (p : Nat) (hp : (p : Int) ≤ pcs s) (w : Int) (hw0 : 0 ≤ w) (hw3 : w ≤ 3) (o : Bool) : Rt (T_Send.mk s.Number s.Data true (p : Int) (p : Int) w o) :=
  ⟨h.n1, h.n2, h.l1, h.l2, by simp, hp, by simp, by simp; omega, hp, hw0, hw3, .inl rfl⟩

/-- The law's look at the frames. -/
theorem lrdy_loop (s : T_Send) (hl : s.Data.length ≤ 5000) (p n : Nat) (hpn : 48 * (p + n) ≤ s.Data.length + 47) (x : T_Send) : ∀ (k fuel a : Nat), n - a = k → a ≤ n → k < fuel →
    loopF (lrdyS s (p : Int) (x, frames s p n, 0)) fuel (a : Int) = some (.inl ()) := by
  intro k
  induction k with
  | zero =>
    intro fuel a hk ha hf
    obtain ⟨f, rfl⟩ : ∃ f, fuel = f + 1 := ⟨fuel - 1, by omega⟩
    refine loop_exit ?_
    unfold lrdyS; exact cnd_f (by simp [frames_len]; omega) rfl
  | succ k ih =>
    intro fuel a hk ha hf
    obtain ⟨f, rfl⟩ : ∃ f, fuel = f + 1 := ⟨fuel - 1, by omega⟩
    have w1 : IntKind.i64.wrap ((a : Int) + 1) = ((a + 1 : Nat) : Int) := by rw [wrap_i64 (by omega) (by omega)]; simp
    have wp : IntKind.i64.wrap ((p : Int) + (a : Int)) = ((p + a : Nat) : Int) := by rw [wrap_i64 (by omega) (by omega)]; simp
    have w48 : IntKind.i64.wrap (((p + a : Nat) : Int) * 48) = ((48 * (p + a) : Nat) : Int) := by rw [wrap_i64 (by omega) (by omega)]; omega
    have w96 : IntKind.i64.wrap (((48 * (p + a) : Nat) : Int) + 48) = ((48 * (p + a) + 48 : Nat) : Int) := by rw [wrap_i64 (by omega) (by omega)]; omega
    have hx : ixO (a : Int) (frames s p n).length = some a := by rw [frames_len]; exact ixO_of (by omega)
    have hg := frames_get s p n a (by omega)
    have hsl := slice_piece s.Data (p + a) (by omega)
    have hk2 : wherrykeep_Bytes (pieceD s (p + a)) ((s.Data.drop (48 * (p + a))).take 48) = some true := by
      rw [keepBytes_eq _ _ (by rw [pieceD_len]; omega)]; simp [pieceD]
    refine (loop_next ?_).trans (ih f (a + 1) (by omega) (by omega) (by omega))
    unfold lrdyS
    refine cnd_t (by simp [frames_len]; omega) (bnd (x := ((p + a : Nat) : Int)) (by rw [wp]) (bnd (x := ((48 * (p + a) : Nat) : Int)) (by rw [w48]) (bndL (s := false) ?_ (cnd_f rfl (bnd (x := ((a + 1 : Nat) : Int)) (by rw [w1]) rfl)))))
    exact bnd hx (bnd hg (cnd_f rfl (bnd hx (bnd hg (cnd_f (by simp [pieceF]) (bnd hx (bnd hg (bnd (x := ((p + a : Nat) : Int)) (by rw [wp]) (bnd (rem8 (p + a)) (cnd_f (by simp [pieceF]) (bnd hx (bnd hg (bnd (x := ((48 * (p + a) + 48 : Nat) : Int)) (by rw [w96]) (bnd rfl (bnd hsl (bnd hk2 rfl))))))))))))))))

theorem u64_mod (z : Int) (n : Nat) (h0 : 0 < n) (hn : n ≤ 100000) : ∃ q : Nat, q < n ∧ remO (IntKind.u64.wrap z) (IntKind.u64.wrap (n : Int)) = some (q : Int) := by
  have e : (2 : Int) ^ 64 = 18446744073709551616 := by decide
  have h0' : 0 ≤ IntKind.u64.wrap z := by
    simp only [IntKind.wrap, IntKind.bits, IntKind.signed]
    simp only [e, Bool.false_and, Bool.false_eq_true, if_false]
    omega
  have hnw : IntKind.u64.wrap (n : Int) = (n : Int) := by
    simp only [IntKind.wrap, IntKind.bits, IntKind.signed]
    simp only [e, Bool.false_and, Bool.false_eq_true, if_false]
    omega
  obtain ⟨m, hm⟩ : ∃ m : Nat, IntKind.u64.wrap z = (m : Int) := ⟨(IntKind.u64.wrap z).toNat, by omega⟩
  rw [hm, hnw]
  refine ⟨m % n, Nat.mod_lt _ h0, ?_⟩
  simp only [remO]
  rw [if_neg (by omega), Int.tmod_eq_emod_of_nonneg (by omega)]
  rfl

theorem senderReady_true (s : T_Send) (piece : Int) : wherrylaw21_SenderReady s piece = some true := by
  unfold wherrylaw21_SenderReady
  by_cases h1 : 5100 < s.Data.length
  · exact bndL (s := true) (cnd_t (by simp; omega) rfl) (cnd_t rfl rfl)
  have href := refSend_eq s (by omega)
  cases hok : sendOk s with
  | false =>
    rw [hok] at href
    exact bndL (s := true) (cnd_f (by simp; omega) (bnd href (cnd_t rfl rfl))) (cnd_t rfl rfl)
  | true =>
  rw [hok] at href
  by_cases ho' : s.Over = true
  · exact bndL (s := true) (cnd_f (by simp; omega) (bnd href (cnd_f rfl (by rw [ho'])))) (cnd_t rfl rfl)
  have ho : s.Over = false := by simpa using ho'
  have hr := rt_of hok
  have l2 := hr.l2
  have l1 := hr.l1
  have hb := pcs_bd s
  obtain ⟨P, hP⟩ : ∃ P : Nat, pcs s = (P : Int) := ⟨_, rfl⟩
  have hPs : sender_Pieces s = some (P : Int) := by
    unfold sender_Pieces
    exact bnd (check_rt hr) (cnd_f rfl (bnd (pieces_eq s (by omega)) (by rw [hP])))
  have wP : IntKind.i64.wrap ((P : Int) + 1) = ((P + 1 : Nat) : Int) := by rw [wrap_i64 (by omega) (by omega)]; simp
  obtain ⟨p, hp, hrem⟩ := u64_mod piece (P + 1) (by omega) (by omega)
  have wp : IntKind.i64.wrap (p : Int) = (p : Int) := wrap_i64 (by omega) (by omega)
  have w48 : IntKind.i64.wrap ((p : Int) * 48) = ((48 * p : Nat) : Int) := by rw [wrap_i64 (by omega) (by omega)]; omega
  have hmin : (if (s.Data.length : Int) < ((48 * p : Nat) : Int) then (s.Data.length : Int) else ((48 * p : Nat) : Int)) = ((min (48 * p) s.Data.length : Nat) : Int) := by split <;> omega
  have hrd := ready_at s l2 p (by omega)
  have hear1 := hear_ready hr ho (min (48 * p) s.Data.length) (by omega) _ hrd
  rw [show (cond (true, T_Send.mk s.Number s.Data true (p : Int) (p : Int) 0 s.Over).1 ((true, T_Send.mk s.Number s.Data true (p : Int) (p : Int) 0 s.Over).2, (0 : Int)) (zeroSend, 11)) = (T_Send.mk s.Number s.Data true (p : Int) (p : Int) 0 s.Over, 0) from rfl] at hear1
  obtain ⟨x, hx⟩ : ∃ x, x = T_Send.mk s.Number s.Data true (p : Int) (p : Int) 0 s.Over := ⟨_, rfl⟩
  have hxr : Rt x := by rw [hx]; exact rt_ready hr p (by omega) 0 (by omega) (by omega) _
  have hxp : pcs x = (P : Int) := by rw [hx]; exact hP
  have tk := tick_eq hxr
  refine bndL (s := false) (cnd_f (by simp; omega) (bnd href (cnd_f rfl (by rw [ho])))) (cnd_f rfl (bnd hPs (cnd_f (by simp; omega) (bnd rfl (bnd (x := ((P + 1 : Nat) : Int)) (by rw [wP]) (bnd rfl (bnd hrem (bnd (x := (p : Int)) (by rw [wp]) (bnd (x := ((48 * p : Nat) : Int)) (by rw [w48]) (bnd (x := ((min (48 * p) s.Data.length : Nat) : Int)) (by rw [hmin]) (bnd hear1 ?_)))))))))))
  refine bndL (s := false) (cnd_f rfl (cnd_f rfl (cnd_f (by simp) (cnd_f (by simp) rfl)))) (cnd_f rfl ?_)
  rw [← hx]
  refine bnd tk (cnd_f rfl ?_)
  by_cases hpP : p = P
  · have e1 : tickF x = (T_Send.mk x.Number x.Data x.Ready x.Base x.Next 3 x.Over, [helloF x]) := by
      unfold tickF
      rw [if_neg (by rw [hx]; simp [ho]), if_pos (.inr (by rw [hxp, hx, hpP])), if_neg (by rw [hx]; simp)]
    rw [e1]
    refine cnd_t (by simp; omega) (bndL (s := true) (cnd_t rfl (bnd (ixO_of (i := 0) (n := 1) (by omega)) (bnd rfl (cnd_t rfl (bnd wakes21 rfl))))) rfl)
  · have hxb : x.Base = (p : Int) ∧ x.Next = (p : Int) ∧ x.Ready = true ∧ x.Over = false ∧ x.Data = s.Data ∧ x.Number = s.Number := by rw [hx]; exact ⟨rfl, rfl, rfl, ho, rfl, rfl⟩
    obtain ⟨xb, xn, xr, xo, xd, xm⟩ := hxb
    have hwx := wnd_eq x (by omega) (by omega)
    rw [hxp, xb] at hwx
    obtain ⟨n, hn⟩ : ∃ n : Nat, wnd x = ((p + n : Nat) : Int) ∧ n = min 7 (P - p) := by
      refine ⟨min 7 (P - p), ?_, rfl⟩
      rw [hwx]; split <;> omega
    obtain ⟨hn1, hn2⟩ := hn
    have e1 : tickF x = (T_Send.mk x.Number x.Data x.Ready x.Base (wnd x) 3 x.Over, frames x p n) := by
      unfold tickF
      rw [if_neg (by rw [xo]; simp), if_neg (by rw [xr, xb, hxp]; simp; omega), if_pos (by rw [xn, hn1]; omega)]
      rw [xn, hn1]
      simp only [Int.toNat_natCast]
      rw [show p + n - p = n by omega]
    rw [e1]
    have hfr : frames x p n = frames s p n := by
      unfold frames pieceF pieceD
      rw [xd, xm]
    have wPp : IntKind.i64.wrap ((P : Int) - (p : Int)) = ((P - p : Nat) : Int) := by rw [wrap_i64 (by omega) (by omega)]; omega
    have hif : (if ((P - p : Nat) : Int) < 7 then ((P - p : Nat) : Int) else 7) = (n : Int) := by split <;> omega
    have wpn : IntKind.i64.wrap ((p : Int) + ((frames x p n).length : Int)) = ((p + n : Nat) : Int) := by rw [frames_len, wrap_i64 (by omega) (by omega)]; simp
    have wl : IntKind.i64.wrap ((s.Data.length : Int) + 1) = ((s.Data.length + 1 : Nat) : Int) := by rw [wrap_i64 (by omega) (by omega)]; simp
    refine cnd_f (by simp; omega) (bndL (s := false) (bnd (x := ((P - p : Nat) : Int)) (by rw [wPp]) (bnd (x := (n : Int)) (by rw [hif]) (cnd_f (by simp [frames_len]) (bnd (x := ((p + n : Nat) : Int)) (by rw [← wpn]) (cnd_f (by show (wnd x != ((p + n : Nat) : Int)) = false; rw [hn1]; simp) ?_))))) (cnd_f rfl ?_))
    · have : (x.Base != (p : Int)) = false := by rw [xb]; simp
      exact congrArg (fun b => some (Sum.inl b)) this
    have lp := lrdy_loop s l2 p n (by omega) (T_Send.mk x.Number x.Data x.Ready x.Base (wnd x) 3 x.Over) n BIG 0 (by omega) (Nat.zero_le _) (by unfold BIG; omega)
    rw [hfr]
    refine bndL lp (bnd (x := ((s.Data.length + 1 : Nat) : Int)) (by rw [wl]) ?_)
    by_cases h5 : s.Data.length + 1 ≤ 5000
    · have hh := hear_ready hr ho (s.Data.length + 1) h5 _ (ready_past s l2)
      exact bnd hh (bndL (s := true) (cnd_t rfl (bnd wakes21 rfl)) rfl)
    · have hh := hear_bad hr (T_Frame.mk 2 s.Number ((s.Data.length + 1 : Nat) : Int) 0 []) (by
        simp [good, numIn, offIn]; omega)
      exact bnd hh (bndL (s := true) (cnd_f rfl (cnd_t rfl (bnd wakes21 rfl))) rfl)
end Go.Abs.Sh
