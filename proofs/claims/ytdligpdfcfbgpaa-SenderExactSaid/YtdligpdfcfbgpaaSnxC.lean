import Derived.Test.YtdligpdfcfbgpaaSnxB
import Derived.Test.YtdligpdfcfbgpaaLoopM
namespace Go.Abs.Sh
set_option linter.unusedVariables false
set_option linter.unusedSimpArgs false
theorem rhear_pre {s : T_Send} (h : Rt s) (f : T_Frame) {r : Option (T_Send × Int)} (hb : ((f.Number != s.Number) || s.Over) = true) (hr : some (zeroSend, (11 : Int)) = r) : wherryref18_Hear s f = r := by
  subst hr
  unfold wherryref18_Hear
  refine bnd (twinS s (by have := h.l2; omega)) (bndL (s := true) ?_ (cnd_t rfl rfl))
  cases hn : (f.Number != s.Number)
  · rw [hn, Bool.false_or] at hb
    exact cnd_f rfl (by rw [hb])
  · exact cnd_t rfl rfl
theorem hear_num {s : T_Send} (h : Rt s) (f : T_Frame) (hg : good f = true) (hn : (f.Number != s.Number) = true) : sender_Hear s f = some (zeroSend, 11) := by
  unfold sender_Hear
  refine bnd (check_rt h) (cnd_f rfl (bnd (check_eq f) ?_))
  rw [hg]
  exact cnd_f rfl (bndL (s := true) (cnd_t hn rfl) (cnd_t rfl rfl))
theorem hear_other {s : T_Send} (h : Rt s) (f : T_Frame) (hg : good f = true) (hn : (f.Number != s.Number) = false) (ho : s.Over = false) (h2 : (f.Kind == 2) = false) (h4 : (f.Kind == 4) = false) (h5 : (f.Kind == 5) = false) : sender_Hear s f = some (zeroSend, 11) := by
  unfold sender_Hear
  refine bnd (check_rt h) (cnd_f rfl (bnd (check_eq f) ?_))
  rw [hg]
  exact cnd_f rfl (bndL (s := false) (cnd_f hn (by rw [ho])) (cnd_f rfl (bnd (clone_eq s (by have := h.l2; omega)) (bndL (bndL (cnd_f h2 (cnd_f h4 (cnd_f h5 rfl))) rfl) (cnd_t rfl rfl)))))
theorem rhear_other {s : T_Send} (h : Rt s) (f : T_Frame) (hn : (f.Number != s.Number) = false) (ho : s.Over = false) (h2 : (f.Kind == 2) = false) (h4 : (f.Kind == 4) = false) (h5 : (f.Kind == 5) = false) : wherryref18_Hear s f = some (zeroSend, 11) := by
  unfold wherryref18_Hear
  exact bnd (twinS s (by have := h.l2; omega)) (bndL (s := false) (cnd_f hn (by rw [ho])) (cnd_f rfl (bndL (s := ()) (bndL (s := ()) (cnd_f h2 (cnd_f h4 (cnd_f h5 rfl))) rfl) rfl)))
theorem rhear_done {s : T_Send} (h : Rt s) (ho : s.Over = false) : wherryref18_Hear s (T_Frame.mk 5 s.Number 0 0 []) = some (T_Send.mk s.Number s.Data s.Ready s.Base s.Next s.Wait true, 0) := by
  unfold wherryref18_Hear
  exact bnd (twinS s (by have := h.l2; omega)) (bndL (s := false) (cnd_f (by simp) (by rw [ho])) (cnd_f rfl (bndR (bndR (cnd_f rfl (cnd_f rfl (cnd_t rfl rfl))) rfl) rfl)))
theorem rhear_ready {s : T_Send} (h : Rt s) (ho : s.Over = false) (off : Nat) (hoff : off ≤ 5000) :
    wherryref18_Hear s (T_Frame.mk 2 s.Number (off : Int) 0 []) = some (if off = s.Data.length ∨ (off < s.Data.length ∧ off % 48 = 0) then (T_Send.mk s.Number s.Data true (((off + 47) / 48 : Nat) : Int) (((off + 47) / 48 : Nat) : Int) 0 s.Over, 0) else (zeroSend, 11)) := by
  have l2 := h.l2
  unfold wherryref18_Hear
  refine bnd (twinS s (by omega)) (bndL (s := false) (cnd_f (by simp) (by rw [ho])) (cnd_f rfl ?_))
  have w1 : some (IntKind.i64.wrap ((off : Int) + 48)) = some ((off + 48 : Nat) : Int) := by rw [some_wrap (by omega) (by omega)]; simp
  have w2 : some (IntKind.i64.wrap (((off + 48 : Nat) : Int) - 1)) = some ((off + 47 : Nat) : Int) := by rw [some_wrap (by omega) (by omega)]; congr 1; omega
  by_cases hA : off = s.Data.length ∨ (off < s.Data.length ∧ off % 48 = 0)
  · rw [if_pos hA]
    refine bndR (bndR (cnd_t rfl (bndL (s := false) ?_ (cnd_f rfl (bnd w1 (bnd w2 (bnd (quo48 _ (by omega)) rfl)))))) rfl) rfl
    refine cnd_f (by simp; omega) (bnd (rem48 off) ?_)
    by_cases hr : off % 48 = 0
    · exact cnd_f (by simp [hr]) rfl
    · refine cnd_t (by rw [bne_iff_ne]; omega) ?_
      have : off = s.Data.length := hA.resolve_right fun hc => hr hc.2
      simp [this]
  · rw [if_neg hA]
    refine bndR (bndR (cnd_t rfl (bndL (s := true) ?_ (cnd_t rfl rfl))) rfl) rfl
    by_cases hl : s.Data.length < off
    · exact cnd_t (by simp; omega) rfl
    · refine cnd_f (by simp; omega) (bnd (rem48 off) (cnd_t (by rw [bne_iff_ne]; omega) ?_))
      have : (off : Int) ≠ (s.Data.length : Int) := by omega
      simp [this]
theorem ready_is (s : T_Send) (hl : s.Data.length ≤ 5000) (off : Nat) (hoff : off ≤ 5000) :
    sender_ready s (off : Int) = some (if off = s.Data.length ∨ (off < s.Data.length ∧ off % 48 = 0) then (true, T_Send.mk s.Number s.Data true (((off + 47) / 48 : Nat) : Int) (((off + 47) / 48 : Nat) : Int) 0 s.Over) else (false, s)) := by
  by_cases hA : off = s.Data.length ∨ (off < s.Data.length ∧ off % 48 = 0)
  · rw [if_pos hA]
    have hp : (((off + 47) / 48 : Nat) : Int) ≤ pcs s := by unfold pcs; omega
    have := ready_at s hl ((off + 47) / 48) hp
    rw [show min (48 * ((off + 47) / 48)) s.Data.length = off by omega] at this
    exact this
  · rw [if_neg hA]
    rcases ready_cases s hl off hoff with h | ⟨p, _, hp⟩
    · exact h
    · exact absurd (by omega) hA
theorem ack_is {s : T_Send} (h : Rt s) (f : T_Frame) (hk : (f.Kind == 2) = false) (hk4 : (f.Kind == 4) = true) (hn : (f.Number != s.Number) = false) (ho : s.Over = false) (q : Nat) (hq0 : f.Seq = (q : Int)) (hq : q < 8) :
    ∃ r : Bool × T_Send, sender_ack s (q : Int) = some r ∧ wherryref18_Hear s f = some (cond r.1 (r.2, 0) (zeroSend, 11)) ∧ r.2.Data = s.Data := by
  obtain ⟨b, hb⟩ : ∃ b : Nat, s.Base = (b : Int) := ⟨s.Base.toNat, by have := h.b0; omega⟩
  obtain ⟨n, hN⟩ : ∃ n : Nat, s.Next = (n : Int) := ⟨s.Next.toNat, by have := h.b0; have := h.nB; omega⟩
  have hpb := pcs_bd s
  have l2 := h.l2
  have hnW := h.nW
  have hnP := h.nP
  have hbP := h.bP
  have w : some (IntKind.i64.wrap (s.Base + 1)) = some ((b + 1 : Nat) : Int) := by rw [hb, some_wrap (by omega) (by omega)]; simp
  have hpre : ∀ {r : Option (T_Send × Int)} {m : Option (Unit ⊕ (Unit ⊕ (T_Send × Int)))}, True → True := fun _ => trivial
  cases hR : s.Ready with
  | false =>
    refine ⟨(false, s), ?_, ?_, rfl⟩
    · unfold sender_ack
      exact cnd_t (by rw [hR]; rfl) rfl
    · unfold wherryref18_Hear
      exact bnd (twinS s (by omega)) (bndL (s := false) (cnd_f hn (by rw [ho])) (cnd_f rfl (bndL (s := ()) (bndL (s := ()) (cnd_f hk (cnd_t hk4 (bnd w (bndL (s := ()) (rack_off s f hR _ _) rfl)))) rfl) rfl)))
  | true =>
    by_cases hex : ∃ a, b + 1 ≤ a ∧ a ≤ n ∧ a % 8 = q
    · obtain ⟨a, h1, h2, h3⟩ := hex
      refine ⟨(true, T_Send.mk s.Number s.Data s.Ready (a : Int) s.Next 3 s.Over), ?_, ?_, rfl⟩
      · unfold sender_ack
        exact cnd_f (by rw [hR]; rfl) (bnd w (bndR (ack_some s n q a hN (by omega) h2 h3 (a - (b + 1)) BIG (b + 1) rfl h1 (by unfold BIG; omega) (fun j h4 h5 => by omega)) rfl))
      · unfold wherryref18_Hear
        exact bnd (twinS s (by omega)) (bndL (s := false) (cnd_f hn (by rw [ho])) (cnd_f rfl (bndR (bndR (cnd_f hk (cnd_t hk4 (bnd w (bndR (rack_some s f n q a hq0 hN (by omega) hR h2 h3 (a - (b + 1)) BIG (b + 1) rfl h1 (by unfold BIG; omega) (fun j h4 h5 => by omega)) rfl)))) rfl) rfl)))
    · have hno : ∀ j, b + 1 ≤ j → j ≤ n → j % 8 ≠ q := fun j h1 h2 h3 => hex ⟨j, h1, h2, h3⟩
      refine ⟨(false, s), ?_, ?_, rfl⟩
      · unfold sender_ack
        exact cnd_f (by rw [hR]; rfl) (bnd w (bndL (s := ()) (ack_none s n q hN (by omega) (n + 1 - (b + 1)) BIG (b + 1) rfl (by unfold BIG; omega) hno) rfl))
      · unfold wherryref18_Hear
        exact bnd (twinS s (by omega)) (bndL (s := false) (cnd_f hn (by rw [ho])) (cnd_f rfl (bndL (s := ()) (bndL (s := ()) (cnd_f hk (cnd_t hk4 (bnd w (bndL (s := ()) (rack_none s f n q hq0 hN (by omega) hR (n + 1 - (b + 1)) BIG (b + 1) rfl (by unfold BIG; omega) hno) rfl)))) rfl) rfl)))
theorem hear_same {s : T_Send} (h : Rt s) (f : T_Frame) (hg : good f = true) : ∃ z e, sender_Hear s f = some (z, e) ∧ wherryref18_Hear s f = some (z, e) ∧ z.Data.length ≤ 5000 := by
  have l2 := h.l2
  have hz : zeroSend.Data.length ≤ 5000 := by decide
  cases hn : (f.Number != s.Number) with
  | true => exact ⟨zeroSend, 11, hear_num h f hg hn, rhear_pre h f (by rw [hn]; rfl) rfl, hz⟩
  | false =>
  cases ho : s.Over with
  | true =>
    refine ⟨zeroSend, 11, ?_, rhear_pre h f (by rw [ho]; simp) rfl, hz⟩
    rw [hear_over h ho f, hg]; rfl
  | false =>
  have hnum : f.Number = s.Number := by simpa using hn
  obtain ⟨K, N, O, S, D⟩ := f
  simp only at hnum
  subst hnum
  by_cases h2 : K = 2
  · subst h2
    have hg2 := hg
    simp only [good, numIn, offIn, seqIn, Bool.and_eq_true, Bool.or_eq_true, decide_eq_true_eq, beq_iff_eq] at hg2
    obtain ⟨off, hO⟩ : ∃ off : Nat, O = (off : Int) := ⟨O.toNat, by omega⟩
    have hS : S = 0 := by omega
    have hD : D = [] := List.eq_nil_of_length_eq_zero (by omega)
    subst hO hS hD
    have hoff : off ≤ 5000 := by omega
    have hr := ready_is s l2 off hoff
    have h1 := hear_ready h ho off hoff _ hr
    have h3 := rhear_ready h ho off hoff
    by_cases hA : off = s.Data.length ∨ (off < s.Data.length ∧ off % 48 = 0)
    · rw [if_pos hA] at h1 h3
      exact ⟨_, _, h1, h3, l2⟩
    · rw [if_neg hA] at h1 h3
      exact ⟨_, _, h1, h3, hz⟩
  by_cases h4 : K = 4
  · subst h4
    have hg2 := hg
    simp only [good, numIn, offIn, seqIn, Bool.and_eq_true, Bool.or_eq_true, decide_eq_true_eq, beq_iff_eq] at hg2
    obtain ⟨q, hS⟩ : ∃ q : Nat, S = (q : Int) := ⟨S.toNat, by omega⟩
    have hO : O = 0 := by omega
    have hD : D = [] := List.eq_nil_of_length_eq_zero (by omega)
    subst hO hS hD
    obtain ⟨r, hr, h3, h4⟩ := ack_is h (T_Frame.mk 4 s.Number 0 (q : Int) []) rfl rfl (by simp) ho q rfl (by omega)
    have h1 := hear_ack h ho q (by omega) r hr
    refine ⟨_, _, h1, h3, ?_⟩
    cases r.1
    · exact hz
    · show r.2.Data.length ≤ 5000
      rw [h4]; exact l2
  by_cases h5 : K = 5
  · subst h5
    have hg2 := hg
    simp only [good, numIn, offIn, seqIn, Bool.and_eq_true, Bool.or_eq_true, decide_eq_true_eq, beq_iff_eq] at hg2
    have hO : O = 0 := by omega
    have hS : S = 0 := by omega
    have hD : D = [] := List.eq_nil_of_length_eq_zero (by omega)
    subst hO hS hD
    exact ⟨_, _, hear_done h ho, rhear_done h ho, l2⟩
  · have k2 : (K == 2) = false := beq_eq_false_iff_ne.2 h2
    have k4 : (K == 4) = false := beq_eq_false_iff_ne.2 h4
    have k5 : (K == 5) = false := beq_eq_false_iff_ne.2 h5
    exact ⟨zeroSend, 11, hear_other h _ hg hn ho k2 k4 k5, rhear_other h _ hn ho k2 k4 k5, hz⟩
def ovR  : ((List Int) × Int) → Option (((List Int) × Int) ⊕ (((List Int)) ⊕ (List Int))) := (fun ((s11, s12) : (List Int) × Int) =>
      cond ((decide (s12 < (s11.length : Int))))
        ((ixO s12 s11.length).bind fun v2 =>
        (getO s11 v2).bind fun v3 =>
        (some (IntKind.u8.wrap (v3 + 91))).bind fun v4 =>
        (ixO s12 s11.length).bind fun v5 =>
        (some (s11.set v5 v4)).bind fun v6 =>
        (some (IntKind.i64.wrap (s12 + 1))).bind fun v7 =>
        some (.inl (v6, v7)))
        (some (.inr (.inl s11))))
def ovE  : ((List Int) × Int) → Option (((List Int) × Int) ⊕ ((Unit) ⊕ Unit)) := (fun ((s11, s12) : (List Int) × Int) =>
      cond ((decide (s12 < (s11.length : Int))))
        ((ixO s12 s11.length).bind fun v2 =>
        (getO s11 v2).bind fun v3 =>
        (some (IntKind.u8.wrap (v3 + 91))).bind fun v4 =>
        (ixO s12 s11.length).bind fun v5 =>
        (some (s11.set v5 v4)).bind fun v6 =>
        (some (IntKind.i64.wrap (s12 + 1))).bind fun v7 =>
        some (.inl (v6, v7)))
        (some (.inr (.inl ()))))
theorem ovR_go : ∀ (n i : Nat) (l : List Int) (fuel : Nat), i + n = l.length → l.length < 4000000000 → n < fuel → ∃ r, loopF ovR fuel (l, (i : Int)) = some (.inl r) ∧ r.length = l.length
  | 0, i, l, fuel, hn, hl, hf => by
    obtain ⟨k, rfl⟩ : ∃ k, fuel = k + 1 := ⟨fuel - 1, by omega⟩
    exact ⟨l, loop_exit (o := Sum.inl l) (by unfold ovR; exact cnd_f (decide_eq_false (by omega)) rfl), rfl⟩
  | n + 1, i, l, fuel, hn, hl, hf => by
    obtain ⟨k, rfl⟩ : ∃ k, fuel = k + 1 := ⟨fuel - 1, by omega⟩
    have hi : i < l.length := by omega
    have hs : ovR (l, (i : Int)) = some (.inl (l.set i (IntKind.u8.wrap (l[i] + 91)), ((i + 1 : Nat) : Int))) := by
      unfold ovR
      exact cnd_t (decide_eq_true (by omega)) (bnd (ixO_of hi) (bnd (getO_of hi) (bnd rfl (bnd (ixO_of hi) (bnd rfl (bnd (x := ((i + 1 : Nat) : Int)) (by rw [some_wrap (by omega) (by omega)]; simp) rfl))))))
    rw [loop_next hs]
    obtain ⟨r, h1, h2⟩ := ovR_go n (i + 1) (l.set i (IntKind.u8.wrap (l[i] + 91))) k (by rw [List.length_set]; omega) (by rw [List.length_set]; omega) (by omega)
    exact ⟨r, h1, by rw [h2, List.length_set]⟩
theorem over_row (l : List Int) (hl : l.length < 4000000000) : ∃ r, wherrykeep_Over_row l = some r ∧ r.length = l.length := by
  obtain ⟨r, h1, h2⟩ := ovR_go l.length 0 l BIG (by omega) hl (by unfold BIG; omega)
  refine ⟨r, ?_, h2⟩
  unfold wherrykeep_Over_row
  exact bndL (s := r) h1 rfl
theorem ovE_go : ∀ (n i : Nat) (l : List Int) (fuel : Nat), i + n = l.length → l.length < 4000000000 → n < fuel → loopF ovE fuel (l, (i : Int)) = some (.inl ())
  | 0, i, l, fuel, hn, hl, hf => by
    obtain ⟨k, rfl⟩ : ∃ k, fuel = k + 1 := ⟨fuel - 1, by omega⟩
    exact loop_exit (o := Sum.inl ()) (by unfold ovE; exact cnd_f (decide_eq_false (by omega)) rfl)
  | n + 1, i, l, fuel, hn, hl, hf => by
    obtain ⟨k, rfl⟩ : ∃ k, fuel = k + 1 := ⟨fuel - 1, by omega⟩
    have hi : i < l.length := by omega
    have hs : ovE (l, (i : Int)) = some (.inl (l.set i (IntKind.u8.wrap (l[i] + 91)), ((i + 1 : Nat) : Int))) := by
      unfold ovE
      exact cnd_t (decide_eq_true (by omega)) (bnd (ixO_of hi) (bnd (getO_of hi) (bnd rfl (bnd (ixO_of hi) (bnd rfl (bnd (x := ((i + 1 : Nat) : Int)) (by rw [some_wrap (by omega) (by omega)]; simp) rfl))))))
    rw [loop_next hs]
    exact ovE_go n (i + 1) _ k (by rw [List.length_set]; omega) (by rw [List.length_set]; omega) (by omega)
theorem over_all (l : List Int) (hl : l.length < 4000000000) : wherrykeep_Over l = some () := by
  unfold wherrykeep_Over
  exact bndL (s := ()) (ovE_go l.length 0 l BIG (by omega) hl (by unfold BIG; omega)) rfl
theorem keepFrames_self (a : List T_Frame) (h : ∀ f ∈ a, f.Data.length < 4294967296) (hl : a.length < 1000000) : wherrykeep_Frames a a = some true := by
  unfold wherrykeep_Frames
  refine cnd_f (by simp) (bndL (s := ()) ?_ rfl)
  refine (loop_all (R := Bool) (fun _ => true) a.length false (fuel := BIG) (by unfold BIG; omega) (fun i hi _ => ?_) (fun i hi hp => by cases hp) ?_).trans (by rw [if_pos fun _ _ => rfl])
  · exact cnd_t (decide_eq_true (by omega)) (bnd (ixO_of hi) (bnd (getO_of hi) (bnd (ixO_of hi) (bnd (getO_of hi) (bnd (keepFrame_eq _ _ (h _ (List.getElem_mem hi))) (cnd_f (by simp) (bnd (x := ((i + 1 : Nat) : Int)) (by rw [some_wrap (by omega) (by omega)]; simp) rfl)))))))
  · exact cnd_f (decide_eq_false (by omega)) rfl
def snS  : ((List T_Frame) × Int) → Option (((List T_Frame) × Int) ⊕ ((Unit) ⊕ Bool)) := (fun ((s71, s72) : (List T_Frame) × Int) =>
                                    cond ((decide (s72 < (s71.length : Int))))
                                      ((ixO s72 s71.length).bind fun v64 =>
                                      (getO s71 v64).bind fun v65 =>
                                      (wherrykeep_Over_row v65.Data).bind fun v66 =>
                                      (some (IntKind.i64.wrap (s72 + 1))).bind fun v67 =>
                                      some (.inl (((s71.set v64 (T_Frame.mk v65.Kind v65.Number v65.Offset v65.Seq v66)), v67))))
                                      (some (.inr (.inl ()))))
theorem sn_go : ∀ (n i : Nat) (l : List T_Frame) (fuel : Nat), i + n = l.length → l.length < 1000000 → (∀ f ∈ l, f.Data.length < 4000000000) → n < fuel → loopF snS fuel (l, (i : Int)) = some (.inl ())
  | 0, i, l, fuel, hn, hl, hd, hf => by
    obtain ⟨k, rfl⟩ : ∃ k, fuel = k + 1 := ⟨fuel - 1, by omega⟩
    exact loop_exit (o := Sum.inl ()) (by unfold snS; exact cnd_f (decide_eq_false (by omega)) rfl)
  | n + 1, i, l, fuel, hn, hl, hd, hf => by
    obtain ⟨k, rfl⟩ : ∃ k, fuel = k + 1 := ⟨fuel - 1, by omega⟩
    have hi : i < l.length := by omega
    obtain ⟨r, h1, h2⟩ := over_row l[i].Data (hd _ (List.getElem_mem hi))
    have hs : snS (l, (i : Int)) = some (.inl (l.set i (T_Frame.mk l[i].Kind l[i].Number l[i].Offset l[i].Seq r), ((i + 1 : Nat) : Int))) := by
      unfold snS
      exact cnd_t (decide_eq_true (by omega)) (bnd (ixO_of hi) (bnd (getO_of hi) (bnd h1 (bnd (x := ((i + 1 : Nat) : Int)) (by rw [some_wrap (by omega) (by omega)]; simp) rfl))))
    rw [loop_next hs]
    refine sn_go n (i + 1) _ k (by rw [List.length_set]; omega) (by rw [List.length_set]; omega) (fun f hf => ?_) (by omega)
    rcases List.mem_or_eq_of_mem_set hf with h | h
    · exact hd f h
    · subst h
      show r.length < 4000000000
      rw [h2]; exact hd _ (List.getElem_mem hi)
end Go.Abs.Sh
