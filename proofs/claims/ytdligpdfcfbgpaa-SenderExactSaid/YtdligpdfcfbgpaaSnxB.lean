import Derived.Test.YtdligpdfcfbgpaaSnxA
namespace Go.Abs.Sh
set_option linter.unusedVariables false
set_option linter.unusedSimpArgs false
def tickR (s : T_Send) (v4 : Int) : ((List T_Frame) × Int) → Option (((List T_Frame) × Int) ⊕ (((List T_Frame)) ⊕ ((Bool × Int × Int × Int × (List T_Frame)) ⊕ (T_Send × (List T_Frame))))) := (fun ((s56, s57) : (List T_Frame) × Int) =>
                  cond ((decide (s57 < v4)))
                    ((wherryref18_chunk s s57).bind fun v16 =>
                    (appO 56 s56 [v16]).bind fun v17 =>
                    (some (IntKind.i64.wrap (s57 + 1))).bind fun v18 =>
                    some (.inl (v17, v18)))
                    (some (.inr (.inl s56))))
def ackR (s : T_Send) (f : T_Frame) (v1 : T_Send) : (Int) → Option ((Int) ⊕ ((Unit) ⊕ (Unit ⊕ (Unit ⊕ (T_Send × Int))))) := (fun (s163 : Int) =>
                    bindS (S := Bool) (A := ((Int) ⊕ ((Unit) ⊕ (Unit ⊕ (Unit ⊕ (T_Send × Int))))))
                      (cond ((decide (s163 ≤ s.Next)))
                        (some (.inl s.Ready))
                        (some (.inl false)))
                      (fun (s176 : Bool) =>
                        cond (s176)
                          ((remO s163 8).bind fun v24 =>
                          cond ((v24 == f.Seq))
                            (some (.inr (.inr (.inr (.inr (((T_Send.mk v1.Number v1.Data v1.Ready s163 v1.Next 3 v1.Over), 0)))))))
                            ((some (IntKind.i64.wrap (s163 + 1))).bind fun v26 =>
                            some (.inl v26)))
                          (some (.inr (.inl ())))) some)
theorem twinL (l : List Int) (h : l.length ≤ 100000) : wherrykeep_Twin l = some l := by
  unfold wherrykeep_Twin
  exact bnd (x := l) (by simp only [appO]; rw [if_pos (by simp; omega)]; simp) rfl
theorem twinS (s : T_Send) (h : s.Data.length ≤ 100000) : wherrykeep_TwinSend s = some s := by
  unfold wherrykeep_TwinSend
  exact bnd (twinL _ h) rfl
theorem twinF (f : T_Frame) (h : f.Data.length ≤ 100000) : wherrykeep_TwinFrame f = some f := by
  unfold wherrykeep_TwinFrame
  exact bnd (twinL _ h) rfl
theorem chunk_eq (s : T_Send) (i : Nat) (hl : s.Data.length ≤ 5000) (hi : 48 * i ≤ s.Data.length) : wherryref18_chunk s (i : Int) = some (pieceF s i) := by
  unfold wherryref18_chunk
  have w1 : IntKind.i64.wrap ((i : Int) * 48) = ((48 * i : Nat) : Int) := by rw [wrap_i64 (by omega) (by omega)]; omega
  have w2 : IntKind.i64.wrap (((48 * i : Nat) : Int) + 48) = ((48 * i + 48 : Nat) : Int) := by rw [wrap_i64 (by omega) (by omega)]; omega
  have hd := pieceD_len s i
  exact bnd (x := ((48 * i : Nat) : Int)) (by rw [w1]) (bnd (rem8 i) (bnd (x := ((48 * i + 48 : Nat) : Int)) (by rw [w2]) (bnd rfl (bnd (slice_piece s.Data i hi) (bnd (twinL (pieceD s i) (by omega)) rfl)))))
theorem rtick_loop (s : T_Send) (hl : s.Data.length ≤ 5000) (w : Nat) (hw : ∀ i, i < w → 48 * i ≤ s.Data.length) (hw2 : w ≤ 1000) : ∀ (k fuel a : Nat) (l : List T_Frame), w - a = k → k < fuel → l.length ≤ 1000 - k →
    loopF (tickR s (w : Int)) fuel (l, (a : Int)) = some (.inl (l ++ frames s a (w - a))) := by
  intro k
  induction k with
  | zero =>
    intro fuel a l hk hf hll
    obtain ⟨f, rfl⟩ : ∃ f, fuel = f + 1 := ⟨fuel - 1, by omega⟩
    refine loop_exit ?_
    rw [hk]
    unfold tickR; exact cnd_f (by simp; omega) (by simp [frames])
  | succ k ih =>
    intro fuel a l hk hf hll
    obtain ⟨f, rfl⟩ : ∃ f, fuel = f + 1 := ⟨fuel - 1, by omega⟩
    have w1 : IntKind.i64.wrap ((a : Int) + 1) = ((a + 1 : Nat) : Int) := by rw [wrap_i64 (by omega) (by omega)]; simp
    have e : l ++ frames s a (w - a) = (l ++ [pieceF s a]) ++ frames s (a + 1) (w - (a + 1)) := by
      rw [show w - a = (w - (a + 1)) + 1 by omega]
      simp only [frames, List.range_succ_eq_map, List.map_cons, List.map_map, List.append_assoc, List.cons_append, List.nil_append, Nat.add_zero]
      congr 2
      apply List.map_congr_left
      intro j _
      simp only [Function.comp, Nat.succ_eq_add_one]
      congr 1; omega
    rw [e]
    refine (loop_next ?_).trans (ih f (a + 1) (l ++ [pieceF s a]) (by omega) (by omega) (by simp; omega))
    unfold tickR
    exact cnd_t (by simp; omega) (bnd (chunk_eq s a hl (hw a (by omega))) (bnd (x := l ++ [pieceF s a]) (by simp only [appO]; rw [if_pos (by simp; omega)]) (bnd (x := ((a + 1 : Nat) : Int)) (by rw [w1]) rfl)))
theorem rtick_eq {s : T_Send} (h : Rt s) : wherryref18_Tick s = some (tickF s) := by
  have l2 := h.l2
  have hl : s.Data.length ≤ 100000 := by omega
  have hb := pcs_bd s
  unfold wherryref18_Tick
  refine bnd (twinS s hl) (bnd (rpieces_eq s hl) (bnd rfl (bnd (x := wnd s) rfl ?_)))
  unfold tickF
  by_cases ho : s.Over = true
  · rw [if_pos ho]
    exact bndL (cnd_t ho rfl) rfl
  rw [if_neg ho]
  have ho' : s.Over = false := by simpa using ho
  have w0 := h.w0
  have w3 := h.w3
  have ww : 0 < s.Wait → IntKind.i64.wrap (s.Wait - 1) = s.Wait - 1 := fun _ => wrap_i64 (by omega) (by omega)
  have ah : appO 56 ([] : List T_Frame) ([(T_Frame.mk 1 s.Number (s.Data.length : Int) 0 [])]) = some [helloF s] := app1 _
  by_cases hq : s.Ready = false ∨ s.Base = pcs s
  · rw [if_pos hq]
    have hsel : (cond ((!s.Ready)) (some (.inl true)) (some (.inl (s.Base == pcs s))) : Option (Bool ⊕ ((Bool × Int × Int × Int × (List T_Frame)) ⊕ (T_Send × (List T_Frame))))) = some (.inl true) := by
      rcases hq with hq | hq
      · exact cnd_t (by rw [hq]; rfl) rfl
      · by_cases hr : s.Ready = false
        · exact cnd_t (by rw [hr]; rfl) rfl
        · exact cnd_f (by simpa using hr) (by rw [← hq]; simp)
    by_cases hw : 0 < s.Wait
    · rw [if_pos hw]
      exact bndL (cnd_f ho' (bndL hsel (cnd_t rfl (cnd_t (by simpa using hw) (bnd (x := s.Wait - 1) (by rw [ww hw]) rfl))))) rfl
    · rw [if_neg hw]
      exact bndL (cnd_f ho' (bndL hsel (cnd_t rfl (cnd_f (by simpa using hw) (bnd ah rfl))))) rfl
  rw [if_neg hq]
  have hsel : (cond ((!s.Ready)) (some (.inl true)) (some (.inl (s.Base == pcs s))) : Option (Bool ⊕ ((Bool × Int × Int × Int × (List T_Frame)) ⊕ (T_Send × (List T_Frame))))) = some (.inl false) := by
    have h1 : s.Ready = true := by
      cases hr : s.Ready
      · exact absurd (.inl hr) hq
      · rfl
    have h2 : s.Base ≠ pcs s := fun e => hq (.inr e)
    exact cnd_f (by rw [h1]; rfl) (by rw [beq_eq_false_iff_ne.2 h2])
  have hwe := wnd_eq s h.b0 (by have := h.bP; omega)
  have hwb : 0 ≤ wnd s ∧ wnd s ≤ pcs s := by
    have := h.b0
    rw [hwe]; constructor <;> split <;> omega
  by_cases hn : s.Next < wnd s
  · rw [if_pos hn]
    have hn0 : 0 ≤ s.Next := by have := h.b0; have := h.nB; omega
    have lp := rtick_loop s (by omega) (wnd s).toNat (fun i hi => by omega) (by omega) ((wnd s).toNat - s.Next.toNat) BIG s.Next.toNat [] rfl (by unfold BIG; omega) (by simp)
    rw [Int.toNat_of_nonneg hwb.1, Int.toNat_of_nonneg hn0, List.nil_append] at lp
    exact bndL (cnd_f ho' (bndL hsel (cnd_f rfl (cnd_t (by simpa using hn) (bndL lp rfl))))) rfl
  rw [if_neg hn]
  by_cases hw : s.Wait = 0
  · rw [if_pos hw]
    exact bndL (cnd_f ho' (bndL hsel (cnd_f rfl (cnd_f (by simpa using hn) (cnd_f (by simp; omega) (bnd ah rfl)))))) rfl
  · rw [if_neg hw]
    exact bndL (cnd_f ho' (bndL hsel (cnd_f rfl (cnd_f (by simpa using hn) (cnd_t (by simp; omega) (bnd (x := s.Wait - 1) (by rw [ww (by omega)]) rfl)))))) rfl
theorem rack_none (s : T_Send) (f : T_Frame) (n q : Nat) (hq0 : f.Seq = (q : Int)) (hN : s.Next = (n : Int)) (hn : n ≤ 1000) (hR : s.Ready = true) : ∀ (k fuel a : Nat), n + 1 - a = k → k < fuel → (∀ j, a ≤ j → j ≤ n → j % 8 ≠ q) → loopF (ackR s f s) fuel (a : Int) = some (.inl ()) := by
  intro k
  induction k with
  | zero =>
    intro fuel a hk hf hno
    obtain ⟨g, rfl⟩ : ∃ g, fuel = g + 1 := ⟨fuel - 1, by omega⟩
    refine loop_exit ?_
    unfold ackR; exact bndL (s := false) (cnd_f (by rw [hN]; simp; omega) rfl) (cnd_f rfl rfl)
  | succ k ih =>
    intro fuel a hk hf hno
    obtain ⟨g, rfl⟩ : ∃ g, fuel = g + 1 := ⟨fuel - 1, by omega⟩
    have w : IntKind.i64.wrap ((a : Int) + 1) = ((a + 1 : Nat) : Int) := by rw [wrap_i64 (by omega) (by omega)]; simp
    refine (loop_next ?_).trans (ih g (a + 1) (by omega) (by omega) fun j h1 h2 => hno j (by omega) h2)
    have := hno a (Nat.le_refl _) (by omega)
    unfold ackR
    exact bndL (s := true) (cnd_t (by rw [hN]; simp; omega) (by rw [hR])) (cnd_t rfl (bnd (rem8 a) (cnd_f (by rw [hq0]; simp; omega) (bnd (x := ((a + 1 : Nat) : Int)) (by rw [w]) rfl))))
theorem rack_some (s : T_Send) (f : T_Frame) (n q a0 : Nat) (hq0 : f.Seq = (q : Int)) (hN : s.Next = (n : Int)) (hn : n ≤ 1000) (hR : s.Ready = true) (ha0 : a0 ≤ n) (hq : a0 % 8 = q) : ∀ (k fuel a : Nat), a0 - a = k → a ≤ a0 → k < fuel → (∀ j, a ≤ j → j < a0 → j % 8 ≠ q) →
    loopF (ackR s f s) fuel (a : Int) = some (.inr (.inr (.inr (T_Send.mk s.Number s.Data s.Ready (a0 : Int) s.Next 3 s.Over, 0)))) := by
  intro k
  induction k with
  | zero =>
    intro fuel a hk hle hf hno
    obtain ⟨g, rfl⟩ : ∃ g, fuel = g + 1 := ⟨fuel - 1, by omega⟩
    obtain rfl : a = a0 := by omega
    refine loop_exit ?_
    unfold ackR; exact bndL (s := true) (cnd_t (by rw [hN]; simp; omega) (by rw [hR])) (cnd_t rfl (bnd (rem8 a) (cnd_t (by rw [hq0]; simp; omega) rfl)))
  | succ k ih =>
    intro fuel a hk hle hf hno
    obtain ⟨g, rfl⟩ : ∃ g, fuel = g + 1 := ⟨fuel - 1, by omega⟩
    have w : IntKind.i64.wrap ((a : Int) + 1) = ((a + 1 : Nat) : Int) := by rw [wrap_i64 (by omega) (by omega)]; simp
    refine (loop_next ?_).trans (ih g (a + 1) (by omega) (by omega) (by omega) fun j h1 h2 => hno j (by omega) h2)
    have := hno a (Nat.le_refl _) (by omega)
    unfold ackR
    exact bndL (s := true) (cnd_t (by rw [hN]; simp; omega) (by rw [hR])) (cnd_t rfl (bnd (rem8 a) (cnd_f (by rw [hq0]; simp; omega) (bnd (x := ((a + 1 : Nat) : Int)) (by rw [w]) rfl))))
theorem rack_off (s : T_Send) (f : T_Frame) (hR : s.Ready = false) (k : Nat) (a : Int) : loopF (ackR s f s) (k + 1) a = some (.inl ()) := by
  refine loop_exit ?_
  unfold ackR
  refine bndL (s := false) ?_ (cnd_f rfl rfl)
  rw [hR]
  cases decide (a ≤ s.Next) <;> rfl
end Go.Abs.Sh
