import Derived.Test.YtepjhmgmejpkpaaSymF
import Derived.Test.YtepjhmgmejpkpaaBitM
namespace Go.Abs.Sh
set_option linter.unusedVariables false
set_option linter.unusedSimpArgs false

theorem in_eqs (n lo hi : Int) : wherryref01_in n lo hi = some (decide (lo ≤ n) && decide (n ≤ hi)) := by
  unfold wherryref01_in
  cases h : decide (lo ≤ n) <;> rfl
theorem all_of {f : Nat → Bool} {n : Nat} (h : (List.range n).all f = true) : ∀ k, k < n → f k = true := fun k hk => List.all_eq_true.1 h k (List.mem_range.2 hk)

def findS (s : T_sym_scale) (n : Int) : ((Int)) → Option ((Int) ⊕ ((Unit) ⊕ (Int × Int × Int))) := (fun (s9 : Int) =>
  (sym_scale_symbol s s9).bind fun v1 =>
  (some (IntKind.i64.wrap (n - v1.1))).bind fun v2 =>
  (shlO .i64 1 v1.2).bind fun v3 =>
  cond ((decide (v2 < v3)))
    ((some (IntKind.i64.wrap (n - v1.1))).bind fun v5 =>
    some (.inr (.inr ((s9, v1.2, v5)))))
    ((some (IntKind.i64.wrap (s9 + 1))).bind fun v6 =>
    some (.inl v6)))
def rdistS (n : Int) : ((Int)) → Option ((Int) ⊕ ((Unit) ⊕ (Int × Int × Int × Int))) := (fun (s11 : Int) =>
    cond ((decide (0 < s11)))
      ((wherryref01_DistOf s11).bind fun v4 =>
      cond ((decide (v4.1 ≤ n)))
        ((some (IntKind.i64.wrap (n - v4.1))).bind fun v6 =>
        some (.inr (.inr ((s11, v4.2.1, v6, 0)))))
        ((some (IntKind.i64.wrap (s11 - 1))).bind fun v7 =>
        some (.inl v7)))
      (some (.inr (.inl ()))))

def dE (s : Nat) : Nat := if s < 4 then 0 else (s - 2) / 2
def dL (s : Nat) : Nat := if s < 4 then s + 1 else 1 + (2 + s % 2) * 2 ^ ((s - 2) / 2)
theorem dist_up : ∀ s : Nat, s < 30 → decide (sym_scale_symbol (T_sym_scale.mk 1 4 2) (s : Int) = some ((dL s : Int), (dE s : Int))) = true := all_of (by kernel_rfl)
theorem dist_of : ∀ s : Nat, s < 30 → decide (wherryref01_DistOf (s : Int) = some ((dL s : Int), (dE s : Int), 0)) = true := all_of (by kernel_rfl)
theorem dist_sep : ∀ t, t < 30 → ∀ s, s < t → dL s + 2 ^ dE s ≤ dL t := by decide
theorem dist_end : ∀ t, t < 29 → dL t + 2 ^ dE t = dL (t + 1) := by decide
theorem dist_e : ∀ t, t < 30 → dE t ≤ 13 ∧ dL t ≤ 24577 := by decide
theorem dist_find (n : Nat) (h1 : 1 ≤ n) (h2 : n ≤ 32768) : ∃ s, s < 30 ∧ dL s ≤ n ∧ n < dL s + 2 ^ dE s := by
  have key : ∀ k, k < 30 → (∃ s, s < 30 ∧ dL s ≤ n ∧ n < dL s + 2 ^ dE s) ∨ dL k ≤ n := by
    intro k
    induction k with
    | zero => intro _; exact .inr h1
    | succ k ih =>
      intro hk
      rcases ih (by omega) with h | h
      · exact .inl h
      · by_cases hlt : n < dL k + 2 ^ dE k
        · exact .inl ⟨k, by omega, h, hlt⟩
        · have := dist_end k (by omega)
          exact .inr (by omega)
  rcases key 29 (by omega) with h | h
  · exact h
  · have e : dL 29 + 2 ^ dE 29 = 32769 := by decide
    exact ⟨29, by omega, h, by omega⟩
theorem shl1_i64 : ∀ e : Nat, e < 20 → decide (shlO .i64 1 (e : Int) = some ((2 ^ e : Nat) : Int)) = true := by decide

theorem up_eq (n s0 : Nat) (hs : s0 < 30) (h1 : dL s0 ≤ n) (h2 : n < dL s0 + 2 ^ dE s0) (hn : n ≤ 32768) : ∀ (k fuel i : Nat), s0 - i = k → i ≤ s0 → k < fuel →
    loopF (findS (T_sym_scale.mk 1 4 2) (n : Int)) fuel (i : Int) = some (.inr ((s0 : Int), (dE s0 : Int), ((n - dL s0 : Nat) : Int))) := by
  intro k
  induction k with
  | zero =>
    intro fuel i hk hi hf
    obtain ⟨f, rfl⟩ : ∃ f, fuel = f + 1 := ⟨fuel - 1, by omega⟩
    have : i = s0 := by omega
    subst this
    have e1 := of_decide_eq_true (dist_up i hs)
    have e2 := of_decide_eq_true (shl1_i64 (dE i) (by have := (dist_e i hs).1; omega))
    generalize 2 ^ dE i = p at *
    have w : IntKind.i64.wrap ((n : Int) - (dL i : Int)) = ((n - dL i : Nat) : Int) := by rw [wrap_i64 (by omega) (by omega)]; omega
    refine loop_exit ?_
    unfold findS
    exact bnd e1 (bnd (x := ((n - dL i : Nat) : Int)) (by rw [w]) (bnd e2 (cnd_t (by simp; omega) (bnd (x := ((n - dL i : Nat) : Int)) (by rw [w]) rfl))))
  | succ k ih =>
    intro fuel i hk hi hf
    obtain ⟨f, rfl⟩ : ∃ f, fuel = f + 1 := ⟨fuel - 1, by omega⟩
    have hi30 : i < 30 := by omega
    have e1 := of_decide_eq_true (dist_up i hi30)
    have e2 := of_decide_eq_true (shl1_i64 (dE i) (by have := (dist_e i hi30).1; omega))
    have hsep := dist_sep s0 hs i (by omega)
    generalize 2 ^ dE i = p at *
    have w : IntKind.i64.wrap ((n : Int) - (dL i : Int)) = ((n - dL i : Nat) : Int) := by rw [wrap_i64 (by omega) (by omega)]; omega
    have w1 : IntKind.i64.wrap ((i : Int) + 1) = ((i + 1 : Nat) : Int) := by rw [wrap_i64 (by omega) (by omega)]; simp
    refine (loop_next ?_).trans (ih f (i + 1) (by omega) (by omega) (by omega))
    unfold findS
    exact bnd e1 (bnd (x := ((n - dL i : Nat) : Int)) (by rw [w]) (bnd e2 (cnd_f (by simp; omega) (bnd (x := ((i + 1 : Nat) : Int)) (by rw [w1]) rfl))))
theorem down_eq (n s0 : Nat) (hs : s0 < 30) (h1 : dL s0 ≤ n) (h2 : n < dL s0 + 2 ^ dE s0) (hn : n ≤ 32768) : ∀ (k fuel i : Nat), i - s0 = k → s0 ≤ i → i < 30 → k < fuel →
    loopF (rdistS (n : Int)) fuel (i : Int) = some (if s0 = 0 then .inl () else .inr ((s0 : Int), (dE s0 : Int), ((n - dL s0 : Nat) : Int), 0)) := by
  intro k
  induction k with
  | zero =>
    intro fuel i hk hi h30 hf
    obtain ⟨f, rfl⟩ : ∃ f, fuel = f + 1 := ⟨fuel - 1, by omega⟩
    have : i = s0 := by omega
    subst this
    refine loop_exit ?_
    unfold rdistS
    by_cases h0 : i = 0
    · subst h0; rfl
    · rw [if_neg h0]
      have e1 := of_decide_eq_true (dist_of i hs)
      have w : IntKind.i64.wrap ((n : Int) - (dL i : Int)) = ((n - dL i : Nat) : Int) := by rw [wrap_i64 (by omega) (by omega)]; omega
      exact cnd_t (by simp; omega) (bnd e1 (cnd_t (by simp; omega) (bnd (x := ((n - dL i : Nat) : Int)) (by rw [w]) rfl)))
  | succ k ih =>
    intro fuel i hk hi h30 hf
    obtain ⟨f, rfl⟩ : ∃ f, fuel = f + 1 := ⟨fuel - 1, by omega⟩
    have e1 := of_decide_eq_true (dist_of i h30)
    have hsep := dist_sep i h30 s0 (by omega)
    have w1 : IntKind.i64.wrap ((i : Int) - 1) = ((i - 1 : Nat) : Int) := by rw [wrap_i64 (by omega) (by omega)]; omega
    refine (loop_next ?_).trans (ih f (i - 1) (by omega) (by omega) (by omega) (by omega))
    unfold rdistS
    exact cnd_t (by simp; omega) (bnd e1 (cnd_f (by simp; omega) (bnd (x := ((i - 1 : Nat) : Int)) (by rw [w1]) rfl)))

theorem dist_same (n : Int) : ∃ r, sym_Dist n = some r ∧ wherryref01_Dist n = some r ∧ (1 ≤ n ∧ n ≤ 32768 → ∃ s : Nat, s < 30 ∧ r.1 = (s : Int)) := by
  by_cases h : 1 ≤ n ∧ n ≤ 32768
  case neg =>
    refine ⟨(0, 0, 0, 1), ?_, ?_, fun h' => absurd h' h⟩
    · unfold sym_Dist
      refine bndL (s := true) ?_ (cnd_t rfl rfl)
      by_cases h1 : n < 1
      · exact cnd_t (by simp [h1]) rfl
      · exact cnd_f (by simp; omega) (by rw [decide_eq_true (by omega)])
    · unfold wherryref01_Dist
      refine bnd (in_eqs _ _ _) (cnd_t ?_ rfl)
      by_cases h1 : 1 ≤ n
      · rw [decide_eq_true h1, decide_eq_false (by omega)]; rfl
      · rw [decide_eq_false h1]; rfl
  obtain ⟨N, hN⟩ : ∃ N : Nat, n = (N : Int) := ⟨n.toNat, by omega⟩
  subst hN
  obtain ⟨s, hs, h1, h2⟩ := dist_find N (by omega) (by omega)
  refine ⟨((s : Int), (dE s : Int), ((N - dL s : Nat) : Int), 0), ?_, ?_, fun _ => ⟨s, hs, rfl⟩⟩
  · unfold sym_Dist
    refine bndL (s := false) (cnd_f (by simp; omega) (by rw [decide_eq_false (by omega)])) (cnd_f rfl (bnd rfl ?_))
    refine bnd (x := ((s : Int), (dE s : Int), ((N - dL s : Nat) : Int))) ?_ rfl
    unfold sym_scale_find
    exact bndR (up_eq N s hs h1 h2 (by omega) s BIG 0 (by omega) (Nat.zero_le _) (by unfold BIG; omega)) rfl
  · unfold wherryref01_Dist
    refine bnd (in_eqs _ _ _) (cnd_f ?_ ?_)
    · rw [decide_eq_true h.1, decide_eq_true h.2]; rfl
    have hd := down_eq N s hs h1 h2 (by omega) (29 - s) BIG 29 (by omega) (by omega) (by omega) (by unfold BIG; omega)
    by_cases h0 : s = 0
    · rw [if_pos h0] at hd
      subst h0
      have : N = 1 := by
        have e : dL 0 + 2 ^ dE 0 = 2 := by decide
        omega
      subst this
      exact bndL hd rfl
    · rw [if_neg h0] at hd
      exact bndR hd rfl

def lenChk (k : Nat) : Bool := match sym_Len ((k : Int) + 3), wherryref01_Len ((k : Int) + 3) with
  | some a, some b => decide (a = b) && decide (257 ≤ a.1) && decide (a.1 ≤ 285)
  | _, _ => false
theorem lenChk_all : ∀ k, k < 256 → lenChk k = true := all_of (by kernel_rfl)
theorem len_same (n : Int) : ∃ r, sym_Len n = some r ∧ wherryref01_Len n = some r ∧ (3 ≤ n ∧ n ≤ 258 → ∃ s : Nat, s < 286 ∧ r.1 = (s : Int)) := by
  by_cases h : 3 ≤ n ∧ n ≤ 258
  case neg =>
    refine ⟨(0, 0, 0, 1), ?_, ?_, fun h' => absurd h' h⟩
    · unfold sym_Len
      refine bndL (s := true) ?_ (cnd_t rfl rfl)
      by_cases h1 : n < 3
      · exact cnd_t (by simp [h1]) rfl
      · exact cnd_f (by simp; omega) (by rw [decide_eq_true (by omega)])
    · unfold wherryref01_Len
      refine bnd (in_eqs _ _ _) (cnd_t ?_ rfl)
      by_cases h1 : 3 ≤ n
      · rw [decide_eq_true h1, decide_eq_false (by omega)]; rfl
      · rw [decide_eq_false h1]; rfl
  have hk := lenChk_all (n - 3).toNat (by omega)
  have e : (((n - 3).toNat : Nat) : Int) + 3 = n := by omega
  unfold lenChk at hk
  rw [e] at hk
  cases h1 : sym_Len n with
  | none => rw [h1] at hk; cases hk
  | some a =>
    cases h2 : wherryref01_Len n with
    | none => rw [h1, h2] at hk; cases hk
    | some b =>
      rw [h1, h2] at hk
      simp only [Bool.and_eq_true, decide_eq_true_eq] at hk
      refine ⟨a, rfl, by rw [hk.1.1], fun _ => ⟨a.1.toNat, by omega, by omega⟩⟩

def ofChk (f g : Int → Option (Int × Int × Int)) (lo : Int) (k : Nat) : Bool := match f (lo + k), g (lo + k) with
  | some a, some b => decide (a = b)
  | _, _ => false
theorem of_same {f g : Int → Option (Int × Int × Int)} {lo : Int} {k : Nat} (h : ofChk f g lo k = true) : ∃ r, f (lo + k) = some r ∧ g (lo + k) = some r := by
  unfold ofChk at h
  cases h1 : f (lo + k) with
  | none => rw [h1] at h; cases h
  | some a =>
    cases h2 : g (lo + k) with
    | none => rw [h1, h2] at h; cases h
    | some b => rw [h1, h2] at h; have := of_decide_eq_true h; subst this; exact ⟨a, rfl, rfl⟩
theorem lenOf_all : ∀ k, k < 29 → ofChk sym_LenOf wherryref01_LenOf 257 k = true := all_of (by kernel_rfl)
theorem distOf_all : ∀ k, k < 30 → ofChk sym_DistOf wherryref01_DistOf 0 k = true := all_of (by kernel_rfl)
theorem lenOf_same (n : Int) : ∃ r, sym_LenOf n = some r ∧ wherryref01_LenOf n = some r := by
  by_cases h : 257 ≤ n ∧ n ≤ 285
  · have := of_same (lenOf_all (n - 257).toNat (by omega))
    rwa [show (257 : Int) + (((n - 257).toNat : Nat) : Int) = n by omega] at this
  · refine ⟨(0, 0, 1), ?_, ?_⟩
    · unfold sym_LenOf
      refine bndL (s := true) ?_ (cnd_t rfl rfl)
      by_cases h1 : n < 257
      · exact cnd_t (by simp [h1]) rfl
      · exact cnd_f (by simp; omega) (by rw [decide_eq_true (by omega)])
    · unfold wherryref01_LenOf
      refine bnd (in_eqs _ _ _) (cnd_t ?_ rfl)
      by_cases h1 : 257 ≤ n
      · rw [decide_eq_true h1, decide_eq_false (by omega)]; rfl
      · rw [decide_eq_false h1]; rfl
theorem distOf_same (n : Int) : ∃ r, sym_DistOf n = some r ∧ wherryref01_DistOf n = some r := by
  by_cases h : 0 ≤ n ∧ n ≤ 29
  · have := of_same (distOf_all n.toNat (by omega))
    rwa [show (0 : Int) + ((n.toNat : Nat) : Int) = n by omega] at this
  · refine ⟨(0, 0, 1), ?_, ?_⟩
    · unfold sym_DistOf
      refine bndL (s := true) ?_ (cnd_t rfl rfl)
      by_cases h1 : n < 0
      · exact cnd_t (by simp [h1]) rfl
      · exact cnd_f (by simp; omega) (by rw [decide_eq_true (by omega)])
    · unfold wherryref01_DistOf
      refine bnd (in_eqs _ _ _) (cnd_t ?_ rfl)
      by_cases h1 : 0 ≤ n
      · rw [decide_eq_true h1, decide_eq_false (by omega)]; rfl
      · rw [decide_eq_false h1]; rfl
end Go.Abs.Sh
