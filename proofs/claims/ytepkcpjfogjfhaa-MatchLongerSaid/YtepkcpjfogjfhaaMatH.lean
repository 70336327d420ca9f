import Derived.Test.YtepkcpjfogjfhaaMatG
namespace Go.Abs.Sh
set_option linter.unusedVariables false
set_option linter.unusedSimpArgs false
set_option maxRecDepth 10000
theorem bys {l : List Int} (h : wfL (wfI .u8) l) : ∀ n ∈ l, 0 ≤ n ∧ n < 256 := by
  intro x hx
  have := h.2 x hx
  unfold wfI at this
  have h1 : IntKind.u8.min = 0 := by decide
  have h2 : IntKind.u8.max = 255 := by decide
  simp [Lit.wf, h1, h2] at this
  omega
theorem toksS_len (b : List Int) : (toksS b).length ≤ b.length := by
  have := toks_len b b.length 0
  unfold toksS; omega
theorem chk_toksS (b : List Int) : chkF (toksS b) 0 = some b.length := by
  have := chk_toks b 0 b.length 0 (by omega) (by omega)
  simpa [toksS] using this
theorem inl_ofB {A : Type} {a b : Bool} (h : a = b) : (some (.inl a) : Option (Bool ⊕ A)) = some (.inl b) := by rw [h]
theorem keepB {a : List Int} (h : a.length < 4294967296) : wherrykeep_Bytes a a = some true := by
  have := keepBytes_eq a a h
  rwa [decide_eq_true rfl] at this
def tlS : List T_Tok → Nat
  | [] => 0
  | t :: l => tl t + tlS l
theorem tlS_app : ∀ a b, tlS (a ++ b) = tlS a + tlS b
  | [], b => by simp [tlS]
  | t :: a, b => by simp only [List.cons_append, tlS, tlS_app a b]; omega
theorem chkF_tlS : ∀ (l : List T_Tok) (n m : Nat), chkF l n = some m → m = n + tlS l
  | [], n, m, h => by simp [chkF] at h; simp [tlS]; omega
  | t :: l, n, m, h => by
    simp only [chkF] at h
    split at h
    · have := chkF_tlS l _ m h
      simp only [tlS]; omega
    · cases h
theorem chkF_all : ∀ (l : List T_Tok) (n m : Nat), chkF l n = some m → ∀ t ∈ l, t.Len = 0 ∨ 3 ≤ t.Len ∧ t.Len ≤ 258
  | [], n, m, _, t, ht => by cases ht
  | t :: l, n, m, h, u, hu => by
    simp only [chkF] at h
    split at h
    · rename_i ho
      rcases List.mem_cons.1 hu with rfl | hu
      · unfold okT at ho
        rw [decide_eq_true_eq] at ho
        omega
      · exact chkF_all l _ m h u hu
    · cases h
theorem max_tl {t : T_Tok} (h : t.Len = 0 ∨ 3 ≤ t.Len ∧ t.Len ≤ 258) : (if t.Len > 1 then t.Len else 1) = ((tl t : Nat) : Int) := by
  unfold tl
  rcases h with h | h
  · rw [if_neg (by omega), if_pos h]; rfl
  · rw [if_pos (by omega), if_neg (by omega)]; omega
theorem tlS_le {l : List T_Tok} (h : ∀ t ∈ l, t.Len = 0 ∨ 3 ≤ t.Len ∧ t.Len ≤ 258) : tlS l ≤ 258 * l.length := by
  induction l with
  | nil => simp [tlS]
  | cons t l ih =>
    have h1 := ih fun u hu => h u (List.mem_cons_of_mem _ hu)
    have h2 := h t List.mem_cons_self
    have : tl t ≤ 258 := by unfold tl; split <;> omega
    simp only [tlS, List.length_cons]
    omega
end Go.Abs.Sh
