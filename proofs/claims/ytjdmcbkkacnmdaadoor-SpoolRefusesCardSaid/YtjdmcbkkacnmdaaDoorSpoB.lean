import Derived.Test.YtjdmcbkkacnmdaaDoorSpoA
namespace Go.Abs.Sh
set_option linter.unusedVariables false
set_option linter.unusedSimpArgs false
theorem refuses_at : ∀ k, k < 19 → wherrylaw19_SpoolRefuses ((k : Nat) : Int) = some true :=
  of_all 19 (fun k => wherrylaw19_SpoolRefuses ((k : Nat) : Int)) (by kernel_rfl)
theorem refuses_of (x : Int) (q : Nat) (h : remO (IntKind.u64.wrap x) (IntKind.u64.wrap 19) = some (q : Int)) (h' : remO (IntKind.u64.wrap (q : Int)) (IntKind.u64.wrap 19) = some (q : Int)) :
    wherrylaw19_SpoolRefuses x = wherrylaw19_SpoolRefuses (q : Int) := by
  unfold wherrylaw19_SpoolRefuses
  simp only [Option.bind_some, List.length_cons, List.length_nil]
  have e : ((0 + 1 + 1 + 1 + 1 + 1 + 1 + 1 + 1 + 1 + 1 + 1 + 1 + 1 + 1 + 1 + 1 + 1 + 1 + 1 : Nat) : Int) = 19 := rfl
  rw [e, h, h']
theorem spoolRefuses_true (how : Int) : wherrylaw19_SpoolRefuses how = some true := by
  obtain ⟨q, hq, h⟩ := spo_rem how 19 (by omega) (by omega)
  obtain ⟨p, hp, h'⟩ := spo_rem (q : Int) 19 (by omega) (by omega)
  have hqp : p = q := by
    have hw : IntKind.u64.wrap (q : Int) = (q : Int) := by
      have e : (2 : Int) ^ 64 = 18446744073709551616 := by decide
      simp only [IntKind.wrap, IntKind.bits, IntKind.signed]
      simp only [e, Bool.false_and, Bool.false_eq_true, if_false]
      omega
    rw [hw, show IntKind.u64.wrap ((19 : Nat) : Int) = ((19 : Nat) : Int) from by kernel_rfl, rem_nat _ _ (by omega)] at h'
    injection h' with h'
    omega
  subst hqp
  rw [refuses_of how p h h']
  exact refuses_at p hq
end Go.Abs.Sh
