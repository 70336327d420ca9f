import Derived.Test.YtepjhmgmejpkpaaLawM
namespace Go.Abs.Sh
set_option linter.unusedVariables false
set_option linter.unusedSimpArgs false

def fixL : List Int := List.replicate 144 8 ++ List.replicate 112 9 ++ List.replicate 24 7 ++ List.replicate 8 8
def fixC : List Int := (List.range 288).map fun k : Nat => if k < 144 then 48 + (k : Int) else if k < 256 then 256 + (k : Int) else if k < 280 then (k : Int) - 256 else (k : Int) - 88
theorem fixed_eq : sym_Fixed = some (fixL, List.replicate 32 5) := by kernel_rfl
theorem fixedCodes : canon_Codes fixL = some (fixC, 0) := by kernel_rfl
theorem fixedCheck1 : canon_Check fixL = some 0 := by kernel_rfl
theorem fixedCheck2 : canon_Check (List.replicate 32 5) = some 0 := by kernel_rfl

def fixAt (k : Nat) : Option Bool :=
  (some (IntKind.i64.wrap (k : Int))).bind fun v17 =>
              (some (IntKind.i64.wrap (48 + v17))).bind fun v18 =>
              bindS (S := Int × Int) (A := Bool)
                (cond ((decide (280 ≤ v17)))
                  ((some (IntKind.i64.wrap (192 + v17))).bind fun v20 =>
                  (some (IntKind.i64.wrap (v20 - 280))).bind fun v21 =>
                  some (.inl (8, v21)))
                  (cond ((decide (256 ≤ v17)))
                    ((some (IntKind.i64.wrap (v17 - 256))).bind fun v23 =>
                    some (.inl (7, v23)))
                    (cond ((decide (144 ≤ v17)))
                      ((some (IntKind.i64.wrap (400 + v17))).bind fun v25 =>
                      (some (IntKind.i64.wrap (v25 - 144))).bind fun v26 =>
                      some (.inl (9, v26)))
                      (some (.inl (8, v18))))))
                (fun ((s27, s28) : Int × Int) =>
                  bindS (S := Bool) (A := Bool)
                    ((ixO v17 fixC.length).bind fun v35 =>
                    (getO fixC v35).bind fun v36 =>
                    cond ((v36 == s28))
                      ((ixO v17 fixL.length).bind fun v37 =>
                      (getO fixL v37).bind fun v38 =>
                      cond ((v38 == s27))
                        ((wherrylaw05_wakes ).bind fun v39 =>
                        some (.inl v39))
                        (some (.inl false)))
                      (some (.inl false)))
                    (fun (s40 : Bool) =>
                      some (s40)) some) some
theorem fixAt_true : ∀ k, k < 288 → fixAt k = some true := of_all 288 fixAt (by kernel_rfl)
theorem symFixed_true (i : Int) : wherrylaw05_SymFixed i = some true := by
  unfold wherrylaw05_SymFixed
  obtain ⟨A, hA⟩ : ∃ A : Nat, IntKind.u64.wrap i = (A : Int) := ⟨(IntKind.u64.wrap i).toNat, by
    have : 0 ≤ IntKind.u64.wrap i := by
      simp only [IntKind.wrap, IntKind.bits, IntKind.signed]
      have e : (2 : Int) ^ 64 = 18446744073709551616 := by decide
      simp only [e, Bool.false_and, Bool.false_eq_true, if_false]
      omega
    omega⟩
  obtain ⟨k, hk, hr⟩ : ∃ k : Nat, k < 288 ∧ remO (A : Int) 288 = some (k : Int) := by
    refine ⟨A % 288, Nat.mod_lt _ (by omega), ?_⟩
    simp only [remO]
    rw [if_neg (by omega), Int.tmod_eq_emod_of_nonneg (by omega)]
    rfl
  refine bnd fixed_eq (bndL (s := false) (by kernel_rfl) (cnd_f rfl (bnd fixedCodes (bndL (s := false) (by kernel_rfl) (cnd_f rfl (bnd (x := (A : Int)) (by rw [hA]) (bnd hr ?_)))))))
  exact fixAt_true k hk
end Go.Abs.Sh
