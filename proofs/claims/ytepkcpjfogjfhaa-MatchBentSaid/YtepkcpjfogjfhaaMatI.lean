import Derived.Test.YtepkcpjfogjfhaaMatH
namespace Go.Abs.Sh
set_option linter.unusedVariables false
set_option linter.unusedSimpArgs false
set_option maxRecDepth 10000
theorem wrap_u64s {n : Int} (h0 : 0 ≤ n) (h1 : n < 18446744073709551616) : IntKind.u64.wrap n = n := by
  simp only [IntKind.wrap, IntKind.bits, IntKind.signed]
  have e : (2 : Int) ^ 64 = 18446744073709551616 := by decide
  simp only [e, Bool.false_and, Bool.false_eq_true, if_false]
  omega
theorem wrap_u64s_nn (n : Int) : 0 ≤ IntKind.u64.wrap n := by
  simp only [IntKind.wrap, IntKind.bits, IntKind.signed]
  have e : (2 : Int) ^ 64 = 18446744073709551616 := by decide
  simp only [e, Bool.false_and, Bool.false_eq_true, if_false]
  omega
def ktS (a b : List T_Tok) : ((Int)) → Option ((Int) ⊕ ((Unit) ⊕ Bool)) := (fun (s28 : Int) =>
    cond ((decide (s28 < (a.length : Int))))
      (bindS (S := Bool) (A := ((Int) ⊕ ((Unit) ⊕ Bool)))
        ((ixO s28 a.length).bind fun v3 =>
        (getO a v3).bind fun v4 =>
        (ixO s28 b.length).bind fun v5 =>
        (getO b v5).bind fun v6 =>
        cond ((v4.Byte != v6.Byte))
          (some (.inl true))
          ((ixO s28 a.length).bind fun v7 =>
          (getO a v7).bind fun v8 =>
          (ixO s28 b.length).bind fun v9 =>
          (getO b v9).bind fun v10 =>
          cond ((v8.Len != v10.Len))
            (some (.inl true))
            ((ixO s28 a.length).bind fun v11 =>
            (getO a v11).bind fun v12 =>
            (ixO s28 b.length).bind fun v13 =>
            (getO b v13).bind fun v14 =>
            some (.inl (v12.Dist != v14.Dist)))))
        (fun (s42 : Bool) =>
          cond (s42)
            (some (.inr (.inr (false))))
            ((some (IntKind.i64.wrap (s28 + 1))).bind fun v20 =>
            some (.inl v20))) some)
      (some (.inr (.inl ()))))
theorem mod_arg (x : Int) (n : Nat) (h : 0 < n) (hn : n < 1000000000) : ∃ (A r : Nat), IntKind.u64.wrap x = (A : Int) ∧ remO (A : Int) (n : Int) = some (r : Int) ∧ r < n ∧ IntKind.i64.wrap (r : Int) = (r : Int) := by
  obtain ⟨A, hA⟩ : ∃ A : Nat, IntKind.u64.wrap x = (A : Int) := ⟨(IntKind.u64.wrap x).toNat, by have := wrap_u64s_nn x; omega⟩
  have hlt := Nat.mod_lt A h
  exact ⟨A, A % n, hA, rem_nat A n h, hlt, wrap_nat _ (by omega)⟩
theorem keepT (a : List T_Tok) (h : a.length < 4294967296) : wherrykeep_Toks a a = some true := by
  unfold wherrykeep_Toks
  refine cnd_f (bne_self_eq_false _) (bndL (s := ()) (loop_from (f := ktS a a) (fun i => ((i : Nat) : Int)) a.length BIG rfl (by simp only [BIG]; omega) (fun i hi => ?_) (cnd_f (decide_eq_false (by omega)) rfl)) rfl)
  have hg := getO_of hi
  refine cnd_t (decide_eq_true (by omega)) (bndL (s := false) (bnd (ixO_of hi) (bnd hg (bnd (ixO_of hi) (bnd hg (cnd_f (bne_self_eq_false _) (bnd (ixO_of hi) (bnd hg (bnd (ixO_of hi) (bnd hg (cnd_f (bne_self_eq_false _) (bnd (ixO_of hi) (bnd hg (bnd (ixO_of hi) (bnd hg (inl_ofB (bne_self_eq_false _)))))))))))))))) (cnd_f rfl (bnd (congrArg some (wrap_succ (n := i) (by omega))) rfl)))
/-! Unlike bytes. -/
end Go.Abs.Sh
