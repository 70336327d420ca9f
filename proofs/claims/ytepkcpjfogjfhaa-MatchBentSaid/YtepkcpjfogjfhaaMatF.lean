import Derived.Test.YtepkcpjfogjfhaaMatE
namespace Go.Abs.Sh
set_option linter.unusedVariables false
set_option linter.unusedSimpArgs false
set_option maxRecDepth 10000
def mcS (l : List T_Tok) : ((Int × Int)) → Option ((Int × Int) ⊕ ((Int) ⊕ Int)) := (fun ((s115, s116) : Int × Int) =>
  cond ((decide (s116 < (l.length : Int))))
    (bindS (S := Int) (A := ((Int × Int) ⊕ ((Int) ⊕ Int)))
      ((ixO s116 l.length).bind fun v2 =>
      (getO l v2).bind fun v3 =>
      bindS (S := Int) (A := (Int ⊕ ((Int × Int) ⊕ ((Int) ⊕ Int))))
        (bindS (S := Bool) (A := (Int ⊕ (Int ⊕ ((Int × Int) ⊕ ((Int) ⊕ Int)))))
          (cond ((v3.Len == 0))
            (some (.inl (v3.Dist == 0)))
            (some (.inl false)))
          (fun (s220 : Bool) =>
            cond (s220)
              ((some (IntKind.i64.wrap (s115 + 1))).bind fun v9 =>
              some (.inl v9))
              (bindS (S := Bool) (A := (Int ⊕ (Int ⊕ ((Int × Int) ⊕ ((Int) ⊕ Int)))))
                ((match_validMatch v3).bind fun v10 =>
                cond (v10)
                  (some (.inl ((decide (v3.Dist ≤ s115)))))
                  (some (.inl false)))
                (fun (s225 : Bool) =>
                  cond (s225)
                    ((some (IntKind.i64.wrap (s115 + v3.Len))).bind fun v16 =>
                    some (.inl v16))
                    (some (.inr (.inr (.inr (.inr (1))))))) some)) some)
        (fun (s216 : Int) =>
          some (.inl s216)) some)
      (fun (s202 : Int) =>
        (some (IntKind.i64.wrap (s116 + 1))).bind fun v59 =>
        some (.inl (s202, v59))) some)
    (some (.inr (.inl s115))))
def meS (l : List T_Tok) : (((List Int) × Int)) → Option (((List Int) × Int) ⊕ (((List Int)) ⊕ ((List Int) × Int))) := (fun ((s58, s59) : (List Int) × Int) =>
    cond ((decide (s59 < (l.length : Int))))
      ((ixO s59 l.length).bind fun v4 =>
      (getO l v4).bind fun v5 =>
      bindS (S := (List Int)) (A := (((List Int) × Int) ⊕ (((List Int)) ⊕ ((List Int) × Int))))
        (cond ((v5.Len == 0))
          ((appO 1 s58 [v5.Byte]).bind fun v7 =>
          some (.inl v7))
          (some (.inl s58)))
        (fun (s91 : (List Int)) =>
          bindS (S := ((List Int))) (A := (((List Int) × Int) ⊕ (((List Int)) ⊕ ((List Int) × Int))))
            (loopF (S := ((List Int) × Int)) (O := ((List Int)) ⊕ (((List Int) × Int) ⊕ (((List Int)) ⊕ ((List Int) × Int)))) (fun ((s100, s101) : (List Int) × Int) =>
              cond ((decide (s101 < v5.Len)))
                ((some (IntKind.i64.wrap ((s100.length : Int) - v5.Dist))).bind fun v14 =>
                (ixO v14 s100.length).bind fun v15 =>
                (getO s100 v15).bind fun v16 =>
                (appO 1 s100 [v16]).bind fun v17 =>
                (some (IntKind.i64.wrap (s101 + 1))).bind fun v18 =>
                some (.inl (v17, v18)))
                (some (.inr (.inl s100))))
              BIG (s91, 0))
            (fun (s103 : (List Int)) =>
              (some (IntKind.i64.wrap (s59 + 1))).bind fun v33 =>
              some (.inl (s103, v33))) some) some)
      (some (.inr (.inl s58))))
def miS (v5 : T_Tok) : (((List Int) × Int)) → Option (((List Int) × Int) ⊕ (((List Int)) ⊕ (((List Int) × Int) ⊕ (((List Int)) ⊕ ((List Int) × Int))))) := (fun ((s100, s101) : (List Int) × Int) =>
              cond ((decide (s101 < v5.Len)))
                ((some (IntKind.i64.wrap ((s100.length : Int) - v5.Dist))).bind fun v14 =>
                (ixO v14 s100.length).bind fun v15 =>
                (getO s100 v15).bind fun v16 =>
                (appO 1 s100 [v16]).bind fun v17 =>
                (some (IntKind.i64.wrap (s101 + 1))).bind fun v18 =>
                some (.inl (v17, v18)))
                (some (.inr (.inl s100))))
/-! Rows of tokens: what is right, and what they stand for. -/
def okT (t : T_Tok) (n : Int) : Bool := decide ((t.Len = 0 ∧ t.Dist = 0) ∨ ((t.Byte = 0 ∧ 3 ≤ t.Len ∧ t.Len ≤ 258 ∧ 1 ≤ t.Dist ∧ t.Dist ≤ 2048) ∧ t.Dist ≤ n))
def tl (t : T_Tok) : Nat := if t.Len = 0 then 1 else t.Len.toNat
def chkF : List T_Tok → Nat → Option Nat
  | [], n => some n
  | t :: l, n => if okT t n = true then chkF l (n + tl t) else none
def cpy (d : Nat) : List Int → Nat → List Int
  | b, 0 => b
  | b, k + 1 => cpy d (b ++ [b.getD (b.length - d) 0]) k
def exT (b : List Int) (t : T_Tok) : List Int := if t.Len = 0 then b ++ [t.Byte] else cpy t.Dist.toNat b t.Len.toNat
def exF : List T_Tok → List Int → List Int
  | [], b => b
  | t :: l, b => exF l (exT b t)
theorem chkF_app : ∀ (l m : List T_Tok) (n : Nat), chkF (l ++ m) n = (chkF l n).bind fun k => chkF m k
  | [], m, n => rfl
  | t :: l, m, n => by
    simp only [List.cons_append, chkF]
    split
    · exact chkF_app l m _
    · rfl
theorem tl_le {t : T_Tok} {n : Int} (h : okT t n = true) : 1 ≤ tl t ∧ tl t ≤ 258 := by
  unfold okT at h
  rw [decide_eq_true_eq] at h
  unfold tl
  split <;> omega
theorem chkF_le : ∀ (l : List T_Tok) (n m : Nat), chkF l n = some m → n + l.length ≤ m ∧ m ≤ n + 258 * l.length
  | [], n, m, h => by simp [chkF] at h; simp; omega
  | t :: l, n, m, h => by
    simp only [chkF] at h
    split at h
    · rename_i ho
      have := chkF_le l _ m h
      have := tl_le ho
      simp only [List.length_cons]
      omega
    · cases h
def vT (t : T_Tok) : Bool := decide (t.Byte = 0 ∧ 3 ≤ t.Len ∧ t.Len ≤ 258 ∧ 1 ≤ t.Dist ∧ t.Dist ≤ 2048)
theorem valid_eq (t : T_Tok) : match_validMatch t = some (vT t) := by
  unfold match_validMatch
  by_cases h1 : t.Byte = 0
  case neg =>
    have e : vT t = false := decide_eq_false fun h => h1 h.1
    rw [e]
    exact bndL (s := false) (cnd_f (beq_eq_false_iff_ne.2 h1) rfl) rfl
  by_cases h2 : 3 ≤ t.Len
  case neg =>
    have e : vT t = false := decide_eq_false fun h => h2 h.2.1
    rw [e]
    exact bndL (s := false) (cnd_t (beq_iff_eq.2 h1) (cnd_f (decide_eq_false h2) rfl)) rfl
  by_cases h3 : t.Len ≤ 258
  case neg =>
    have e : vT t = false := decide_eq_false fun h => h3 h.2.2.1
    rw [e]
    exact bndL (s := false) (cnd_t (beq_iff_eq.2 h1) (cnd_t (decide_eq_true h2) (cnd_f (decide_eq_false h3) rfl))) rfl
  by_cases h4 : 1 ≤ t.Dist
  case neg =>
    have e : vT t = false := decide_eq_false fun h => h4 h.2.2.2.1
    rw [e]
    exact bndL (s := false) (cnd_t (beq_iff_eq.2 h1) (cnd_t (decide_eq_true h2) (cnd_t (decide_eq_true h3) (cnd_f (decide_eq_false h4) rfl)))) rfl
  have e : vT t = decide (t.Dist ≤ 2048) := decide_eq_decide.2 ⟨fun h => h.2.2.2.2, fun h => ⟨h1, h2, h3, h4, h⟩⟩
  rw [e]
  exact bndL (s := decide (t.Dist ≤ 2048)) (cnd_t (beq_iff_eq.2 h1) (cnd_t (decide_eq_true h2) (cnd_t (decide_eq_true h3) (cnd_t (decide_eq_true h4) rfl)))) rfl
theorem mc_step (l : List T_Tok) {i : Nat} {n : Nat} (hi : i < l.length) (hil : i < 1000000000) (hn : n ≤ 1000000000000) : mcS l ((n : Int), (i : Int)) = some (if okT l[i] n = true then .inl (((n + tl l[i] : Nat) : Int), ((i + 1 : Nat) : Int)) else .inr (.inr 1)) := by
  have hg := getO_of hi
  generalize l[i] = t at hg
  have hw1 : IntKind.i64.wrap ((n : Int) + 1) = ((n + 1 : Nat) : Int) := wrap_succ (by omega)
  have hwi : IntKind.i64.wrap ((i : Int) + 1) = ((i + 1 : Nat) : Int) := wrap_succ (by omega)
  by_cases hz : t.Len = 0 ∧ t.Dist = 0
  · have ho : okT t n = true := by unfold okT; rw [decide_eq_true_eq]; exact .inl hz
    rw [if_pos ho]
    have htl : tl t = 1 := by unfold tl; rw [if_pos hz.1]
    rw [htl]
    exact cnd_t (decide_eq_true (by omega)) (bndL (s := ((n + 1 : Nat) : Int)) (bnd (ixO_of hi) (bnd hg (bndL (s := ((n + 1 : Nat) : Int)) (bndL (s := true) (cnd_t (beq_iff_eq.2 hz.1) (by rw [beq_iff_eq.2 hz.2])) (cnd_t rfl (bnd (congrArg some hw1) rfl))) rfl))) (bnd (congrArg some hwi) rfl))
  · have hfirst : ∀ {A : Type}, (cond ((t.Len == 0)) (some (.inl (t.Dist == 0))) (some (.inl false)) : Option (Bool ⊕ A)) = some (.inl false) := by
      intro A
      by_cases h : t.Len = 0
      · exact cnd_t (beq_iff_eq.2 h) (by rw [beq_eq_false_iff_ne.2 fun e => hz ⟨h, e⟩])
      · exact cnd_f (beq_eq_false_iff_ne.2 h) rfl
    by_cases hv : t.Byte = 0 ∧ 3 ≤ t.Len ∧ t.Len ≤ 258 ∧ 1 ≤ t.Dist ∧ t.Dist ≤ 2048
    · have hve := valid_eq t
      rw [show vT t = true from decide_eq_true hv] at hve
      by_cases hd : t.Dist ≤ (n : Int)
      · have ho : okT t n = true := by unfold okT; rw [decide_eq_true_eq]; exact .inr ⟨hv, hd⟩
        rw [if_pos ho]
        have hw : IntKind.i64.wrap ((n : Int) + t.Len) = ((n + tl t : Nat) : Int) := by
          unfold tl
          rw [if_neg (by omega), wrap_i64 (by omega) (by omega)]; omega
        exact cnd_t (decide_eq_true (by omega)) (bndL (s := ((n + tl t : Nat) : Int)) (bnd (ixO_of hi) (bnd hg (bndL (s := ((n + tl t : Nat) : Int)) (bndL hfirst (cnd_f rfl (bndL (s := true) (bnd hve (cnd_t rfl (by rw [decide_eq_true hd]))) (cnd_t rfl (bnd (congrArg some hw) rfl))))) rfl))) (bnd (congrArg some hwi) rfl))
      · have ho : ¬ okT t n = true := by unfold okT; rw [decide_eq_true_eq]; rintro (h | h); exact hz h; exact hd h.2
        rw [if_neg ho]
        exact cnd_t (decide_eq_true (by omega)) (bndR (a := .inr (.inr 1)) (bnd (ixO_of hi) (bnd hg (bndR (a := .inr (.inr (.inr 1))) (bndL hfirst (cnd_f rfl (bndL (s := false) (bnd hve (cnd_t rfl (by rw [decide_eq_false hd]))) (cnd_f rfl rfl)))) rfl))) rfl)
    · have hve := valid_eq t
      rw [show vT t = false from decide_eq_false hv] at hve
      have ho : ¬ okT t n = true := by unfold okT; rw [decide_eq_true_eq]; rintro (h | h); exact hz h; exact hv h.1
      rw [if_neg ho]
      exact cnd_t (decide_eq_true (by omega)) (bndR (a := .inr (.inr 1)) (bnd (ixO_of hi) (bnd hg (bndR (a := .inr (.inr (.inr 1))) (bndL hfirst (cnd_f rfl (bndL (s := false) (bnd hve (cnd_f rfl rfl)) (cnd_f rfl rfl)))) rfl))) rfl)
end Go.Abs.Sh
