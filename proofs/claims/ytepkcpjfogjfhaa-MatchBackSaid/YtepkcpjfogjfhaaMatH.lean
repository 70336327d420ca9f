import Derived.Test.YtepkcpjfogjfhaaMatG
namespace Go.Abs.Sh
set_option linter.unusedVariables false
set_option linter.unusedSimpArgs false
set_option maxRecDepth 10000
theorem bys {l : List Int} (h : wfL (wfI .u8) l) : ∀ n ∈ l, 0 ≤ n ∧ n < 256 := by
  intro x hx
  have := h.2 x hx
  unfold wfI at this
  have h1 : IntKind.u8.min = 0 := by decide
  have h2 : IntKind.u8.max = 255 := by decide
  simp [Lit.wf, h1, h2] at this
  omega
theorem toksS_len (b : List Int) : (toksS b).length ≤ b.length := by
  have := toks_len b b.length 0
  unfold toksS; omega
theorem chk_toksS (b : List Int) : chkF (toksS b) 0 = some b.length := by
  have := chk_toks b 0 b.length 0 (by omega) (by omega)
  simpa [toksS] using this
theorem ex_toksS (b : List Int) : exF (toksS b) [] = b := by
  have := ex_toks b [] b.length 0 (by omega) (by omega)
  simpa [toksS] using this
theorem inl_ofB {A : Type} {a b : Bool} (h : a = b) : (some (.inl a) : Option (Bool ⊕ A)) = some (.inl b) := by rw [h]
theorem keepB {a : List Int} (h : a.length < 4294967296) : wherrykeep_Bytes a a = some true := by
  have := keepBytes_eq a a h
  rwa [decide_eq_true rfl] at this
theorem matchExpands_true (a b : List Int) (ha : wfL (wfI .u8) a) (hb : wfL (wfI .u8) b) : wherrylaw04_MatchExpands a b = some true := by
  unfold wherrylaw04_MatchExpands
  by_cases h1 : 1200 < a.length
  · exact bndL (s := true) (cnd_t (decide_eq_true (by omega)) rfl) (cnd_t rfl rfl)
  by_cases h2 : 1200 < b.length
  · exact bndL (s := true) (cnd_f (decide_eq_false (by omega)) (inl_ofB (decide_eq_true (by omega)))) (cnd_t rfl rfl)
  refine bndL (s := false) (cnd_f (decide_eq_false (by omega)) (inl_ofB (decide_eq_false (by omega)))) (cnd_f rfl ?_)
  have la := toksS_len a
  have lb := toksS_len b
  have hl : (toksS a ++ toksS b).length ≤ 1000000 := by rw [List.length_append]; omega
  have hc : chkF (toksS a ++ toksS b) 0 = some (a.length + b.length) := by
    rw [chkF_app, chk_toksS]
    have := chk_toks b a.length b.length 0 (by omega) (by omega)
    simpa [toksS] using this
  have hx : exF (toksS a ++ toksS b) [] = a ++ b := by
    rw [exF_app, ex_toksS]
    have := ex_toks b a b.length 0 (by omega) (by omega)
    simpa [toksS] using this
  have he : exE (toksS a ++ toksS b) = (a ++ b, 0) := by
    unfold exE
    rw [hc]
    show (if 4096 < a.length + b.length then _ else _) = _
    rw [if_neg (by omega), hx]
  have hk : ckE (toksS a ++ toksS b) = 0 := by
    unfold ckE
    rw [hc]
    show (if 4096 < a.length + b.length then _ else _) = _
    rw [if_neg (by omega)]
  have hkb := keepB (a := a ++ b) (by rw [List.length_append]; omega)
  have ht : ∀ {c : List Int}, c.length ≤ 4096 → wherrylaw04_wherryToks c = some (toksS c) := fun h => bnd (ref_tokens h) rfl
  refine bnd (ht (by omega)) (bnd (ht (by omega)) (bnd (app_of (by omega) (by omega)) (bnd ((expand_eq hl).trans (by rw [he])) (bndL (s := true) (cnd_t rfl (bnd ((check_eq hl).trans (by rw [hk])) (cnd_t rfl (bnd (x := a) ?_ (bnd (app_of (by omega) (by omega)) (bnd hkb (cnd_t rfl (bnd wakes04 rfl)))))))) rfl))))
  unfold wherrykeep_Twin
  exact bnd (app_of (by simp only [List.length_nil]; omega) (by simp only [List.length_nil]; omega)) rfl
def mbS (v2 : (List T_Tok) × Int) : ((Int × Int)) → Option ((Int × Int) ⊕ ((Int) ⊕ Bool)) := (fun ((s19, s20) : Int × Int) =>
          cond ((decide (s20 < (v2.1.length : Int))))
            ((ixO s20 v2.1.length).bind fun v11 =>
            (getO v2.1 v11).bind fun v12 =>
            (some (if v12.Len > 1 then v12.Len else 1)).bind fun v13 =>
            (some (IntKind.i64.wrap (s19 + v13))).bind fun v14 =>
            (some (IntKind.i64.wrap (s20 + 1))).bind fun v15 =>
            some (.inl (v14, v15)))
            (some (.inr (.inl s19))))
def tlS : List T_Tok → Nat
  | [] => 0
  | t :: l => tl t + tlS l
theorem tlS_app : ∀ a b, tlS (a ++ b) = tlS a + tlS b
  | [], b => by simp [tlS]
  | t :: a, b => by simp only [List.cons_append, tlS, tlS_app a b]; omega
theorem chkF_tlS : ∀ (l : List T_Tok) (n m : Nat), chkF l n = some m → m = n + tlS l
  | [], n, m, h => by simp [chkF] at h; simp [tlS]; omega
  | t :: l, n, m, h => by
    simp only [chkF] at h
    split at h
    · have := chkF_tlS l _ m h
      simp only [tlS]; omega
    · cases h
theorem chkF_all : ∀ (l : List T_Tok) (n m : Nat), chkF l n = some m → ∀ t ∈ l, t.Len = 0 ∨ 3 ≤ t.Len ∧ t.Len ≤ 258
  | [], n, m, _, t, ht => by cases ht
  | t :: l, n, m, h, u, hu => by
    simp only [chkF] at h
    split at h
    · rename_i ho
      rcases List.mem_cons.1 hu with rfl | hu
      · unfold okT at ho
        rw [decide_eq_true_eq] at ho
        omega
      · exact chkF_all l _ m h u hu
    · cases h
theorem max_tl {t : T_Tok} (h : t.Len = 0 ∨ 3 ≤ t.Len ∧ t.Len ≤ 258) : (if t.Len > 1 then t.Len else 1) = ((tl t : Nat) : Int) := by
  unfold tl
  rcases h with h | h
  · rw [if_neg (by omega), if_pos h]; rfl
  · rw [if_pos (by omega), if_neg (by omega)]; omega
theorem tlS_le {l : List T_Tok} (h : ∀ t ∈ l, t.Len = 0 ∨ 3 ≤ t.Len ∧ t.Len ≤ 258) : tlS l ≤ 258 * l.length := by
  induction l with
  | nil => simp [tlS]
  | cons t l ih =>
    have h1 := ih fun u hu => h u (List.mem_cons_of_mem _ hu)
    have h2 := h t List.mem_cons_self
    have : tl t ≤ 258 := by unfold tl; split <;> omega
    simp only [tlS, List.length_cons]
    omega
theorem matchBack_true (b : List Int) (hb : wfL (wfI .u8) b) : wherrylaw04_MatchBack b = some true := by
  unfold wherrylaw04_MatchBack
  by_cases h1 : 1200 < b.length
  · exact cnd_t (decide_eq_true (by omega)) rfl
  have hy := bys hb
  have lb := toksS_len b
  have hc := chk_toksS b
  have he : exE (toksS b) = (b, 0) := by
    unfold exE
    rw [hc]
    show (if 4096 < b.length then _ else _) = _
    rw [if_neg (by omega), ex_toksS]
  have hk : ckE (toksS b) = 0 := by
    unfold ckE
    rw [hc]
    show (if 4096 < b.length then _ else _) = _
    rw [if_neg (by omega)]
  have hall := chkF_all _ _ _ hc
  have hsum := chkF_tlS _ _ _ hc
  have hlp : loopF (mbS (toksS b, 0)) BIG (0, 0) = some (.inl ((b.length : Nat) : Int)) := by
    refine loop_from (fun i => (((tlS ((toksS b).take i) : Nat) : Int), ((i : Nat) : Int))) (toksS b).length BIG rfl (by simp only [BIG]; omega) (fun i hi => ?_) ?_
    · have hm := max_tl (hall _ (List.getElem_mem hi))
      have hle := tlS_le (l := (toksS b).take i) fun t ht => hall t (List.mem_of_mem_take ht)
      have hl2 : ((toksS b).take i).length ≤ 1200 := by simp only [List.length_take]; omega
      have htl : tl (toksS b)[i] ≤ 258 := by have := hall _ (List.getElem_mem hi); unfold tl; split <;> omega
      have e : tlS ((toksS b).take (i + 1)) = tlS ((toksS b).take i) + tl (toksS b)[i] := by
        rw [List.take_succ_eq_append_getElem hi, tlS_app]; simp [tlS]
      have hw : IntKind.i64.wrap (((tlS ((toksS b).take i) : Nat) : Int) + ((tl (toksS b)[i] : Nat) : Int)) = ((tlS ((toksS b).take (i + 1)) : Nat) : Int) := by rw [e, wrap_i64 (by omega) (by omega)]; omega
      exact cnd_t (decide_eq_true (by show (i : Int) < ((toksS b).length : Int); omega)) (bnd (ixO_of hi) (bnd (getO_of hi) (bnd (congrArg some hm) (bnd (congrArg some hw) (bnd (congrArg some (wrap_succ (n := i) (by omega))) rfl)))))
    · rw [List.take_length]
      have : tlS (toksS b) = b.length := by omega
      rw [this]
      exact cnd_f (decide_eq_false (by show ¬ ((toksS b).length : Int) < ((toksS b).length : Int); omega)) rfl
  have hce := check_eq (l := toksS b) (by omega)
  have hee := expand_eq (l := toksS b) (by omega)
  have hkb := keepB (a := b) (by omega)
  rw [hk] at hce
  rw [he] at hee
  exact cnd_f (decide_eq_false (by omega)) (bnd (tokens_eq hy (by omega)) (bndL (s := false) (cnd_f rfl (bnd hce rfl)) (cnd_f rfl (bnd hee (bndL hlp (bndL (s := true) (cnd_t rfl (bnd hkb (cnd_t rfl (cnd_t (beq_iff_eq.2 rfl) (bnd wakes04 rfl))))) rfl))))))
end Go.Abs.Sh
