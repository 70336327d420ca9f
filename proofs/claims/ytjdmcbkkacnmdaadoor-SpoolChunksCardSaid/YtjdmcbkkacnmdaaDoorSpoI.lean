import Derived.Test.YtjdmcbkkacnmdaaDoorSpoG
namespace Go.Abs.Sh
set_option linter.unusedVariables false
set_option linter.unusedSimpArgs false
def scO (l : List (List Int)) (again : Bool) (v4 : Int) : (((List T_Item) × Int × (List Int) × (List Int) × Int × (List Int) × (List Int) × Int)) → Option (((List T_Item) × Int × (List Int) × (List Int) × Int × (List Int) × (List Int) × Int) ⊕ (((List T_Item) × Int × (List Int) × (List Int) × Int × (List Int) × (List Int)) ⊕ (((List T_Item) × Int × (List Int) × (List Int) × Int × (List Int) × (List Int)) ⊕ Bool))) := (fun ((s420, s421, s422, s423, s424, s425, s426, s427) : (List T_Item) × Int × (List Int) × (List Int) × Int × (List Int) × (List Int) × Int) =>
      cond ((decide (s427 < 2)))
        (bindS (S := ((List T_Item) × Int × (List Int) × (List Int) × Int × (List Int) × (List Int))) (A := (((List T_Item) × Int × (List Int) × (List Int) × Int × (List Int) × (List Int) × Int) ⊕ (((List T_Item) × Int × (List Int) × (List Int) × Int × (List Int) × (List Int)) ⊕ (((List T_Item) × Int × (List Int) × (List Int) × Int × (List Int) × (List Int)) ⊕ Bool))))
          (loopF (S := ((List T_Item) × Int × (List Int) × (List Int) × Int × (List Int) × (List Int) × Int)) (O := ((List T_Item) × Int × (List Int) × (List Int) × Int × (List Int) × (List Int)) ⊕ (((List T_Item) × Int × (List Int) × (List Int) × Int × (List Int) × (List Int) × Int) ⊕ (((List T_Item) × Int × (List Int) × (List Int) × Int × (List Int) × (List Int)) ⊕ (((List T_Item) × Int × (List Int) × (List Int) × Int × (List Int) × (List Int)) ⊕ Bool)))) (fun ((s523, s524, s525, s526, s527, s528, s529, s530) : (List T_Item) × Int × (List Int) × (List Int) × Int × (List Int) × (List Int) × Int) =>
            cond ((decide (s530 < (l.length : Int))))
              (bindS (S := Bool) (A := (((List T_Item) × Int × (List Int) × (List Int) × Int × (List Int) × (List Int) × Int) ⊕ (((List T_Item) × Int × (List Int) × (List Int) × Int × (List Int) × (List Int)) ⊕ (((List T_Item) × Int × (List Int) × (List Int) × Int × (List Int) × (List Int) × Int) ⊕ (((List T_Item) × Int × (List Int) × (List Int) × Int × (List Int) × (List Int)) ⊕ (((List T_Item) × Int × (List Int) × (List Int) × Int × (List Int) × (List Int)) ⊕ Bool))))))
                ((ixO s530 l.length).bind fun v9 =>
                (getO l v9).bind fun v10 =>
                cond ((decide ((v10.length : Int) < 1)))
                  (some (.inl true))
                  ((ixO s530 l.length).bind fun v11 =>
                  (getO l v11).bind fun v12 =>
                  some (.inl ((decide (48 < (v12.length : Int)))))))
                (fun (s552 : Bool) =>
                  cond (s552)
                    (some (.inr (.inr (.inr (.inr (.inr (true)))))))
                    ((ixO s530 l.length).bind fun v18 =>
                    (getO l v18).bind fun v19 =>
                    (spool_Add (T_Spool.mk s523 s524 s525 s526 s527 s528) ((T_Rec.mk 5 ((T_Mail.mk ((T_Path.mk false (⟨#[]⟩ : ByteArray) (⟨#[]⟩ : ByteArray))) [] [] false (⟨#[]⟩ : ByteArray) 0)) 0 [] 0 v4 (s529.length : Int) v19))).bind fun v20 =>
                    cond ((v20.2 != 0))
                      (some (.inr (.inr (.inr (.inr (.inr (false)))))))
                      ((ixO s530 l.length).bind fun v22 =>
                      (getO l v22).bind fun v23 =>
                      (appO 1 s529 v23).bind fun v24 =>
                      (some (IntKind.i64.wrap (s530 + 1))).bind fun v25 =>
                      some (.inl (v20.1.Items, v20.1.Packs, v20.1.Sent, v20.1.Part, v20.1.Of, v20.1.Done, v24, v25))))) some)
              (some (.inr (.inl (s523, s524, s525, s526, s527, s528, s529)))))
            BIG (s420, s421, s422, s423, s424, s425, [], 0))
          (fun ((s538, s539, s540, s541, s542, s543, s544) : (List T_Item) × Int × (List Int) × (List Int) × Int × (List Int) × (List Int)) =>
            cond ((!again))
              (some (.inr (.inl (s538, s539, s540, s541, s542, s543, s544))))
              ((some (IntKind.i64.wrap (s427 + 1))).bind fun v77 =>
              some (.inl (s538, s539, s540, s541, s542, s543, s544, v77)))) some)
        (some (.inr (.inl (s420, s421, s422, s423, s424, s425, s426)))))
def scI (l : List (List Int)) (v4 : Int) : (((List T_Item) × Int × (List Int) × (List Int) × Int × (List Int) × (List Int) × Int)) → Option (((List T_Item) × Int × (List Int) × (List Int) × Int × (List Int) × (List Int) × Int) ⊕ (((List T_Item) × Int × (List Int) × (List Int) × Int × (List Int) × (List Int)) ⊕ (((List T_Item) × Int × (List Int) × (List Int) × Int × (List Int) × (List Int) × Int) ⊕ (((List T_Item) × Int × (List Int) × (List Int) × Int × (List Int) × (List Int)) ⊕ (((List T_Item) × Int × (List Int) × (List Int) × Int × (List Int) × (List Int)) ⊕ Bool))))) := (fun ((s523, s524, s525, s526, s527, s528, s529, s530) : (List T_Item) × Int × (List Int) × (List Int) × Int × (List Int) × (List Int) × Int) =>
            cond ((decide (s530 < (l.length : Int))))
              (bindS (S := Bool) (A := (((List T_Item) × Int × (List Int) × (List Int) × Int × (List Int) × (List Int) × Int) ⊕ (((List T_Item) × Int × (List Int) × (List Int) × Int × (List Int) × (List Int)) ⊕ (((List T_Item) × Int × (List Int) × (List Int) × Int × (List Int) × (List Int) × Int) ⊕ (((List T_Item) × Int × (List Int) × (List Int) × Int × (List Int) × (List Int)) ⊕ (((List T_Item) × Int × (List Int) × (List Int) × Int × (List Int) × (List Int)) ⊕ Bool))))))
                ((ixO s530 l.length).bind fun v9 =>
                (getO l v9).bind fun v10 =>
                cond ((decide ((v10.length : Int) < 1)))
                  (some (.inl true))
                  ((ixO s530 l.length).bind fun v11 =>
                  (getO l v11).bind fun v12 =>
                  some (.inl ((decide (48 < (v12.length : Int)))))))
                (fun (s552 : Bool) =>
                  cond (s552)
                    (some (.inr (.inr (.inr (.inr (.inr (true)))))))
                    ((ixO s530 l.length).bind fun v18 =>
                    (getO l v18).bind fun v19 =>
                    (spool_Add (T_Spool.mk s523 s524 s525 s526 s527 s528) ((T_Rec.mk 5 ((T_Mail.mk ((T_Path.mk false (⟨#[]⟩ : ByteArray) (⟨#[]⟩ : ByteArray))) [] [] false (⟨#[]⟩ : ByteArray) 0)) 0 [] 0 v4 (s529.length : Int) v19))).bind fun v20 =>
                    cond ((v20.2 != 0))
                      (some (.inr (.inr (.inr (.inr (.inr (false)))))))
                      ((ixO s530 l.length).bind fun v22 =>
                      (getO l v22).bind fun v23 =>
                      (appO 1 s529 v23).bind fun v24 =>
                      (some (IntKind.i64.wrap (s530 + 1))).bind fun v25 =>
                      some (.inl (v20.1.Items, v20.1.Packs, v20.1.Sent, v20.1.Part, v20.1.Of, v20.1.Done, v24, v25))))) some)
              (some (.inr (.inl (s523, s524, s525, s526, s527, s528, s529)))))
def zM : T_Mail := (T_Mail.mk ((T_Path.mk false (⟨#[]⟩ : ByteArray) (⟨#[]⟩ : ByteArray))) [] [] false (⟨#[]⟩ : ByteArray) 0)
def ck (num off : Int) (d : List Int) : T_Rec := T_Rec.mk 5 zM 0 [] 0 num off d
def dn (num : Int) : T_Rec := T_Rec.mk 6 zM 0 [] 0 num 0 []
theorem zM_lm : LM zM := ⟨by simp [zM], by simp [zM, mW, psum, ByteArray.size]⟩
theorem zM_byt : byt zM.Body := fun x hx => by simp [zM] at hx
theorem ck_rok {num off : Int} {d : List Int} (h : d.length ≤ 600) : Rok (ck num off d) := ⟨⟨h, by simp [ck], zM_lm⟩, zM_byt⟩
theorem dn_rok {num : Int} : Rok (dn num) := ⟨⟨by simp [dn], by simp [dn], zM_lm⟩, zM_byt⟩
theorem ck_er (num off : Int) (d : List Int) : er (ck num off d) = true := by
  have h : erO (ck num off d) = some true := by kernel_rfl
  simp only [er, h, Option.getD_some]
theorem dn_er (num : Int) : er (dn num) = true := by
  have h : erO (dn num) = some true := by kernel_rfl
  simp only [er, h, Option.getD_some]
theorem ok_ck (s : T_Spool) (num off : Int) (d : List Int) : okS s (ck num off d) = (opn s num && ckB s (ck num off d)) := by
  unfold okS
  rw [ck_er, Bool.true_and, if_neg (by simp [ck]), if_neg (by simp [ck]), if_neg (by simp [ck]), if_neg (by simp [ck]), if_pos (by simp [ck])]
  rfl
theorem ok_dn (s : T_Spool) (num : Int) : okS s (dn num) = opn s num := by
  unfold okS
  rw [dn_er, Bool.true_and, if_neg (by simp [dn]), if_neg (by simp [dn]), if_neg (by simp [dn]), if_neg (by simp [dn]), if_neg (by simp [dn]), if_pos (by simp [dn])]
  rfl
def pt (p : List Int) (o : Int) : T_Spool := ⟨[], 0, [], p, o, []⟩
theorem pt_inv {p : List Int} {o : Int} {n : Nat} (hn : n < 1000000) (h : p.length ≤ 5000) : Inv n (pt p o) :=
  ⟨hn, by simp [pt], fun i h => absurd h (by simp [pt]), by simp [pt], ⟨by simp [pt], by simp [pt]⟩, by simp [pt], h, by simp [pt], List.Pairwise.nil⟩
theorem pt_opn {p : List Int} {o num : Int} (h1 : 1 ≤ num) (h2 : num ≤ 65535) : opn (pt p o) num = true := by
  simp [opn, pt, h1, h2]
theorem pt_first {p d : List Int} {o num : Int} (hp : p.length ≤ 5000) (h1 : 1 ≤ num) (h2 : num ≤ 65535) (hd : 1 ≤ d.length ∧ d.length ≤ 48) : spool_Add (pt p o) (ck num 0 d) = some (pt d num, 0) := by
  have ho : okS (pt p o) (ck num 0 d) = true := by
    rw [ok_ck, pt_opn h1 h2]
    simp [ckB, ck, hd.1, hd.2]
  rw [add_eq (pt_inv (n := 0) (by omega) hp) (ck_rok (by omega)), if_pos ho, eff5 rfl]
  rfl
theorem pt_more {p d : List Int} {num : Int} (hp : 1 ≤ p.length) (h1 : 1 ≤ num) (h2 : num ≤ 65535) (hd : 1 ≤ d.length ∧ d.length ≤ 48) (hl : p.length + d.length ≤ 5000) : spool_Add (pt p num) (ck num (p.length : Int) d) = some (pt (p ++ d) num, 0) := by
  have ho : okS (pt p num) (ck num (p.length : Int) d) = true := by
    rw [ok_ck, pt_opn h1 h2]
    simp [ckB, ck, pt, hd.1, hd.2, hl]
  rw [add_eq (pt_inv (n := 0) (by omega) (by omega)) (ck_rok (by omega)), if_pos ho, eff5 rfl]
  have hne : ¬ ((p.length : Int) = 0) := by omega
  show some ((⟨[], 0, [], if (p.length : Int) = 0 then d else p ++ d, if (p.length : Int) = 0 then num else num, []⟩ : T_Spool), (0 : Int)) = _
  rw [if_neg hne, if_neg hne]; rfl
def jl : List (List Int) → List Int
  | [] => []
  | a :: l => a ++ jl l
theorem jl_app : ∀ (a b : List (List Int)), jl (a ++ b) = jl a ++ jl b
  | [], b => rfl
  | x :: a, b => by simp only [List.cons_append, jl, jl_app a b, List.append_assoc]
theorem jl_succ (l : List (List Int)) (k : Nat) (hk : k < l.length) : jl (l.take (k + 1)) = jl (l.take k) ++ l[k] := by
  rw [take_succ l k hk, jl_app]; simp [jl]
theorem jl_len (l : List (List Int)) (h : ∀ x ∈ l, 1 ≤ x.length ∧ x.length ≤ 48) : l.length ≤ (jl l).length ∧ (jl l).length ≤ 48 * l.length := by
  induction l with
  | nil => exact ⟨Nat.le_refl _, Nat.le_refl _⟩
  | cons a l ih =>
    have := ih (fun x hx => h x (List.mem_cons_of_mem _ hx))
    have ha := h a List.mem_cons_self
    simp only [jl, List.length_append, List.length_cons]
    omega
def sP (l : List (List Int)) (p : List Int) (k : Nat) : List Int := if k = 0 then p else jl (l.take k)
def sO (o num : Int) (k : Nat) : Int := if k = 0 then o else num
theorem sc_round (l : List (List Int)) (num o : Int) (p : List Int) (hl : l.length ≤ 60) (hp : p.length ≤ 5000) (h1 : 1 ≤ num) (h2 : num ≤ 65535) (i : Nat) (hi : i < l.length) (hb : ∀ j (h : j < l.length), j < i + 1 → 1 ≤ l[j].length ∧ l[j].length ≤ 48) :
    scI l num ([], 0, [], sP l p i, sO o num i, [], jl (l.take i), (i : Int)) = some (.inl ([], 0, [], sP l p (i + 1), sO o num (i + 1), [], jl (l.take (i + 1)), ((i + 1 : Nat) : Int))) := by
  have hg : getO l i = some l[i] := by simp [getO, hi]
  have hd := hb i hi (by omega)
  have hj := jl_len (l.take i) (fun x hx => by
    obtain ⟨j, hj, rfl⟩ := List.getElem_of_mem hx
    have hj' : j < l.length := by rw [List.length_take] at hj; omega
    rw [List.length_take] at hj
    rw [List.getElem_take]
    exact hb j hj' (by omega))
  rw [List.length_take, Nat.min_eq_left (by omega)] at hj
  have hadd : spool_Add (pt (sP l p i) (sO o num i)) (ck num ((jl (l.take i)).length : Int) l[i]) = some (pt (sP l p (i + 1)) (sO o num (i + 1)), 0) := by
    have e1 : sP l p (i + 1) = jl (l.take (i + 1)) := by simp [sP]
    have e2 : sO o num (i + 1) = num := by simp [sO]
    rw [e1, e2]
    by_cases h0 : i = 0
    · subst h0
      have : jl (l.take 1) = l[0] := by rw [jl_succ l 0 hi]; rfl
      rw [this]
      exact pt_first (by simp only [sP]; exact hp) h1 h2 hd
    · have e3 : sP l p i = jl (l.take i) := by simp [sP, h0]
      have e4 : sO o num i = num := by simp [sO, h0]
      rw [e3, e4, jl_succ l i hi]
      exact pt_more (by omega) h1 h2 hd (by omega)
  refine cnd_t (decide_eq_true (by omega)) (bndL (s := false) (bnd (ixO_of hi) (bnd hg (cnd_f (decide_eq_false (by omega)) (bnd (ixO_of hi) (bnd hg (inl_of (decide_eq_false (by omega)))))))) (cnd_f rfl (bnd (ixO_of hi) (bnd hg (bnd hadd (cnd_f rfl (bnd (ixO_of hi) (bnd hg (bnd (app_of (by omega) (by omega)) (bnd (congrArg some (wrap_succ (n := i) (by omega))) ?_))))))))))
  rw [jl_succ l i hi]; rfl
theorem sc_bad (l : List (List Int)) (num : Int) (i : Nat) (hi : i < l.length) (hb : ¬ (1 ≤ l[i].length ∧ l[i].length ≤ 48)) (a : List T_Item) (b : Int) (c d : List Int) (e : Int) (f g : List Int) :
    scI l num (a, b, c, d, e, f, g, (i : Int)) = some (.inr (.inr (.inr (.inr (.inr true))))) := by
  have hg : getO l i = some l[i] := by simp [getO, hi]
  refine cnd_t (decide_eq_true (by omega)) (bndL (s := true) (bnd (ixO_of hi) (bnd hg ?_)) rfl)
  by_cases h : l[i].length < 1
  · exact cnd_t (decide_eq_true (by omega)) rfl
  · exact cnd_f (decide_eq_false (by omega)) (bnd (ixO_of hi) (bnd hg (inl_of (decide_eq_true (by omega)))))
theorem sc_loop (l : List (List Int)) (num o : Int) (p : List Int) (hl : l.length ≤ 60) (hp : p.length ≤ 5000) (h1 : 1 ≤ num) (h2 : num ≤ 65535) :
    (loopF (scI l num) BIG ([], 0, [], p, o, [], [], 0) = some (.inr (.inr (.inr (.inr true))))) ∨
    ((∀ x ∈ l, 1 ≤ x.length ∧ x.length ≤ 48) ∧ loopF (scI l num) BIG ([], 0, [], p, o, [], [], 0) = some (.inl ([], 0, [], sP l p l.length, sO o num l.length, [], jl l))) := by
  rcases first_fail (fun i => decide (∀ h : i < l.length, 1 ≤ (l[i]'h).length ∧ (l[i]'h).length ≤ 48)) l.length with h | ⟨k, hk, ha, hno⟩
  · have hb : ∀ j (hj : j < l.length), 1 ≤ l[j].length ∧ l[j].length ≤ 48 := fun j hj => of_decide_eq_true (h j hj) hj
    refine .inr ⟨fun x hx => ?_, ?_⟩
    · obtain ⟨j, hj, rfl⟩ := List.getElem_of_mem hx
      exact hb j hj
    · refine loop_from (f := scI l num) (fun k => ([], 0, [], sP l p k, sO o num k, [], jl (l.take k), (k : Int))) l.length BIG rfl (by simp only [BIG]; omega) (fun k hk => sc_round l num o p hl hp h1 h2 k hk (fun j hj _ => hb j hj)) ?_
      refine (cnd_f (decide_eq_false (by omega)) rfl).trans ?_
      rw [List.take_length]
  · refine .inl ?_
    refine loop_from (f := scI l num) (fun k => ([], 0, [], sP l p k, sO o num k, [], jl (l.take k), (k : Int))) k BIG rfl (by simp only [BIG]; omega) (fun i hi => sc_round l num o p hl hp h1 h2 i (by omega) (fun j hj hji => of_decide_eq_true (ha j (by omega)) hj)) ?_
    exact sc_bad l num k hk (fun hc => of_decide_eq_false hno (fun _ => hc)) _ _ _ _ _ _ _
theorem sc_tail {num : Int} {o : Int} {p : List Int} (hp : p.length ≤ 5000) (h1 : 1 ≤ num) (h2 : num ≤ 65535) (ho : o = num ∨ (o = -1 ∧ p = [])) :
    spool_Add (pt p o) (dn num) = some (⟨[], 0, [], [], -1, [num]⟩, 0) ∧ spool_Add ⟨[], 0, [], [], -1, [num]⟩ (dn num) = some (noSp, 5) ∧ spool_Add ⟨[], 0, [], [], -1, [num]⟩ (ck num 0 [1]) = some (noSp, 5) := by
  have hi : Inv 1 (⟨[], 0, [], [], -1, [num]⟩ : T_Spool) := ⟨by omega, by simp, fun i h => absurd h (by simp), by simp, ⟨by simp, by simp⟩, by simp, by simp, by simp, List.pairwise_singleton _ _⟩
  have hop : opn (⟨[], 0, [], [], -1, [num]⟩ : T_Spool) num = false := by simp [opn]
  refine ⟨?_, ?_, ?_⟩
  · rw [add_eq (pt_inv (n := 0) (by omega) hp) dn_rok, if_pos (by rw [ok_dn]; exact pt_opn h1 h2), eff6 rfl]
    rcases ho with rfl | ⟨rfl, rfl⟩
    · simp [pt, dn, insS]
    · have hne : ¬ ((-1 : Int) = num) := by omega
      show some ((⟨[], 0, [], if (-1 : Int) = num then [] else [], if (-1 : Int) = num then -1 else -1, insS [] num⟩ : T_Spool), (0 : Int)) = _
      rw [if_neg hne, if_neg hne]; rfl
  · rw [add_eq hi dn_rok, if_neg (by rw [ok_dn, hop]; simp)]
  · rw [add_eq hi (ck_rok (by simp)), if_neg (by rw [ok_ck, hop]; simp)]
theorem scO_bad (l : List (List Int)) (again : Bool) (num o : Int) (p w : List Int) (k : Nat) (hk : k < 2) (h : loopF (scI l num) BIG ([], 0, [], p, o, [], [], 0) = some (.inr (.inr (.inr (.inr true))))) :
    scO l again num ([], 0, [], p, o, [], w, (k : Int)) = some (.inr (.inr (.inr true))) := cnd_t (decide_eq_true (by omega)) (bndR h rfl)
theorem scO_one (l : List (List Int)) (num o : Int) (p w : List Int) (p2 w2 : List Int) (o2 : Int) (k : Nat) (hk : k < 2) (h : loopF (scI l num) BIG ([], 0, [], p, o, [], [], 0) = some (.inl ([], 0, [], p2, o2, [], w2))) :
    scO l false num ([], 0, [], p, o, [], w, (k : Int)) = some (.inr (.inl ([], 0, [], p2, o2, [], w2))) := by
  refine cnd_t (decide_eq_true (by omega)) (bndL h ?_)
  rfl
theorem scO_two (l : List (List Int)) (num o : Int) (p w : List Int) (p2 w2 : List Int) (o2 : Int) (k : Nat) (hk : k < 2) (h : loopF (scI l num) BIG ([], 0, [], p, o, [], [], 0) = some (.inl ([], 0, [], p2, o2, [], w2))) :
    scO l true num ([], 0, [], p, o, [], w, (k : Int)) = some (.inl ([], 0, [], p2, o2, [], w2, ((k + 1 : Nat) : Int))) := cnd_t (decide_eq_true (by omega)) (bndL h (cnd_f rfl (bnd (congrArg some (wrap_succ (n := k) (by omega))) rfl)))
theorem scO_end (l : List (List Int)) (again : Bool) (num o : Int) (p w : List Int) (k : Nat) (hk : ¬ k < 2) : scO l again num ([], 0, [], p, o, [], w, (k : Int)) = some (.inr (.inl ([], 0, [], p, o, [], w))) := cnd_f (decide_eq_false (by omega)) rfl
theorem spoolChunks_true (number : Int) (l : List (List Int)) (again : Bool) : wherrylaw19_SpoolChunks number l again = some true := by
  obtain ⟨q, hq, hqr⟩ := spo_rem number 65535 (by omega) (by omega)
  have e65 : IntKind.u64.wrap ((65535 : Nat) : Int) = 65535 := u64_wrap (by omega) (by omega)
  rw [e65] at hqr
  obtain ⟨num, hnum⟩ : ∃ num : Int, num = 1 + (q : Int) := ⟨_, rfl⟩
  have h1 : 1 ≤ num := by omega
  have h2 : num ≤ 65535 := by omega
  unfold wherrylaw19_SpoolChunks
  refine bnd rfl (bnd hqr (bnd (congrArg some (wrap_nat q (by omega))) (bnd (x := num) (by rw [hnum]; exact congrArg some (wrap_i64 (by omega) (by omega))) ?_)))
  by_cases hl : 60 < l.length
  · exact cnd_t (decide_eq_true (by omega)) rfl
  refine cnd_f (decide_eq_false (by omega)) (bnd rfl ?_)
  have hne : ∀ x : Int, (x != x) = false := fun x => by simp
  rcases sc_loop l num (-1) [] (by omega) (by simp) h1 h2 with hb | ⟨hall, hr1⟩
  · exact bndR (a := true) (bndR (a := .inr true) (loop_from (f := scO l again num) (fun _ => ([], 0, [], [], -1, [], [], ((0 : Nat) : Int))) 0 BIG rfl (by simp only [BIG]; omega) (fun k hk => absurd hk (by omega)) (scO_bad l again num (-1) [] [] 0 (by omega) hb)) rfl) rfl
  have hj := jl_len l hall
  have e1 : sP l [] l.length = jl l := by
    simp only [sP]
    split
    · rename_i h0
      rw [List.length_eq_zero_iff.1 h0]; rfl
    · rw [List.take_length]
  obtain ⟨oo, hoo⟩ : ∃ oo, oo = sO (-1) num l.length := ⟨_, rfl⟩
  have ho : (l.length = 0 ∧ oo = -1 ∧ jl l = []) ∨ (0 < l.length ∧ oo = num) := by
    rw [hoo]
    simp only [sO]
    split
    · rename_i h0
      exact .inl ⟨h0, rfl, by rw [List.length_eq_zero_iff.1 h0]; rfl⟩
    · exact .inr ⟨by omega, rfl⟩
  rw [e1, ← hoo] at hr1
  have e2 : sP l (jl l) l.length = jl l := by
    simp only [sP]
    split
    · rfl
    · rw [List.take_length]
  have e3 : sO oo num l.length = oo := by
    rw [hoo]
    simp only [sO]
    split <;> rfl
  have hj5 : (jl l).length ≤ 5000 := by omega
  have hr2 := sc_loop l num oo (jl l) (by omega) hj5 h1 h2
  have hw1 : some (IntKind.i64.wrap (0 + 1)) = some 1 := rfl
  have hw2 : some (IntKind.i64.wrap (1 + 1)) = some 2 := rfl
  have htl := sc_tail (num := num) (o := oo) (p := jl l) hj5 h1 h2 (by
    rcases ho with ⟨_, a, b⟩ | ⟨_, a⟩
    · exact .inr ⟨a, b⟩
    · exact .inl a)
  have hbool : (loopF (scO l again num) BIG ([], 0, [], [], -1, [], [], 0) = some (.inr (.inr true))) ∨ (loopF (scO l again num) BIG ([], 0, [], [], -1, [], [], 0) = some (.inl ([], 0, [], jl l, oo, [], jl l))) := by
    cases again
    · exact .inr (loop_from (f := scO l false num) (fun _ => ([], 0, [], [], -1, [], [], ((0 : Nat) : Int))) 0 BIG rfl (by simp only [BIG]; omega) (fun k hk => absurd hk (by omega)) (scO_one l num (-1) [] [] _ _ _ 0 (by omega) hr1))
    · have h0 := scO_two l num (-1) [] [] _ _ _ 0 (by omega) hr1
      rcases hr2 with hr2 | ⟨_, hr2⟩
      · refine .inl (loop_from (f := scO l true num) (fun k => if k = 0 then ([], 0, [], [], -1, [], [], ((0 : Nat) : Int)) else ([], 0, [], jl l, oo, [], jl l, ((1 : Nat) : Int))) 1 BIG rfl (by simp only [BIG]; omega) (fun k hk => ?_) ?_)
        · obtain rfl : k = 0 := by omega
          exact h0
        · exact scO_bad l true num oo (jl l) (jl l) 1 (by omega) hr2
      · rw [e2, e3] at hr2
        have h1 := scO_two l num oo (jl l) (jl l) _ _ _ 1 (by omega) hr2
        refine .inr (loop_from (f := scO l true num) (fun k => if k = 0 then ([], 0, [], [], -1, [], [], ((0 : Nat) : Int)) else if k = 1 then ([], 0, [], jl l, oo, [], jl l, ((1 : Nat) : Int)) else ([], 0, [], jl l, oo, [], jl l, ((2 : Nat) : Int))) 2 BIG rfl (by simp only [BIG]; omega) (fun k hk => ?_) ?_)
        · by_cases hk0 : k = 0
          · subst hk0; exact h0
          · obtain rfl : k = 1 := by omega
            exact h1
        · exact scO_end l true num oo (jl l) (jl l) 2 (by omega)
  rcases hbool with hb | hb
  · refine bndR (a := true) (bndR (a := .inr true) (Eq.trans ?_ hb) rfl) rfl
    rfl
  refine bndL (s := ([], 0, [], jl l, oo, [], jl l)) (bndL (Eq.trans ?_ hb) rfl) ?_
  · rfl
  refine bndL (s := false) ?_ (cnd_f rfl (bnd htl.1 (bnd htl.2.1 (bnd htl.2.2 (bndL (s := true) ?_ rfl)))))
  · rcases ho with ⟨a, b, c⟩ | ⟨a, b⟩
    · exact cnd_f (decide_eq_false (by omega)) rfl
    · exact cnd_t (decide_eq_true (by omega)) (cnd_f (by rw [b]; exact hne _) (bnd (bytes_refl _ (by omega)) rfl))
  · exact cnd_t rfl (cnd_t rfl (cnd_t rfl (cnd_t rfl (cnd_t rfl (bnd (ints_refl _ (by simp)) (cnd_t rfl (bnd wakes19 rfl)))))))
end Go.Abs.Sh
