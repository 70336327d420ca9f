import Derived.Test.YtkgfjkfccpjcgaaDoorShkT
import Derived.Test.YtkgfjkfccpjcgaaDoorTrxS
import Derived.KernelRfl
namespace Go.Abs.Sh
set_option linter.unusedVariables false
set_option linter.unusedSimpArgs false
set_option maxRecDepth 100000
def wtS (l : List T_Tok) : (((List Int) × (List Int) × Int)) → Option (((List Int) × (List Int) × Int) ⊕ (((List Int) × (List Int)) ⊕ ((List Int) × (List Int) × Int))) := (fun ((s46, s47, s48) : (List Int) × (List Int) × Int) =>
    cond ((decide (s48 < (l.length : Int))))
      (bindS (S := (List Int) × (List Int)) (A := (((List Int) × (List Int) × Int) ⊕ (((List Int) × (List Int)) ⊕ ((List Int) × (List Int) × Int))))
        ((ixO s48 l.length).bind fun v8 =>
        (getO l v8).bind fun v9 =>
        cond ((v9.Len == 0))
          ((ixO v9.Byte s46.length).bind fun v11 =>
          (getO s46 v11).bind fun v12 =>
          (some (IntKind.i64.wrap (v12 + 1))).bind fun v13 =>
          (ixO v9.Byte s46.length).bind fun v14 =>
          (some (s46.set v14 v13)).bind fun v15 =>
          some (.inl (v15, s47)))
          ((sym_Len v9.Len).bind fun v16 =>
          (sym_Dist v9.Dist).bind fun v17 =>
          (ixO v16.1 s46.length).bind fun v18 =>
          (getO s46 v18).bind fun v19 =>
          (some (IntKind.i64.wrap (v19 + 1))).bind fun v20 =>
          (ixO v16.1 s46.length).bind fun v21 =>
          (some (s46.set v21 v20)).bind fun v22 =>
          (ixO v17.1 s47.length).bind fun v23 =>
          (getO s47 v23).bind fun v24 =>
          (some (IntKind.i64.wrap (v24 + 1))).bind fun v25 =>
          (ixO v17.1 s47.length).bind fun v26 =>
          (some (s47.set v26 v25)).bind fun v27 =>
          some (.inl (v22, v27))))
        (fun ((s67, s68) : (List Int) × (List Int)) =>
          (some (IntKind.i64.wrap (s48 + 1))).bind fun v34 =>
          some (.inl (s67, s68, v34))) some)
      (some (.inr (.inl (s46, s47)))))
def trS (l : List Int) (least : Int) : ((Int)) → Option ((Int) ⊕ ((Int) ⊕ (List Int))) := (fun (s46 : Int) =>
  bindS (S := Bool) (A := ((Int) ⊕ ((Int) ⊕ (List Int))))
    (cond ((decide (least < s46)))
      ((some (IntKind.i64.wrap (s46 - 1))).bind fun v1 =>
      (ixO v1 l.length).bind fun v2 =>
      (getO l v2).bind fun v3 =>
      some (.inl (v3 == 0)))
      (some (.inl false)))
    (fun (s59 : Bool) =>
      cond (s59)
        ((some (IntKind.i64.wrap (s46 - 1))).bind fun v9 =>
        some (.inl v9))
        (some (.inr (.inl s46)))) some)
/-! Weights. -/
def inc (a : List Nat) (s : Nat) : List Nat := a.set s (a.getD s 0 + 1)
theorem inc_len (a : List Nat) (s : Nat) : (inc a s).length = a.length := by simp [inc]
theorem inc_le {a : List Nat} {s c : Nat} (h : ∀ x ∈ a, x ≤ c) : ∀ x ∈ inc a s, x ≤ c + 1 := by
  intro x hx
  rcases List.mem_or_eq_of_mem_set hx with k | k
  · have := h x k; omega
  · rw [k]
    have : a.getD s 0 ≤ c := by
      rw [List.getD_eq_getElem?_getD]
      cases hj : a[s]? with
      | none => simp
      | some y => simpa using h y (List.mem_of_getElem? hj)
    omega
theorem inc_ix {a : List Nat} {s : Nat} {x : Int} (hx : x = (s : Int)) (hs : s < a.length) : ixO x (ints a).length = some s ∧ getO (ints a) s = some ((a.getD s 0 : Nat) : Int) := by
  subst hx
  refine ⟨ixO_of (by rw [ints_len]; exact hs), ?_⟩
  rw [ints_get hs, List.getD_eq_getElem?_getD, List.getElem?_eq_getElem hs, Option.getD_some]
theorem set_ints (a : List Nat) (s v : Nat) : (ints a).set s (v : Int) = ints (a.set s v) := by
  simp [ints, List.map_set]
def wtA (x : List Nat × List Nat) (t : T_Tok) : List Nat × List Nat :=
  if t.Len = 0 then (inc x.1 t.Byte.toNat, x.2) else (inc x.1 (lnN t.Len.toNat).1, inc x.2 (dsN t.Dist.toNat).1)
def wts0 : List Nat × List Nat := ((List.replicate 286 0).set 256 1, List.replicate 30 0)
def wtN (l : List T_Tok) : List Nat × List Nat := l.foldl wtA wts0
structure WtI (x : List Nat × List Nat) (c : Nat) : Prop where
  la : x.1.length = 286
  ld : x.2.length = 30
  ba : ∀ y ∈ x.1, y ≤ c
  bd : ∀ y ∈ x.2, y ≤ c
theorem wtI_step {x : List Nat × List Nat} {c : Nat} (h : WtI x c) (t : T_Tok) : WtI (wtA x t) (c + 1) := by
  unfold wtA
  split
  · exact ⟨by rw [inc_len]; exact h.la, h.ld, inc_le h.ba, fun y hy => Nat.le_succ_of_le (h.bd y hy)⟩
  · exact ⟨by rw [inc_len]; exact h.la, by rw [inc_len]; exact h.ld, inc_le h.ba, inc_le h.bd⟩
theorem wtI_fold : ∀ (l : List T_Tok) (x : List Nat × List Nat) (c : Nat), WtI x c → WtI (l.foldl wtA x) (c + l.length)
  | [], x, c, h => h
  | t :: l, x, c, h => by
    have := wtI_fold l (wtA x t) (c + 1) (wtI_step h t)
    rw [List.length_cons, show c + (l.length + 1) = c + 1 + l.length by omega]
    exact this
theorem wtI0 : WtI wts0 1 := ⟨by simp [wts0], by simp [wts0], of_decide_eq_true (by kernel_rfl), of_decide_eq_true (by kernel_rfl)⟩
theorem wt_step {l : List T_Tok} {i : Nat} (hi : i < l.length) (hil : l.length ≤ 5000) (ht : okTk l[i]) {x : List Nat × List Nat} {c : Nat} (h : WtI x c) (hc : c ≤ 1000000) :
    wtS l (ints x.1, ints x.2, (i : Int)) = some (.inl (ints (wtA x l[i]).1, ints (wtA x l[i]).2, ((i + 1 : Nat) : Int))) := by
  have hg := getO_of hi
  have hw := wrap_succ (n := i) (by omega)
  have hgd : ∀ (a : List Nat) (s : Nat), (∀ y ∈ a, y ≤ c) → a.getD s 0 ≤ c := fun a s ha => by
    rw [List.getD_eq_getElem?_getD]
    cases hj : a[s]? with
    | none => simp
    | some y => simpa using ha y (List.mem_of_getElem? hj)
  unfold wtA
  by_cases h0 : l[i].Len = 0
  · rw [if_pos h0]
    have hs : l[i].Byte.toNat < x.1.length := by rw [h.la]; have := ht.1; omega
    obtain ⟨i1, i2⟩ := inc_ix (a := x.1) (x := l[i].Byte) (s := l[i].Byte.toNat) (by have := ht.1; omega) hs
    have := hgd x.1 l[i].Byte.toNat h.ba
    exact cnd_t (decide_eq_true (by omega)) (bndL (s := (ints (inc x.1 l[i].Byte.toNat), ints x.2)) (bnd (ixO_of hi) (bnd hg (cnd_t (beq_iff_eq.2 h0) (bnd i1 (bnd i2 (bnd (congrArg some (wrap_succ (n := x.1.getD l[i].Byte.toNat 0) (by omega))) (bnd i1 (bnd (congrArg some (set_ints x.1 l[i].Byte.toNat _)) rfl)))))))) (bnd (congrArg some hw) rfl))
  · rw [if_neg h0]
    rcases ht.2 with h1 | ⟨h1, h2, h3, h4⟩
    · exact absurd h1 h0
    obtain ⟨l1, l2, l3, l4, l5⟩ := ln_ok (n := l[i].Len.toNat) (by omega) (by omega)
    obtain ⟨d1, d2, d3, d4⟩ := ds_ok (n := l[i].Dist.toNat) (by omega) (by omega)
    rw [show ((l[i].Len.toNat : Nat) : Int) = l[i].Len by omega] at l1
    rw [show ((l[i].Dist.toNat : Nat) : Int) = l[i].Dist by omega] at d1
    obtain ⟨i1, i2⟩ := inc_ix (a := x.1) (s := (lnN l[i].Len.toNat).1) rfl (by rw [h.la]; omega)
    obtain ⟨j1, j2⟩ := inc_ix (a := x.2) (s := (dsN l[i].Dist.toNat).1) rfl (by rw [h.ld]; omega)
    have q1 := hgd x.1 (lnN l[i].Len.toNat).1 h.ba
    have q2 := hgd x.2 (dsN l[i].Dist.toNat).1 h.bd
    exact cnd_t (decide_eq_true (by omega)) (bndL (s := (ints (inc x.1 (lnN l[i].Len.toNat).1), ints (inc x.2 (dsN l[i].Dist.toNat).1))) (bnd (ixO_of hi) (bnd hg (cnd_f (beq_eq_false_iff_ne.2 h0) (bnd l1 (bnd d1 (bnd i1 (bnd i2 (bnd (congrArg some (wrap_succ (n := x.1.getD (lnN l[i].Len.toNat).1 0) (by omega))) (bnd i1 (bnd (congrArg some (set_ints x.1 _ _)) (bnd j1 (bnd j2 (bnd (congrArg some (wrap_succ (n := x.2.getD (dsN l[i].Dist.toNat).1 0) (by omega))) (bnd j1 (bnd (congrArg some (set_ints x.2 _ _)) rfl))))))))))))))) (bnd (congrArg some hw) rfl))
theorem wt_loop {l : List T_Tok} (hil : l.length ≤ 5000) (ht : ∀ t ∈ l, okTk t) : ∀ (k i fuel : Nat) (x : List Nat × List Nat) (c : Nat), i + k = l.length → k < fuel → WtI x c → c + k ≤ 900000 →
    loopF (wtS l) fuel (ints x.1, ints x.2, (i : Int)) = some (.inl (ints ((l.drop i).foldl wtA x).1, ints ((l.drop i).foldl wtA x).2))
  | 0, i, fuel, x, c, hk, hf, h, hc => by
    obtain ⟨fu, rfl⟩ : ∃ fu, fuel = fu + 1 := ⟨fuel - 1, by omega⟩
    rw [List.drop_eq_nil_of_le (by omega)]
    exact loop_exit (cnd_f (decide_eq_false (by omega)) rfl)
  | k + 1, i, fuel, x, c, hk, hf, h, hc => by
    obtain ⟨fu, rfl⟩ : ∃ fu, fuel = fu + 1 := ⟨fuel - 1, by omega⟩
    have hi : i < l.length := by omega
    rw [List.drop_eq_getElem_cons hi, List.foldl_cons]
    exact (loop_next (wt_step hi hil (ht _ (List.getElem_mem hi)) h (by omega))).trans (wt_loop hil ht k (i + 1) fu (wtA x l[i]) (c + 1) (by omega) (by omega) (wtI_step h _) (by omega))
theorem weights_eq {l : List T_Tok} (hil : l.length ≤ 5000) (ht : ∀ t ∈ l, okTk t) (hck : match_Check l = some 0) : sym_Weights l = some (ints (wtN l).1, ints (wtN l).2, 0) := by
  have m1 : mkO 8 286 (0 : Int) = some (List.replicate 286 0) := by kernel_rfl
  have m2 : mkO 8 30 (0 : Int) = some (List.replicate 30 0) := by kernel_rfl
  have hx : ixO 256 (List.replicate 286 (0 : Int)).length = some 256 := by rw [List.length_replicate]; rfl
  have e1 : (List.replicate 286 (0 : Int)).set 256 1 = ints wts0.1 := by kernel_rfl
  have e2 : List.replicate 30 (0 : Int) = ints wts0.2 := by kernel_rfl
  have hlp := wt_loop hil ht l.length 0 BIG wts0 1 (by omega) (by simp only [BIG]; omega) wtI0 (by omega)
  rw [List.drop_zero, ← e1, ← e2] at hlp
  unfold sym_Weights
  exact bnd hck (cnd_f rfl (bnd m1 (bnd m2 (bnd hx (bnd rfl (bndL hlp rfl))))))
theorem wts_I (l : List T_Tok) : WtI (wtN l) (1 + l.length) := wtI_fold l wts0 1 wtI0
/-! What only grows. -/
def used (x : List Nat × List Nat) (t : T_Tok) : Prop := if t.Len = 0 then 0 < x.1.getD t.Byte.toNat 0 else 0 < x.1.getD (lnN t.Len.toNat).1 0 ∧ 0 < x.2.getD (dsN t.Dist.toNat).1 0
/-! Trees. -/
def trN (w : List Nat) (lim : Nat) : List Nat := match tree_Lengths (ints w) (lim : Int) with
  | some (m, _) => m.map Int.toNat
  | none => []
theorem ints_D (w : List Nat) (j : Nat) : (ints w).getD j 0 = ((w.getD j 0 : Nat) : Int) := by
  simp only [ints, List.getD_eq_getElem?_getD, List.getElem?_map]
  cases w[j]? <;> simp
theorem tree_cd {w : List Nat} {lim : Nat} (hl : w.length ≤ 300) (hb : ∀ x ∈ w, x ≤ 1000000) (hL : okL (ints w) (lim : Int)) :
    tree_Lengths (ints w) (lim : Int) = some (ints (trN w lim), 0) ∧ Cd (trN w lim) ∧ (trN w lim).length = w.length ∧ (∀ j, j < w.length → (0 < (trN w lim).getD j 0 ↔ 0 < w.getD j 0)) ∧ ∀ x ∈ trN w lim, x ≤ lim := by
  have hok : okW (ints w) := ⟨by rw [ints_len]; exact hl, fun i hi => by
    rw [ints_len] at hi
    rw [ints_D, List.getD_eq_getElem?_getD, List.getElem?_eq_getElem hi, Option.getD_some]
    have := hb _ (List.getElem_mem hi)
    omega⟩
  obtain ⟨J, hJ, hno, hyes, hle⟩ := lengths_eq hok hL
  have hlim : (lim : Int) ≤ 15 := hL.2
  have hwJ := hvN_ok hok J
  have hchk := dep_check hwJ hyes hlim
  have hdl : (dep (hvN (ints w) J)).length = w.length := by rw [dep_len, hvN_len, ints_len]
  have hdp : ∀ j, j < w.length → (0 < (dep (hvN (ints w) J)).getD j 0 ↔ 0 < w.getD j 0) := by
    intro j hj
    have h1 := hvN_iff hok J j (by rw [ints_len]; exact hj)
    rw [ints_D] at h1
    rw [show (0 < w.getD j 0 ↔ 0 < (hvN (ints w) J).getD j 0) from ⟨fun h => h1.2 (by omega), fun h => by have := h1.1 h; omega⟩]
    constructor
    · intro h
      by_cases hz : 0 < (hvN (ints w) J).getD j 0
      · exact hz
      · rw [dep_zero hz] at h; omega
    · exact fun h => dep_pos (by rw [hvN_len, ints_len]; exact hj) h
  have hdf : ∀ j, j < w.length → (dep (hvN (ints w) J)).getD j 0 ≤ (lim : Int) := fun j hj => hyes j (by rw [hvN_len, ints_len]; exact hj)
  have etr : trN w lim = (dep (hvN (ints w) J)).map Int.toNat := by unfold trN; rw [hle]
  have h15 : ∀ x ∈ dep (hvN (ints w) J), 0 ≤ x := fun x hx => by
    obtain ⟨k, hk, rfl⟩ := mem_getD hx
    exact dep_nn (w := hvN (ints w) J) k
  have hd : ints (trN w lim) = dep (hvN (ints w) J) := by rw [etr]; exact ints_nats h15
  have hln : (trN w lim).length = w.length := by rw [etr, List.length_map, hdl]
  have hle2 : ∀ x ∈ trN w lim, x ≤ lim := fun x hx => by
    obtain ⟨k, hk, rfl⟩ := List.getElem_of_mem hx
    have h1 := hdf k (by omega)
    rw [← hd, ints_D, List.getD_eq_getElem?_getD, List.getElem?_eq_getElem hk, Option.getD_some] at h1
    omega
  rw [← hd] at hchk hdp hle
  refine ⟨hle, ⟨by omega, fun x hx => by have := hle2 x hx; omega, ?_⟩, hln, fun j hj => ?_, hle2⟩
  · rw [check_ints _ (by omega)] at hchk
    have h2 := Option.some.inj hchk
    split at h2
    · split at h2
      · assumption
      · cases h2
    · cases h2
  · have := hdp j hj
    rw [ints_D] at this
    exact ⟨fun h => this.1 (by omega), fun h => by have := this.2 h; omega⟩
/-! Without the noughts at the end. -/
def trm (l : List Nat) (least : Nat) : Nat → Nat
  | 0 => 0
  | s + 1 => if least < s + 1 ∧ l.getD s 0 = 0 then trm l least s else s + 1
theorem trm_le (l : List Nat) (least : Nat) : ∀ s, trm l least s ≤ s
  | 0 => Nat.le_refl _
  | s + 1 => by
    unfold trm
    split
    · have := trm_le l least s; omega
    · exact Nat.le_refl _
theorem trm_ge (l : List Nat) (least : Nat) : ∀ s, least ≤ s → least ≤ trm l least s
  | 0, h => h
  | s + 1, h => by
    unfold trm
    split
    · rename_i hc; exact trm_ge l least s (by omega)
    · exact h
theorem tr_loop {l : List Nat} (hl : l.length ≤ 1000) (least : Nat) : ∀ (s fuel : Nat), s ≤ l.length → s < fuel → loopF (trS (ints l) (least : Int)) fuel (s : Int) = some (.inl ((trm l least s : Nat) : Int))
  | 0, fuel, hs, hf => by
    obtain ⟨fu, rfl⟩ : ∃ fu, fuel = fu + 1 := ⟨fuel - 1, by omega⟩
    exact loop_exit (bndL (s := false) (cnd_f (decide_eq_false (by omega)) rfl) (cnd_f rfl rfl))
  | s + 1, fuel, hs, hf => by
    obtain ⟨fu, rfl⟩ : ∃ fu, fuel = fu + 1 := ⟨fuel - 1, by omega⟩
    have hw : IntKind.i64.wrap (((s + 1 : Nat) : Int) - 1) = ((s : Nat) : Int) := by rw [wrap_i64 (by omega) (by omega)]; omega
    obtain ⟨i1, i2⟩ := inc_ix (a := l) (s := s) rfl (by omega)
    unfold trm
    by_cases h1 : least < s + 1
    · by_cases h2 : l.getD s 0 = 0
      · rw [if_pos ⟨h1, h2⟩]
        exact (loop_next (bndL (s := true) (cnd_t (decide_eq_true (by omega)) (bnd (congrArg some hw) (bnd i1 (bnd i2 (by rw [h2]; rfl))))) (cnd_t rfl (bnd (congrArg some hw) rfl)))).trans (tr_loop hl least s fu (by omega) (by omega))
      · rw [if_neg (fun h => h2 h.2)]
        have hne : (((l.getD s 0 : Nat) : Int) == 0) = false := beq_eq_false_iff_ne.2 (by omega)
        exact loop_exit (bndL (s := false) (cnd_t (decide_eq_true (by omega)) (bnd (congrArg some hw) (bnd i1 (bnd i2 (by rw [hne]))))) (cnd_f rfl rfl))
    · rw [if_neg (fun h => h1 h.1)]
      exact loop_exit (bndL (s := false) (cnd_f (decide_eq_false (by omega)) rfl) (cnd_f rfl rfl))
def tmN (l : List Nat) (least : Nat) : List Nat := l.take (trm l least l.length)
theorem trim_eq {l : List Nat} (hl : l.length ≤ 1000) (least : Nat) : shrink_trim_ro (ints l) (least : Int) = some (ints (tmN l least)) := by
  have hlp : loopF (trS (ints l) (least : Int)) BIG ((ints l).length : Int) = some (.inl ((trm l least l.length : Nat) : Int)) := by rw [ints_len]; exact tr_loop hl least l.length BIG (Nat.le_refl _) (by simp only [BIG]; omega)
  have hle := trm_le l least l.length
  unfold shrink_trim_ro
  refine bndL hlp (bnd (x := ints (tmN l least)) ?_ rfl)
  have := sli_nat (ints l) (a := 0) (b := trm l least l.length) (by omega) (by rw [ints_len]; exact hle)
  rw [show ((0 : Nat) : Int) = 0 from rfl] at this
  rw [this, List.drop_zero, Nat.sub_zero]
  simp [ints, tmN, List.map_take]
end Go.Abs.Sh
