import Derived.Test.YthfmdofkkkpbkaaDoorPatG
import Derived.Test.YthfmdofkkkpbkaaDoorVrbL
namespace Go.Abs.Sh
set_option linter.unusedVariables false
set_option linter.unusedSimpArgs false
set_option maxRecDepth 100000

def prB (x : Int) : Bool := decide (32 ≤ x) && decide (x ≤ 126)
theorem print_eq (l : List Int) (hb : byt l) (hl : l.length ≤ 1000) : verb_printable (bstr l) = some (l.all prB) := by
  unfold verb_printable
  have hs : (bstr l).size = l.length := bstr_size l
  rw [hs]
  have hloop := loop_all (R := Bool) (f := fun (s17 : Int) =>
      cond ((decide (s17 < (l.length : Int))))
        (bindS (S := Bool) (A := ((Int) ⊕ ((Unit) ⊕ Bool)))
          ((chrO (bstr l) s17).bind fun v2 =>
          cond ((decide (v2 < 32)))
            (some (.inl true))
            ((chrO (bstr l) s17).bind fun v3 =>
            some (.inl ((decide (126 < v3))))))
          (fun (s31 : Bool) =>
            cond (s31)
              (some (.inr (.inr (false))))
              ((some (IntKind.i64.wrap (s17 + 1))).bind fun v9 =>
              some (.inl v9))) some)
        (some (.inr (.inl ())))) (fun i => prB (l.getD i 0)) l.length false (fuel := BIG) (by simp only [BIG]; omega)
    (fun i hi hp => by
      have hc : chrO (bstr l) (i : Int) = some (l.getD i 0) := by
        have := chr_of (s := bstr l) (i := i) (by rw [hs]; exact hi)
        rw [this]; congr 1
        have e := sbytes_bstr hb
        have : (sbytes (bstr l))[i]? = some (l.getD i 0) := by rw [e, List.getElem?_eq_getElem hi, List.getD_eq_getElem?_getD, List.getElem?_eq_getElem hi]; rfl
        rw [List.getElem?_eq_getElem (by rw [e]; exact hi)] at this
        exact Option.some.inj this
      simp only [prB, Bool.and_eq_true, decide_eq_true_eq] at hp
      refine cnd_t (decide_eq_true (by omega)) (bndL (s := false) (bnd hc (cnd_f (decide_eq_false (by omega)) (bnd hc (by rw [decide_eq_false (by omega)])))) (cnd_f rfl (bnd (some_wrap (by omega) (by omega)) rfl))))
    (fun i hi hp => by
      have hc : chrO (bstr l) (i : Int) = some (l.getD i 0) := by
        have := chr_of (s := bstr l) (i := i) (by rw [hs]; exact hi)
        rw [this]; congr 1
        have e := sbytes_bstr hb
        have : (sbytes (bstr l))[i]? = some (l.getD i 0) := by rw [e, List.getElem?_eq_getElem hi, List.getD_eq_getElem?_getD, List.getElem?_eq_getElem hi]; rfl
        rw [List.getElem?_eq_getElem (by rw [e]; exact hi)] at this
        exact Option.some.inj this
      simp only [prB, Bool.and_eq_false_iff, decide_eq_false_iff_not] at hp
      refine cnd_t (decide_eq_true (by omega)) (bndL (s := true) (bnd hc ?_) rfl)
      by_cases h : l.getD i 0 < 32
      · exact cnd_t (decide_eq_true h) rfl
      · exact cnd_f (decide_eq_false h) (bnd hc (by rw [decide_eq_true (by omega)])))
    (cnd_f (decide_eq_false (by omega)) rfl)
  by_cases h : ∀ i, i < l.length → prB (l.getD i 0) = true
  · rw [if_pos h] at hloop
    have ha : l.all prB = true := List.all_eq_true.2 fun x hx => by
      obtain ⟨i, hi, rfl⟩ := List.mem_iff_getElem.1 hx
      have := h i hi
      rwa [List.getD_eq_getElem?_getD, List.getElem?_eq_getElem hi] at this
    rw [ha]
    exact bndL hloop rfl
  · rw [if_neg h] at hloop
    have ha : l.all prB = false := by
      cases e : l.all prB with
      | false => rfl
      | true =>
        exfalso
        refine h fun i hi => ?_
        rw [List.getD_eq_getElem?_getD, List.getElem?_eq_getElem hi]
        exact List.all_eq_true.1 e _ (List.getElem_mem hi)
    rw [ha]
    exact bndR hloop rfl
structure WordOK (w : List Int) (kd : Int) : Prop where
  len : w.length = 4
  pr : w.all prB = true
  no : (32 : Int) ∉ w
  kind : (path_Fold (bstr w)).bind (fun _ => verb_kindOf (bstr w)) = some kd
  auth : verb_equalFold (bstr (w ++ [32])) (⟨#[65, 85, 84, 72, 32]⟩ : ByteArray) = some false
theorem byt_pr {l : List Int} (h : l.all prB = true) : byt l := fun x hx => by
  have := List.all_eq_true.1 h x hx
  simp only [prB, Bool.and_eq_true, decide_eq_true_eq] at this
  omega
theorem word_byt {w L : List Int} {kd : Int} (hw : WordOK w kd) (hL : byt L) : byt (w ++ 32 :: L) := by
  intro x hx
  rcases List.mem_append.1 hx with h | h
  · exact byt_pr hw.pr x h
  · rcases List.mem_cons.1 h with rfl | h
    · omega
    · exact hL x h
theorem word_cut {w L : List Int} {kd : Int} (hw : WordOK w kd) (hL : byt L) (hl : L.length ≤ 500) : strings_Cut (bstr (w ++ 32 :: L)) (⟨#[32]⟩ : ByteArray) = some (bstr w, bstr L, true) := by
  have hlen := hw.len
  have := cut_eq (n := 32) (by decide) (bstr (w ++ 32 :: L)) (by rw [bstr_size]; simp; omega)
  rw [sbytes_bstr (word_byt hw hL)] at this
  have hi : idx1 ((32 : Nat) : Int) (w ++ 32 :: L) = some w.length := idx1_app hw.no
  rw [hi] at this
  have e1 : (w ++ 32 :: L).take w.length = w := by simp
  have e2 : (w ++ 32 :: L).drop (w.length + 1) = L := by
    rw [← List.drop_drop]; simp
  simp only [e1, e2] at this
  exact this
theorem word_alone {w : List Int} {kd : Int} (hw : WordOK w kd) : strings_Cut (bstr w) (⟨#[32]⟩ : ByteArray) = some (bstr w, (⟨#[]⟩ : ByteArray), false) := by
  have hlen := hw.len
  have := cut_eq (n := 32) (by decide) (bstr w) (by rw [bstr_size]; omega)
  rw [sbytes_bstr (byt_pr hw.pr)] at this
  have hn : idx1 ((32 : Nat) : Int) w = none := idx1_none.2 hw.no
  rw [hn] at this
  exact this
theorem word_kind {w L : List Int} {kd : Int} (hw : WordOK w kd) (hL : byt L) (hl : L.length ≤ 500) : verb_kindOf (bstr (w ++ 32 :: L)) = some kd := by
  have h1 := hw.kind
  obtain ⟨f, hf, h2⟩ := bind_some h1
  rw [← h2]
  unfold verb_kindOf
  rw [word_cut hw hL hl, word_alone hw]
  rfl
theorem word_mech {w L : List Int} {kd : Int} (hw : WordOK w kd) (hL : byt L) (hl : L.length ≤ 500) : verb_otherMechanism (bstr (w ++ 32 :: L)) = some false := by
  have hlen := hw.len
  unfold verb_otherMechanism
  have hsz : (bstr (w ++ 32 :: L)).size = L.length + 5 := by rw [bstr_size]; simp; omega
  have hc : verb_cutFold (bstr (w ++ 32 :: L)) (⟨#[65, 85, 84, 72, 32]⟩ : ByteArray) = some ((⟨#[]⟩ : ByteArray), false) := by
    unfold verb_cutFold
    have h5 : ((⟨#[65, 85, 84, 72, 32]⟩ : ByteArray).size : Int) = ((5 : Nat) : Int) := rfl
    rw [h5, hsz]
    have hs := sub_of (s := bstr (w ++ 32 :: L)) (a := 0) (b := 5) (by omega) (by omega)
    rw [sbytes_bstr (word_byt hw hL)] at hs
    have e : ((w ++ 32 :: L).drop 0).take (5 - 0) = w ++ [32] := by
      rw [List.drop_zero, List.take_append, List.take_of_length_le (by omega), hlen]; rfl
    rw [e] at hs
    refine bndL (s := true) (cnd_f (decide_eq_false (by omega)) (bnd hs (bnd hw.auth rfl))) (cnd_t rfl rfl)
  refine bnd hc (bndL (s := true) (cnd_t rfl rfl) (cnd_t rfl rfl))
theorem word_parse {w L : List Int} {kd : Int} (hw : WordOK w kd) (hL : byt L) (hl : L.length ≤ 500) (hkd : kd ≠ 0) (r : Bool)
    (hcmd : verb_command (bstr (w ++ 32 :: L)) = some (T_Cmd.mk kd (bstr L) nopath [], r)) :
    verb_Parse (bstr (w ++ 32 :: L)) = some (if L.all prB = true then (if r = true then (T_Cmd.mk kd (bstr L) nopath [], 0) else (T_Cmd.mk 0 (⟨#[]⟩ : ByteArray) nopath [], 501)) else (T_Cmd.mk 0 (⟨#[]⟩ : ByteArray) nopath [], 500)) := by
  have hlen := hw.len
  have hsz : (bstr (w ++ 32 :: L)).size = L.length + 5 := by rw [bstr_size]; simp; omega
  have hp := print_eq (w ++ 32 :: L) (word_byt hw hL) (by simp; omega)
  have ha : (w ++ 32 :: L).all prB = L.all prB := by
    rw [List.all_append, hw.pr, List.all_cons]; rfl
  rw [ha] at hp
  unfold verb_Parse
  cases hpr : L.all prB with
  | false =>
    rw [hpr] at hp
    rw [if_neg (by simp)]
    exact bndL (s := true) (cnd_f (decide_eq_false (by rw [hsz]; omega)) (bnd hp (cnd_t rfl rfl))) (cnd_t rfl rfl)
  | true =>
    rw [hpr] at hp
    rw [if_pos rfl]
    refine bndL (s := false) (cnd_f (decide_eq_false (by rw [hsz]; omega)) (bnd hp (cnd_f rfl (bnd (word_kind hw hL hl) ?_)))) (cnd_f rfl ?_)
    · rw [beq_eq_false_iff_ne.2 hkd]
    · refine bnd (word_mech hw hL hl) (cnd_f rfl (bnd hcmd ?_))
      cases r with
      | false => exact cnd_t rfl rfl
      | true => exact cnd_f rfl rfl
theorem wEhlo : WordOK [69, 72, 76, 79] 1 := ⟨rfl, by decide, by decide, by kernel_rfl, by kernel_rfl⟩
theorem wEtrn : WordOK [69, 84, 82, 78] 9 := ⟨rfl, by decide, by decide, by kernel_rfl, by kernel_rfl⟩
theorem wAtrn : WordOK [65, 84, 82, 78] 11 := ⟨rfl, by decide, by decide, by kernel_rfl, by kernel_rfl⟩
theorem dom_of {L : List Int} (hL : byt L) (hl : L.length ≤ 500) : path_Domain (bstr L) = some (domB L) := by
  rw [dom_eq _ (by rw [bstr_size]; omega), sbytes_bstr hL]
theorem cmdEhlo {L : List Int} (hL : byt L) (hl : L.length ≤ 500) : verb_command (bstr ([69, 72, 76, 79] ++ 32 :: L)) = some (T_Cmd.mk 1 (bstr L) nopath [], domB L) := by
  unfold verb_command
  refine bnd (word_cut wEhlo hL hl) (bnd (word_kind wEhlo hL hl) ?_)
  refine bndL (s := false) (cnd_f rfl rfl) (cnd_f rfl ?_)
  exact bndL (s := true) (cnd_t rfl rfl) (cnd_t rfl (bnd (dom_of hL hl) rfl))
theorem cmdEtrn {L : List Int} (hL : byt L) (hl : L.length ≤ 500) : verb_command (bstr ([69, 84, 82, 78] ++ 32 :: L)) = some (T_Cmd.mk 9 (bstr L) nopath [], domB L) := by
  unfold verb_command
  refine bnd (word_cut wEtrn hL hl) (bnd (word_kind wEtrn hL hl) ?_)
  refine bndL (s := false) (cnd_f rfl rfl) (cnd_f rfl ?_)
  exact bndL (s := true) (cnd_f rfl rfl) (cnd_t rfl (bnd (dom_of hL hl) rfl))
theorem cmdAtrn {L : List Int} (hL : byt L) (hl : L.length ≤ 500) : verb_command (bstr ([65, 84, 82, 78] ++ 32 :: L)) = some (T_Cmd.mk 11 (bstr L) nopath [], domB L) := by
  unfold verb_command
  refine bnd (word_cut wAtrn hL hl) (bnd (word_kind wAtrn hL hl) ?_)
  refine bndL (s := false) (cnd_f rfl rfl) (cnd_f rfl ?_)
  refine bndL (s := false) (cnd_f rfl rfl) (cnd_f rfl (cnd_f rfl (cnd_t rfl ?_)))
  exact bndL (s := domB L) (cnd_f rfl (bnd (dom_of hL hl) rfl)) rfl
theorem spl_mem (c : Int) : ∀ (l : List Int) (x : Int), x ∈ l → x = c ∨ ∃ p ∈ spl c l, x ∈ p
  | [], x, h => by cases h
  | y :: r, x, h => by
    by_cases hy : y = c
    · rcases List.mem_cons.1 h with rfl | h
      · exact .inl hy
      · rcases spl_mem c r x h with h | ⟨p, hp, hx⟩
        · exact .inl h
        · refine .inr ⟨p, ?_, hx⟩
          simp only [spl, if_pos hy]
          exact List.mem_cons_of_mem _ hp
    · have e : ∃ p ps, spl c r = p :: ps := by
        cases h : spl c r with
        | nil => exact absurd h (spl_ne c r)
        | cons p ps => exact ⟨p, ps, rfl⟩
      obtain ⟨p, ps, e⟩ := e
      have e2 : spl c (y :: r) = (y :: p) :: ps := by simp only [spl, if_neg hy, e]
      rw [e2]
      rcases List.mem_cons.1 h with rfl | h
      · exact .inr ⟨_, List.mem_cons_self, List.mem_cons_self⟩
      · rcases spl_mem c r x h with h | ⟨q, hq, hx⟩
        · exact .inl h
        · rw [e] at hq
          rcases List.mem_cons.1 hq with rfl | hq
          · exact .inr ⟨_, List.mem_cons_self, List.mem_cons_of_mem _ hx⟩
          · exact .inr ⟨q, List.mem_cons_of_mem _ hq, hx⟩
theorem dom_print {L : List Int} (h : domB L = true) : L.all prB = true := by
  unfold domB at h
  rw [Bool.and_eq_true] at h
  refine List.all_eq_true.2 fun x hx => ?_
  rcases spl_mem 46 L x hx with rfl | ⟨p, hp, hxp⟩
  · decide
  · have h1 := List.all_eq_true.1 h.2 p hp
    simp only [labB, Bool.and_eq_true] at h1
    have h2 := List.all_eq_true.1 h1.2.2.2.2 x hxp
    simp only [lbB, alB, Bool.or_eq_true, Bool.and_eq_true, decide_eq_true_eq, beq_iff_eq] at h2
    simp only [prB, Bool.and_eq_true, decide_eq_true_eq]
    omega
theorem verbDomains_true (s : ByteArray) : wherrylaw12_VerbDomains s = some true := by
  unfold wherrylaw12_VerbDomains
  by_cases h1 : 300 < s.size
  · exact cnd_t (decide_eq_true (by omega)) rfl
  refine cnd_f (decide_eq_false (by omega)) ?_
  obtain ⟨L, hs, hL, hl⟩ : ∃ L, s = bstr L ∧ byt L ∧ L.length = s.size := ⟨sbytes s, (bstr_sbytes s).symm, byt_sbytes s, by rw [sbytes_len]⟩
  have hl3 : L.length ≤ 500 := by omega
  have hcat : ∀ (w : ByteArray) (W : List Int), sbytes w = W → w.size = 5 → catO w s = some (bstr (W ++ L)) := by
    intro w W hw h5
    rw [cat_of (by omega), hw, hs, sbytes_bstr hL]
  have p1 := word_parse wEhlo hL hl3 (by decide) _ (cmdEhlo hL hl3)
  have p2 := word_parse wEtrn hL hl3 (by decide) _ (cmdEtrn hL hl3)
  have p3 := word_parse wAtrn hL hl3 (by decide) _ (cmdAtrn hL hl3)
  have hrd : wherryref11_Domain s = some (domB L) := by rw [rdom_eq, hs, sbytes_bstr hL]
  refine bnd hrd (bnd (hcat _ [69, 72, 76, 79, 32] rfl rfl) (bnd p1 (bnd (hcat _ [69, 84, 82, 78, 32] rfl rfl) (bnd p2 (bnd (hcat _ [65, 84, 82, 78, 32] rfl rfl) (bnd p3 ?_))))))
  cases hd : domB L with
  | false =>
    refine cnd_t rfl (bndL (s := true) ?_ rfl)
    by_cases hp : L.all prB = true
    · simp only [if_pos hp, Bool.false_eq_true, if_false]
      exact cnd_t rfl (cnd_t rfl (cnd_t rfl (bnd (some_wrap (by decide) (by decide)) (bnd (some_wrap (by decide) (by decide)) (cnd_t rfl (bnd verb_wakes rfl))))))
    · simp only [if_neg hp]
      exact cnd_t rfl (cnd_t rfl (cnd_t rfl (bnd (some_wrap (by decide) (by decide)) (bnd (some_wrap (by decide) (by decide)) (cnd_t rfl (bnd verb_wakes rfl))))))
  | true =>
    have hp := dom_print hd
    simp only [if_pos hp, if_true]
    refine cnd_f rfl (bndL (s := true) ?_ rfl)
    have ht : ((bstr L).toList == s.toList) = true := by rw [hs]; simp
    exact cnd_t rfl (cnd_t rfl (cnd_t rfl (cnd_t rfl (cnd_t rfl (cnd_t rfl (cnd_t ht (cnd_t ht (cnd_t ht (bnd verb_wakes rfl)))))))))
end Go.Abs.Sh
