import Derived.Test.YtepkcpjfogjfhaaMatI
import Derived.KernelRfl
namespace Go.Abs.Sh
set_option linter.unusedVariables false
set_option linter.unusedSimpArgs false
set_option maxRecDepth 10000
def rkS (l : List T_Tok) : ((Int × Bool × Int)) → Option ((Int × Bool × Int) ⊕ ((Bool) ⊕ Int)) := (fun ((s78, s79, s80) : Int × Bool × Int) =>
  cond ((decide (s80 < (l.length : Int))))
    (bindS (S := Int) (A := ((Int × Bool × Int) ⊕ ((Bool) ⊕ Int)))
      (bindS (S := Bool) (A := (Int ⊕ ((Int × Bool × Int) ⊕ ((Bool) ⊕ Int))))
        ((ixO s80 l.length).bind fun v2 =>
        (getO l v2).bind fun v3 =>
        cond ((v3.Len == 0))
          ((ixO s80 l.length).bind fun v4 =>
          (getO l v4).bind fun v5 =>
          some (.inl (v5.Dist == 0)))
          (some (.inl false)))
        (fun (s132 : Bool) =>
          cond (s132)
            ((some (IntKind.i64.wrap (s78 + 1))).bind fun v11 =>
            some (.inl v11))
            (bindS (S := Bool) (A := (Int ⊕ ((Int × Bool × Int) ⊕ ((Bool) ⊕ Int))))
              ((ixO s80 l.length).bind fun v12 =>
              (getO l v12).bind fun v13 =>
              cond ((v13.Byte != 0))
                (some (.inl true))
                ((ixO s80 l.length).bind fun v14 =>
                (getO l v14).bind fun v15 =>
                (wherryref01_in v15.Len 3 258).bind fun v16 =>
                cond ((!v16))
                  (some (.inl true))
                  ((ixO s80 l.length).bind fun v17 =>
                  (getO l v17).bind fun v18 =>
                  (wherryref01_in v18.Dist 1 2048).bind fun v19 =>
                  cond ((!v19))
                    (some (.inl true))
                    ((ixO s80 l.length).bind fun v20 =>
                    (getO l v20).bind fun v21 =>
                    some (.inl ((decide (s78 < v21.Dist))))))))
              (fun (s137 : Bool) =>
                cond (s137)
                  (some (.inr (.inr (.inr (1)))))
                  ((ixO s80 l.length).bind fun v27 =>
                  (getO l v27).bind fun v28 =>
                  (some (IntKind.i64.wrap (s78 + v28.Len))).bind fun v29 =>
                  some (.inl v29))) some)) some)
      (fun (s128 : Int) =>
        bindS (S := Bool) (A := ((Int × Bool × Int) ⊕ ((Bool) ⊕ Int)))
          (cond (s79)
            (some (.inl true))
            (some (.inl ((decide (4096 < s128))))))
          (fun (s142 : Bool) =>
            (some (if 8192 < s128 then 8192 else s128)).bind fun v44 =>
            (some (IntKind.i64.wrap (s80 + 1))).bind fun v45 =>
            some (.inl (v44, s142, v45))) some) some)
    (some (.inr (.inl s79))))
def reS (l : List T_Tok) : (((List Int) × Int)) → Option (((List Int) × Int) ⊕ (((List Int)) ⊕ ((List Int) × Int))) := (fun ((s64, s65) : (List Int) × Int) =>
    cond ((decide (s65 < (l.length : Int))))
      (bindS (S := (List Int)) (A := (((List Int) × Int) ⊕ (((List Int)) ⊕ ((List Int) × Int))))
        ((ixO s65 l.length).bind fun v4 =>
        (getO l v4).bind fun v5 =>
        cond ((v5.Len == 0))
          ((ixO s65 l.length).bind fun v7 =>
          (getO l v7).bind fun v8 =>
          (appO 1 s64 [v8.Byte]).bind fun v9 =>
          some (.inl v9))
          (some (.inl s64)))
        (fun (s97 : (List Int)) =>
          bindS (S := ((List Int))) (A := (((List Int) × Int) ⊕ (((List Int)) ⊕ ((List Int) × Int))))
            (loopF (S := ((List Int) × Int)) (O := ((List Int)) ⊕ (((List Int) × Int) ⊕ (((List Int)) ⊕ ((List Int) × Int)))) (fun ((s106, s107) : (List Int) × Int) =>
              (ixO s65 l.length).bind fun v15 =>
              (getO l v15).bind fun v16 =>
              cond ((decide (s107 < v16.Len)))
                ((ixO s65 l.length).bind fun v18 =>
                (getO l v18).bind fun v19 =>
                (some (IntKind.i64.wrap ((s106.length : Int) - v19.Dist))).bind fun v20 =>
                (ixO v20 s106.length).bind fun v21 =>
                (getO s106 v21).bind fun v22 =>
                (appO 1 s106 [v22]).bind fun v23 =>
                (some (IntKind.i64.wrap (s107 + 1))).bind fun v24 =>
                some (.inl (v23, v24)))
                (some (.inr (.inl s106))))
              BIG (s97, 0))
            (fun (s109 : (List Int)) =>
              (some (IntKind.i64.wrap (s65 + 1))).bind fun v39 =>
              some (.inl (s109, v39))) some) some)
      (some (.inr (.inl s64))))
def riS (l : List T_Tok) (s65 : Int) : (((List Int) × Int)) → Option (((List Int) × Int) ⊕ (((List Int)) ⊕ (((List Int) × Int) ⊕ (((List Int)) ⊕ ((List Int) × Int))))) := (fun ((s106, s107) : (List Int) × Int) =>
              (ixO s65 l.length).bind fun v15 =>
              (getO l v15).bind fun v16 =>
              cond ((decide (s107 < v16.Len)))
                ((ixO s65 l.length).bind fun v18 =>
                (getO l v18).bind fun v19 =>
                (some (IntKind.i64.wrap ((s106.length : Int) - v19.Dist))).bind fun v20 =>
                (ixO v20 s106.length).bind fun v21 =>
                (getO s106 v21).bind fun v22 =>
                (appO 1 s106 [v22]).bind fun v23 =>
                (some (IntKind.i64.wrap (s107 + 1))).bind fun v24 =>
                some (.inl (v23, v24)))
                (some (.inr (.inl s106))))
def overS : (((List Int) × Int)) → Option (((List Int) × Int) ⊕ ((Unit) ⊕ Unit)) := (fun ((s11, s12) : (List Int) × Int) =>
  cond ((decide (s12 < (s11.length : Int))))
    ((ixO s12 s11.length).bind fun v2 =>
    (getO s11 v2).bind fun v3 =>
    (some (IntKind.u8.wrap (v3 + 91))).bind fun v4 =>
    (ixO s12 s11.length).bind fun v5 =>
    (some (s11.set v5 v4)).bind fun v6 =>
    (some (IntKind.i64.wrap (s12 + 1))).bind fun v7 =>
    some (.inl (v6, v7)))
    (some (.inr (.inl ()))))
theorem rk_step (l : List T_Tok) {i : Nat} {n : Nat} (hi : i < l.length) (hil : i < 1000000000) : rkS l (((min n 8192 : Nat) : Int), decide (4096 < n), (i : Int)) = some (if okT l[i] n = true then .inl (((min (n + tl l[i]) 8192 : Nat) : Int), decide (4096 < n + tl l[i]), ((i + 1 : Nat) : Int)) else .inr (.inr 1)) := by
  have hg := getO_of hi
  generalize l[i] = t at hg
  have hx := ixO_of hi
  have hw : IntKind.i64.wrap ((i : Int) + 1) = ((i + 1 : Nat) : Int) := wrap_succ (by omega)
  have fin : ∀ k : Nat, tl t = k → 1 ≤ k → k ≤ 258 → bindS (S := Bool) (A := ((Int × Bool × Int) ⊕ ((Bool) ⊕ Int)))
              (cond (decide (4096 < n))
                (some (.inl true))
                (some (.inl ((decide (4096 < ((min n 8192 : Nat) : Int) + (k : Int)))))))
              (fun (s142 : Bool) =>
                (some (if 8192 < ((min n 8192 : Nat) : Int) + (k : Int) then 8192 else ((min n 8192 : Nat) : Int) + (k : Int))).bind fun v44 =>
                (some (IntKind.i64.wrap ((i : Int) + 1))).bind fun v45 =>
                some (.inl (v44, s142, v45))) some = some (.inl (((min (n + k) 8192 : Nat) : Int), decide (4096 < n + k), ((i + 1 : Nat) : Int))) := by
    intro k _ h1 h2
    have hm : (if 8192 < ((min n 8192 : Nat) : Int) + (k : Int) then 8192 else ((min n 8192 : Nat) : Int) + (k : Int)) = ((min (n + k) 8192 : Nat) : Int) := by split <;> omega
    refine bndL (s := decide (4096 < n + k)) ?_ (bnd (congrArg some hm) (bnd (congrArg some hw) rfl))
    by_cases h4 : 4096 < n
    · exact cnd_t (decide_eq_true h4) (by rw [decide_eq_true (by omega : 4096 < n + k)])
    · refine cnd_f (decide_eq_false h4) (congrArg (fun x : Bool => some (Sum.inl x)) (decide_eq_decide.2 (by omega)))
  refine cnd_t (decide_eq_true (by omega)) ?_
  have bad : (bindS (S := Bool) (A := (Int ⊕ ((Int × Bool × Int) ⊕ ((Bool) ⊕ Int)))) (some (.inl true)) (fun (s137 : Bool) =>
                    cond (s137)
                      (some (.inr (.inr (.inr (1)))))
                      ((ixO (i : Int) l.length).bind fun v27 =>
                      (getO l v27).bind fun v28 =>
                      (some (IntKind.i64.wrap (((min n 8192 : Nat) : Int) + v28.Len))).bind fun v29 =>
                      some (.inl v29))) some) = some (.inr (.inr (.inr 1))) := rfl
  by_cases hl : t.Len = 0
  · by_cases hd : t.Dist = 0
    · have ho : okT t n = true := decide_eq_true (.inl ⟨hl, hd⟩)
      have ht : tl t = 1 := by unfold tl; rw [if_pos hl]
      rw [if_pos ho, ht]
      have hw1 : IntKind.i64.wrap (((min n 8192 : Nat) : Int) + 1) = ((min n 8192 : Nat) : Int) + ((1 : Nat) : Int) := by rw [wrap_i64 (by omega) (by omega)]; rfl
      exact bndL (s := ((min n 8192 : Nat) : Int) + ((1 : Nat) : Int)) (bndL (s := true) (bnd hx (bnd hg (cnd_t (beq_iff_eq.2 hl) (bnd hx (bnd hg (inl_ofB (beq_iff_eq.2 hd))))))) (cnd_t rfl (bnd (congrArg some hw1) rfl))) (fin 1 ht (by omega) (by omega))
    · have ho : okT t n = false := decide_eq_false (by rintro (h | h); exact hd h.2; omega)
      rw [if_neg (by rw [ho]; decide)]
      refine bndR (bndL (s := false) (bnd hx (bnd hg (cnd_t (beq_iff_eq.2 hl) (bnd hx (bnd hg (inl_ofB (beq_eq_false_iff_ne.2 hd))))))) (cnd_f rfl (bndL (s := true) ?_ rfl))) rfl
      refine bnd hx (bnd hg ?_)
      by_cases hb : t.Byte = 0
      · refine cnd_f (by rw [hb]; rfl) (bnd hx (bnd hg (bnd (rin_eq _ _ _) (cnd_t ?_ rfl))))
        rw [hl]; rfl
      · exact cnd_t (bne_iff_ne.2 hb) rfl
  have first : ∀ X : Option (Int ⊕ ((Int × Bool × Int) ⊕ ((Bool) ⊕ Int))), True := fun _ => trivial
  by_cases hb : t.Byte = 0
  case neg =>
    have ho : okT t n = false := decide_eq_false (by rintro (h | h); exact hl h.1; exact hb h.1.1)
    rw [if_neg (by rw [ho]; decide)]
    exact bndR (bndL (s := false) (bnd hx (bnd hg (cnd_f (beq_eq_false_iff_ne.2 hl) rfl))) (cnd_f rfl (bndL (s := true) (bnd hx (bnd hg (cnd_t (bne_iff_ne.2 hb) rfl))) rfl))) rfl
  by_cases hc : 3 ≤ t.Len ∧ t.Len ≤ 258
  case neg =>
    have ho : okT t n = false := decide_eq_false (by rintro (h | h); exact hl h.1; exact hc ⟨h.1.2.1, h.1.2.2.1⟩)
    rw [if_neg (by rw [ho]; decide)]
    refine bndR (bndL (s := false) (bnd hx (bnd hg (cnd_f (beq_eq_false_iff_ne.2 hl) rfl))) (cnd_f rfl (bndL (s := true) (bnd hx (bnd hg (cnd_f (by rw [hb]; rfl) (bnd hx (bnd hg (bnd (rin_eq _ _ _) (cnd_t ?_ rfl))))))) rfl))) rfl
    rw [Bool.not_eq_true', ← Bool.decide_and]
    exact decide_eq_false hc
  have hc2 : (!(decide (3 ≤ t.Len) && decide (t.Len ≤ 258))) = false := by rw [decide_eq_true hc.1, decide_eq_true hc.2]; rfl
  by_cases he : 1 ≤ t.Dist ∧ t.Dist ≤ 2048
  case neg =>
    have ho : okT t n = false := decide_eq_false (by rintro (h | h); exact hl h.1; exact he ⟨h.1.2.2.2.1, h.1.2.2.2.2⟩)
    rw [if_neg (by rw [ho]; decide)]
    refine bndR (bndL (s := false) (bnd hx (bnd hg (cnd_f (beq_eq_false_iff_ne.2 hl) rfl))) (cnd_f rfl (bndL (s := true) (bnd hx (bnd hg (cnd_f (by rw [hb]; rfl) (bnd hx (bnd hg (bnd (rin_eq _ _ _) (cnd_f hc2 (bnd hx (bnd hg (bnd (rin_eq _ _ _) (cnd_t ?_ rfl))))))))))) rfl))) rfl
    rw [Bool.not_eq_true', ← Bool.decide_and]
    exact decide_eq_false he
  have he2 : (!(decide (1 ≤ t.Dist) && decide (t.Dist ≤ 2048))) = false := by rw [decide_eq_true he.1, decide_eq_true he.2]; rfl
  by_cases hn : t.Dist ≤ (n : Int)
  case neg =>
    have ho : okT t n = false := decide_eq_false (by rintro (h | h); exact hl h.1; exact hn h.2)
    rw [if_neg (by rw [ho]; decide)]
    refine bndR (bndL (s := false) (bnd hx (bnd hg (cnd_f (beq_eq_false_iff_ne.2 hl) rfl))) (cnd_f rfl (bndL (s := true) ?_ rfl))) rfl
    refine bnd hx (bnd hg (cnd_f (by rw [hb]; rfl) (bnd hx (bnd hg (bnd (rin_eq _ _ _) (cnd_f hc2 (bnd hx (bnd hg (bnd (rin_eq _ _ _) (cnd_f he2 (bnd hx (bnd hg (inl_ofB ?_)))))))))))))
    exact decide_eq_true (by omega)
  have ho : okT t n = true := decide_eq_true (.inr ⟨⟨hb, hc.1, hc.2, he.1, he.2⟩, hn⟩)
  have ht : tl t = t.Len.toNat := by unfold tl; rw [if_neg hl]
  rw [if_pos ho, ht]
  have hw1 : IntKind.i64.wrap (((min n 8192 : Nat) : Int) + t.Len) = ((min n 8192 : Nat) : Int) + ((t.Len.toNat : Nat) : Int) := by rw [wrap_i64 (by omega) (by omega)]; omega
  refine bndL (s := ((min n 8192 : Nat) : Int) + ((t.Len.toNat : Nat) : Int)) ?_ (fin t.Len.toNat ht (by omega) (by omega))
  refine bndL (s := false) (bnd hx (bnd hg (cnd_f (beq_eq_false_iff_ne.2 hl) rfl))) (cnd_f rfl ?_)
  refine bndL (s := false) ?_ (cnd_f rfl (bnd hx (bnd hg (bnd (congrArg some hw1) rfl))))
  refine bnd hx (bnd hg (cnd_f (by rw [hb]; rfl) (bnd hx (bnd hg (bnd (rin_eq _ _ _) (cnd_f hc2 (bnd hx (bnd hg (bnd (rin_eq _ _ _) (cnd_f he2 (bnd hx (bnd hg (inl_ofB ?_)))))))))))))
  exact decide_eq_false (by omega)
theorem rk_loop (l : List T_Tok) (hl : l.length ≤ 1000000) : ∀ (k i fuel n : Nat), i + k = l.length → k < fuel → loopF (rkS l) fuel (((min n 8192 : Nat) : Int), decide (4096 < n), (i : Int)) = some (match chkF (l.drop i) n with | some m => .inl (decide (4096 < m)) | none => .inr 1)
  | 0, i, fuel, n, hk, hf => by
    obtain ⟨fu, rfl⟩ : ∃ fu, fuel = fu + 1 := ⟨fuel - 1, by omega⟩
    rw [List.drop_of_length_le (by omega)]
    exact loop_exit (cnd_f (decide_eq_false (by omega)) rfl)
  | k + 1, i, fuel, n, hk, hf => by
    obtain ⟨fu, rfl⟩ : ∃ fu, fuel = fu + 1 := ⟨fuel - 1, by omega⟩
    have hi : i < l.length := by omega
    have hs := rk_step (n := n) l hi (by omega)
    rw [List.drop_eq_getElem_cons hi]
    simp only [chkF]
    by_cases ho : okT l[i] n = true
    · rw [if_pos ho] at hs ⊢
      exact (loop_next hs).trans (rk_loop l hl k (i + 1) fu (n + tl l[i]) (by omega) (by omega))
    · rw [if_neg ho] at hs ⊢
      exact loop_exit hs
theorem rcheck_eq {l : List T_Tok} (hl : l.length ≤ 1000000) : wherryref01_CheckToks l = some (ckE l) := by
  have h := rk_loop l hl l.length 0 BIG 0 (by omega) (by simp only [BIG]; omega)
  rw [List.drop_zero] at h
  unfold wherryref01_CheckToks ckE
  cases hc : chkF l 0 with
  | none =>
    rw [hc] at h
    exact bndR h rfl
  | some n =>
    rw [hc] at h
    refine bndL h ?_
    by_cases h4 : 4096 < n
    · simp only [if_pos h4]; exact cnd_t (decide_eq_true (by omega)) rfl
    · simp only [if_neg h4]; exact cnd_f (decide_eq_false (by omega)) rfl
theorem ri_loop {l : List T_Tok} {i : Nat} {t : T_Tok} (hi : i < l.length) (hg : getO l i = some t) (hd : 1 ≤ t.Dist) (hL2 : t.Len ≤ 100000000) : ∀ (k j fuel : Nat) (s : List Int), t.Len = ((j + k : Nat) : Int) → k < fuel → t.Dist ≤ (s.length : Int) → s.length + k ≤ 100000000 →
    loopF (riS l (i : Int)) fuel (s, (j : Int)) = some (.inl (cpy t.Dist.toNat s k))
  | 0, j, fuel, s, hL, hf, hs, hb => by
    obtain ⟨fu, rfl⟩ : ∃ fu, fuel = fu + 1 := ⟨fuel - 1, by omega⟩
    exact loop_exit (bnd (ixO_of hi) (bnd hg (cnd_f (decide_eq_false (by omega)) rfl)))
  | k + 1, j, fuel, s, hL, hf, hs, hb => by
    obtain ⟨fu, rfl⟩ : ∃ fu, fuel = fu + 1 := ⟨fuel - 1, by omega⟩
    have hlt : s.length - t.Dist.toNat < s.length := by omega
    have hw : IntKind.i64.wrap ((s.length : Int) - t.Dist) = ((s.length - t.Dist.toNat : Nat) : Int) := by rw [wrap_i64 (by omega) (by omega)]; omega
    have hg2 : getO s (s.length - t.Dist.toNat) = some (s.getD (s.length - t.Dist.toNat) 0) := by
      rw [List.getD_eq_getElem?_getD, List.getElem?_eq_getElem hlt, Option.getD_some]; exact getO_of hlt
    unfold cpy
    exact (loop_next (bnd (ixO_of hi) (bnd hg (cnd_t (decide_eq_true (by omega)) (bnd (ixO_of hi) (bnd hg (bnd (congrArg some hw) (bnd (ixO_of hlt) (bnd hg2 (bnd (app_of (by simp only [List.length_cons, List.length_nil]; omega) (by simp only [List.length_cons, List.length_nil]; omega)) (bnd (congrArg some (wrap_succ (n := j) (by omega))) rfl))))))))))).trans (ri_loop hi hg hd hL2 k (j + 1) fu _ (by omega) (by omega) (by simp; omega) (by simp; omega))
theorem re_loop (l : List T_Tok) (hl : l.length ≤ 1000000) : ∀ (k i fuel m : Nat) (s : List Int), i + k = l.length → k < fuel → chkF (l.drop i) s.length = some m → m ≤ 4096 → loopF (reS l) fuel (s, (i : Int)) = some (.inl (exF (l.drop i) s))
  | 0, i, fuel, m, s, hk, hf, hc, hm => by
    obtain ⟨fu, rfl⟩ : ∃ fu, fuel = fu + 1 := ⟨fuel - 1, by omega⟩
    rw [List.drop_of_length_le (by omega)]
    exact loop_exit (cnd_f (decide_eq_false (by omega)) rfl)
  | k + 1, i, fuel, m, s, hk, hf, hc, hm => by
    obtain ⟨fu, rfl⟩ : ∃ fu, fuel = fu + 1 := ⟨fuel - 1, by omega⟩
    have hi : i < l.length := by omega
    have hg := getO_of hi
    rw [List.drop_eq_getElem_cons hi] at hc ⊢
    generalize l[i] = t at hg hc
    simp only [chkF] at hc
    split at hc
    case isFalse => cases hc
    rename_i ho
    have hle := chkF_le _ _ _ hc
    have htl := tl_le ho
    have hel := exT_len (b := s) ho
    have ho2 := ho
    unfold okT at ho2
    rw [decide_eq_true_eq] at ho2
    rw [← hel] at hc
    have hn := re_loop l hl k (i + 1) fu m (exT s t) (by omega) (by omega) hc hm
    have hwi : IntKind.i64.wrap ((i : Int) + 1) = ((i + 1 : Nat) : Int) := wrap_succ (by omega)
    refine (loop_next (cnd_t (decide_eq_true (by omega)) ?_)).trans hn
    by_cases hz : t.Len = 0
    · have he : exT s t = s ++ [t.Byte] := by unfold exT; rw [if_pos hz]
      rw [he]
      have hlp : loopF (riS l (i : Int)) BIG (s ++ [t.Byte], 0) = some (.inl (s ++ [t.Byte])) := loop_exit (bnd (ixO_of hi) (bnd hg (cnd_f (decide_eq_false (by omega)) rfl)))
      exact bndL (s := s ++ [t.Byte]) (bnd (ixO_of hi) (bnd hg (cnd_t (beq_iff_eq.2 hz) (bnd (ixO_of hi) (bnd hg (bnd (app_of (by simp only [List.length_cons, List.length_nil]; omega) (by simp only [List.length_cons, List.length_nil]; omega)) rfl)))))) (bndL hlp (bnd (congrArg some hwi) rfl))
    · have he : exT s t = cpy t.Dist.toNat s t.Len.toNat := by unfold exT; rw [if_neg hz]
      rw [he]
      have htl2 : tl t = t.Len.toNat := by unfold tl; rw [if_neg hz]
      have hlp := ri_loop hi hg (by omega) (by omega) t.Len.toNat 0 BIG s (by omega) (by simp only [BIG]; omega) (by omega) (by omega)
      exact bndL (s := s) (bnd (ixO_of hi) (bnd hg (cnd_f (beq_eq_false_iff_ne.2 hz) rfl))) (bndL hlp (bnd (congrArg some hwi) rfl))
theorem rexpand_eq {l : List T_Tok} (hl : l.length ≤ 1000000) : wherryref01_Expand l = some (exE l) := by
  have hck := rcheck_eq hl
  unfold wherryref01_Expand exE
  unfold ckE at hck
  cases hc : chkF l 0 with
  | none =>
    rw [hc] at hck
    exact bnd hck (cnd_t rfl rfl)
  | some n =>
    rw [hc] at hck
    by_cases h4 : 4096 < n
    · simp only [if_pos h4] at hck ⊢
      exact bnd hck (cnd_t rfl rfl)
    · simp only [if_neg h4] at hck ⊢
      have hlp := re_loop l hl l.length 0 BIG n [] (by omega) (by simp only [BIG]; omega) (by rw [List.drop_zero]; exact hc) (by omega)
      rw [List.drop_zero] at hlp
      exact bnd hck (cnd_f rfl (bndL hlp rfl))
theorem over_eqb (l : List Int) (hl : l.length ≤ 1000000) : wherrykeep_Over l = some () := by
  have key : ∀ (k fuel i : Nat) (s : List Int), s.length - i = k → i ≤ s.length → k < fuel → s.length ≤ 1000000 → loopF overS fuel (s, (i : Int)) = some (.inl ()) := by
    intro k
    induction k with
    | zero =>
      intro fuel i s hk hi hf hs
      obtain ⟨f, rfl⟩ : ∃ f, fuel = f + 1 := ⟨fuel - 1, by omega⟩
      refine loop_exit ?_
      unfold overS; exact cnd_f (by simp; omega) rfl
    | succ k ih =>
      intro fuel i s hk hi hf hs
      obtain ⟨f, rfl⟩ : ∃ f, fuel = f + 1 := ⟨fuel - 1, by omega⟩
      have hlt : i < s.length := by omega
      have hw : IntKind.i64.wrap ((i : Int) + 1) = ((i + 1 : Nat) : Int) := by rw [wrap_i64 (by omega) (by omega)]; simp
      refine (loop_next (s' := (s.set i (IntKind.u8.wrap (s[i] + 91)), ((i + 1 : Nat) : Int))) ?_).trans (ih f (i + 1) _ (by rw [List.length_set]; omega) (by rw [List.length_set]; omega) (by omega) (by rw [List.length_set]; omega))
      unfold overS
      exact cnd_t (by simp; omega) (bnd (ixO_of hlt) (bnd (getO_of hlt) (bnd rfl (bnd (ixO_of hlt) (bnd rfl (bnd (x := ((i + 1 : Nat) : Int)) (by rw [hw]) rfl))))))
  unfold wherrykeep_Over
  exact bndL (key l.length BIG 0 l (by omega) (Nat.zero_le _) (by unfold BIG; omega) hl) rfl
theorem exF_len : ∀ (l : List T_Tok) (s : List Int) (m : Nat), chkF l s.length = some m → (exF l s).length = m
  | [], s, m, h => by simp only [chkF, Option.some.injEq] at h; exact h
  | t :: l, s, m, h => by
    simp only [chkF] at h
    split at h
    case isFalse => cases h
    rename_i ho
    rw [← exT_len ho] at h
    exact exF_len l _ m h
theorem exE_len (l : List T_Tok) : (exE l).1.length ≤ 4096 := by
  unfold exE
  cases hc : chkF l 0 with
  | none => exact Nat.zero_le _
  | some n =>
    by_cases h4 : 4096 < n
    · simp only [if_pos h4]; exact Nat.zero_le _
    · simp only [if_neg h4]; rw [exF_len l [] n hc]; omega
theorem matchExact_true (b : List Int) (at_ : Int) (l : List T_Tok) (hb : wfL (wfI .u8) b) : wherrylaw04_MatchExact b at_ l = some true := by
  unfold wherrylaw04_MatchExact
  by_cases l1 : 1200 < b.length
  · exact bndL (s := true) (cnd_t (decide_eq_true (by omega)) rfl) rfl
  by_cases l2 : 600 < l.length
  · exact bndL (s := true) (cnd_f (decide_eq_false (by omega)) (inl_ofB (decide_eq_true (by omega)))) rfl
  have hby := bys hb
  have htw : wherrykeep_Twin b = some b := by
    unfold wherrykeep_Twin
    exact bnd (app_of (by simp only [List.length_nil]; omega) (by rw [List.length_nil]; omega)) rfl
  have htt : wherrykeep_TwinToks l = some l := by
    unfold wherrykeep_TwinToks
    exact bnd (app_of (by simp only [List.length_nil]; omega) (by rw [List.length_nil]; omega)) rfl
  have hto := tokens_eq hby (by omega)
  have hrt := ref_tokens (b := b) (by omega)
  have hbe := best_top hby (by omega) at_
  have hrb := ref_best (b := b) (by omega) at_
  have hex := expand_eq (l := l) (by omega)
  have hre := rexpand_eq (l := l) (by omega)
  have hck := check_eq (l := l) (by omega)
  have hrk := rcheck_eq (l := l) (by omega)
  have htl := toksS_len b
  have hel := exE_len l
  refine bndL (s := false) (cnd_f (decide_eq_false (by omega)) (inl_ofB (decide_eq_false (by omega)))) (cnd_f rfl (bnd htw (bnd htt (bnd hto (bnd hrt (bnd hbe (bnd hrb (bnd hex (bnd hre (bndL (s := false) ?_ (cnd_f rfl (bnd (over_eqb _ (by omega)) (bndL (s := true) (bnd (keepB (by omega)) (cnd_t rfl (bnd (keepT l (by omega)) (cnd_t rfl (bnd wakes04 rfl))))) rfl)))))))))))))
  exact cnd_f (bne_self_eq_false _) (bnd (keepT (toksS b) (by omega)) (cnd_f rfl (cnd_f (bne_self_eq_false _) (cnd_f (bne_self_eq_false _) (cnd_f (bne_self_eq_false _) (bnd (keepB (by omega)) (cnd_f rfl (bnd hck (bnd hrk (inl_ofB (bne_self_eq_false _)))))))))))
end Go.Abs.Sh
