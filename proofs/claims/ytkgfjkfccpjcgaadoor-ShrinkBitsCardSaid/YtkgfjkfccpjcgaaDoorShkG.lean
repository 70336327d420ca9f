import Derived.Test.YtkgfjkfccpjcgaaDoorShkC
import Derived.Test.YtkgfjkfccpjcgaaDoorShkH
import Derived.Test.YtkgfjkfccpjcgaaDoorSymS
import Derived.Test.YtkgfjkfccpjcgaaDoorTrxC
import Derived.KernelRfl
namespace Go.Abs.Sh
set_option linter.unusedVariables false
set_option linter.unusedSimpArgs false
set_option maxRecDepth 1000000
def sbS (l : List T_Tok) : ((Int × Int)) → Option ((Int × Int) ⊕ ((Int) ⊕ Bool)) := (fun ((s48,s49) : Int × Int) =>
        cond ((decide (s49 < (l.length : Int))))
         (bindS (S := Int) (A := ((Int × Int) ⊕ ((Int) ⊕ Bool)))
          ((ixO s49 l.length).bind fun v22 =>
          (getO l v22).bind fun v23 =>
          cond ((decide (0 < v23.Len)))
           ((ixO s49 l.length).bind fun v25 =>
           (getO l v25).bind fun v26 =>
           (wherryref01_Len v26.Len).bind fun v27 =>
           (ixO s49 l.length).bind fun v28 =>
           (getO l v28).bind fun v29 =>
           (wherryref01_Dist v29.Dist).bind fun v30 =>
           (some (IntKind.i64.wrap (s48 + v27.2.1))).bind fun v31 =>
           (some (IntKind.i64.wrap (v31 + v30.2.1))).bind fun v32 =>
           some (.inl v32))
           (some (.inl s48)))
          (fun (s66 : Int) =>
           (some (IntKind.i64.wrap (s49 + 1))).bind fun v38 =>
           some (.inl (s66,v38))) some)
         (some (.inr (.inl s48))))
def mA : List Nat := mL.take 286
def dA : List Nat := mD.take 30
theorem mA_at {j : Nat} (h : j < 286) : mA.getD j 0 = mL.getD j 0 := by
 simp only [mA,List.getD_eq_getElem?_getD,List.getElem?_take,if_pos h]
theorem dA_at {j : Nat} (h : j < 30) : dA.getD j 0 = mD.getD j 0 := by
 simp only [dA,List.getD_eq_getElem?_getD,List.getElem?_take,if_pos h]
theorem costN_inc {a : List Nat} {s : Nat} (hs : s < a.length) (l : List Int) : ∀ n,costN (ints (inc a s)) l n = costN (ints a) l n + if s < n then l.getD s 0 else 0
 | 0 => by simp [costN]
 | n + 1 => by
  rw [costN,costN,costN_inc hs l n,ints_D,ints_D,inc_at hs]
  by_cases h : n = s
  ·subst h
   rw [if_pos rfl,if_neg (Nat.lt_irrefl n),if_pos (Nat.lt_succ_self n),Int.natCast_add,Int.add_mul]
   simp
   omega
  ·rw [if_neg h]
   by_cases h2 : s < n
   ·rw [if_pos h2,if_pos (by omega)]; omega
   ·rw [if_neg h2,if_neg (by omega)]; omega
def exK (t : T_Tok) : Nat := if t.Len = 0 then 0 else (lnN t.Len.toNat).2.1 + (dsN t.Dist.toNat).2.1
def exS (l : List T_Tok) : Nat := (l.map exK).sum
def cst (x : List Nat × List Nat) : Int := costN (ints x.1) (ints mA) 286 + costN (ints x.2) (ints dA) 30
theorem cst_step {x : List Nat × List Nat} {c : Nat} (h : WtI x c) {t : T_Tok} (ht : okTk t) : cst (wtA x t) + (exK t : Int) = cst x + ((wid (tkP mL mD t) : Nat) : Int) := by
 unfold cst wtA exK tkP
 by_cases h0 : t.Len = 0
 ·simp only [if_pos h0]
  have hb := ht.1
  rw [costN_inc (by rw [h.la]; omega),if_pos (by omega),ints_D,mA_at (by omega)]
  simp only [wid,syP,List.map_cons,List.map_nil,List.sum_cons,List.sum_nil]
  omega
 ·simp only [if_neg h0]
  rcases ht.2 with h1 | ⟨h1,h2,h3,h4⟩
  ·exact absurd h1 h0
  obtain ⟨l1,l2,l3,l4,l5⟩ := ln_ok (n := t.Len.toNat) (by omega) (by omega)
  obtain ⟨d1,d2,d3,d4⟩ := ds_ok (n := t.Dist.toNat) (by omega) (by omega)
  rw [costN_inc (by rw [h.la]; omega),if_pos (by omega),ints_D,mA_at (by omega),costN_inc (by rw [h.ld]; omega),if_pos (by omega),ints_D,dA_at (by omega)]
  simp only [wid,syP,List.map_cons,List.map_nil,List.sum_cons,List.sum_nil]
  omega
theorem cst_fold : ∀ (l : List T_Tok) (x : List Nat × List Nat) (c : Nat),WtI x c → (∀ t ∈ l,okTk t) → cst (l.foldl wtA x) + (exS l : Int) = cst x + ((wid (tksP mL mD l) : Nat) : Int)
 | [],x,c,h,ho => by simp [exS,tksP,wid]
 | t :: l,x,c,h,ho => by
  have h1 := cst_step h (ho t List.mem_cons_self)
  have h2 := cst_fold l (wtA x t) (c + 1) (wtI_step h t) (fun y hy => ho y (List.mem_cons_of_mem _ hy))
  have e : tksP mL mD (t :: l) = tkP mL mD t ++ tksP mL mD l := rfl
  have e2 : exS (t :: l) = exK t + exS l := by simp [exS]
  rw [e,wid_app,e2,List.foldl_cons]
  omega
theorem cst0 : cst wts0 = 7 := by kernel_rfl
theorem exK_le {t : T_Tok} (ht : okTk t) : exK t ≤ 18 := by
 unfold exK
 by_cases h0 : t.Len = 0
 ·rw [if_pos h0]; omega
 ·rw [if_neg h0]
  rcases ht.2 with h1 | ⟨h1,h2,h3,h4⟩
  ·exact absurd h1 h0
  obtain ⟨l1,l2,l3,l4,l5⟩ := ln_ok (n := t.Len.toNat) (by omega) (by omega)
  obtain ⟨d1,d2,d3,d4⟩ := ds_ok (n := t.Dist.toNat) (by omega) (by omega)
  omega
theorem rlen_eq {n : Int} {r : Int × Int × Int × Int} (h : sym_Len n = some r) : wherryref01_Len n = some r := by
 obtain ⟨x,h1,h2,_⟩ := len_same n
 rw [h1] at h; cases h; exact h2
theorem rdist_eq {n : Int} {r : Int × Int × Int × Int} (h : sym_Dist n = some r) : wherryref01_Dist n = some r := by
 obtain ⟨x,h1,h2,_⟩ := dist_same n
 rw [h1] at h; cases h; exact h2
theorem inlI {A : Type} {a b : Int} (h : a = b) : (some (.inl a) : Option (Int ⊕ A)) = some (.inl b) := by rw [h]
theorem sb_loop {l : List T_Tok} (hl : l.length ≤ 5000) (ht : ∀ t ∈ l,okTk t) : ∀ (k i fuel v : Nat),i + k = l.length → k < fuel → v + 18 * k ≤ 1000000000 → loopF (sbS l) fuel ((v : Int),(i : Int)) = some (.inl ((v + exS (l.drop i) : Nat) : Int))
 | 0,i,fuel,v,hk,hf,hv => by
  obtain ⟨fu,rfl⟩ : ∃ fu,fuel = fu + 1 := ⟨fuel - 1,by omega⟩
  rw [List.drop_eq_nil_of_le (by omega)]
  exact loop_exit (cnd_f (decide_eq_false (by omega)) rfl)
 | k + 1,i,fuel,v,hk,hf,hv => by
  obtain ⟨fu,rfl⟩ : ∃ fu,fuel = fu + 1 := ⟨fuel - 1,by omega⟩
  have hi : i < l.length := by omega
  have hti := ht _ (List.getElem_mem hi)
  have hg := getO_of hi
  have hex := exK_le hti
  have ih := sb_loop hl ht k (i + 1) fu (v + exK l[i]) (by omega) (by omega) (by omega)
  have e : v + exS (l.drop i) = v + exK l[i] + exS (l.drop (i + 1)) := by
   rw [List.drop_eq_getElem_cons hi]
   simp only [exS,List.map_cons,List.sum_cons]
   omega
  rw [e,← ih]
  refine loop_next (cnd_t (decide_eq_true (by omega)) (bndL (s := ((v + exK l[i] : Nat) : Int)) ?_ (bnd (congrArg some (wrap_succ (n := i) (by omega))) rfl)))
  unfold exK
  by_cases h0 : l[i].Len = 0
  ·rw [if_pos h0]
   exact bnd (ixO_of hi) (bnd hg (cnd_f (decide_eq_false (by omega)) rfl))
  ·rw [if_neg h0]
   rcases hti.2 with h1 | ⟨h1,h2,h3,h4⟩
   ·exact absurd h1 h0
   obtain ⟨l1,l2,l3,l4,l5⟩ := ln_ok (n := l[i].Len.toNat) (by omega) (by omega)
   obtain ⟨d1,d2,d3,d4⟩ := ds_ok (n := l[i].Dist.toNat) (by omega) (by omega)
   rw [show ((l[i].Len.toNat : Nat) : Int) = l[i].Len by omega] at l1
   rw [show ((l[i].Dist.toNat : Nat) : Int) = l[i].Dist by omega] at d1
   exact bnd (ixO_of hi) (bnd hg (cnd_t (decide_eq_true (by omega)) (bnd (ixO_of hi) (bnd hg (bnd (rlen_eq l1) (bnd (ixO_of hi) (bnd hg (bnd (rdist_eq d1) (bnd (congrArg some (wrA' v _ (by omega))) (bnd (congrArg some (wrA' (v + (lnN l[i].Len.toNat).2.1) _ (by omega))) (inlI (by rw [Nat.add_assoc]))))))))))))
theorem okC_ints {m : List Nat} (h : ∀ x ∈ m,x ≤ 15) : okC (ints m) := fun i hi => by
 rw [ints_len] at hi
 rw [ints_D,List.getD_eq_getElem?_getD,List.getElem?_eq_getElem hi,Option.getD_some]
 have := h _ (List.getElem_mem hi)
 omega
theorem okW_ints {w : List Nat} (hl : w.length ≤ 300) (hb : ∀ x ∈ w,x ≤ 1000000) : okW (ints w) := ⟨by rw [ints_len]; exact hl,fun i hi => by
 rw [ints_len] at hi
 rw [ints_D,List.getD_eq_getElem?_getD,List.getElem?_eq_getElem hi,Option.getD_some]
 have := hb _ (List.getElem_mem hi)
 omega⟩
theorem mA_ok : ∀ x ∈ mA,x ≤ 15 := fun x hx => cd_mL.le x (List.mem_of_mem_take hx)
theorem dA_ok : ∀ x ∈ dA,x ≤ 15 := fun x hx => cd_mD.le x (List.mem_of_mem_take hx)
theorem mA_sli : sliO fixL 0 286 = some (ints mA) := by kernel_rfl
theorem dA_sli : sliO (List.replicate 32 (5 : Int)) 0 30 = some (ints dA) := by kernel_rfl
theorem shrinkBits_true (b : List Int) (hw : wfL (wfI .u8) b) : wherrylaw06_ShrinkBits b = some true := by
 have hb := bys hw
 unfold wherrylaw06_ShrinkBits
 by_cases h12 : 1200 < b.length
 ·exact cnd_t (decide_eq_true (by omega)) rfl
 have hlt := toksS_len b
 have hok := toksS_ok hb
 have hwe := weights_eq (by omega) hok (check_toks (b := b) (by omega))
 have hrw : wherryref01_Weights (toksS b) = some (ints (wtN (toksS b)).1,ints (wtN (toksS b)).2,0) := by
  obtain ⟨r,r1,r2,_⟩ := weights_same (toksS b) (by omega) (fun t ht => (hok t ht).1)
  rw [hwe] at r1; cases r1; exact r2
 obtain ⟨f,f1,_,f3⟩ := fixed_is hb (by omega)
 have hI := wts_I (toksS b)
 have hcst := cst_fold (toksS b) wts0 1 wtI0 hok
 rw [cst0] at hcst
 have hwt := wid_tks cd_mL.le cd_mD.le hok
 have mAl : mA.length = 286 := by kernel_rfl
 have dAl : dA.length = 30 := by kernel_rfl
 have k1 := cost_ok (w := ints (wtN (toksS b)).1) (l := ints mA) (by rw [ints_len,ints_len,hI.la,mAl]) (okW_ints (by rw [hI.la]; omega) (fun x hx => by have := hI.ba x hx; omega)) (okC_ints mA_ok)
 have k2 := cost_ok (w := ints (wtN (toksS b)).2) (l := ints dA) (by rw [ints_len,ints_len,hI.ld,dAl]) (okW_ints (by rw [hI.ld]; omega) (fun x hx => by have := hI.bd x hx; omega)) (okC_ints dA_ok)
 have n1 := costN_bound (okW_ints (w := (wtN (toksS b)).1) (by rw [hI.la]; omega) (fun x hx => by have := hI.ba x hx; omega)) (okC_ints mA_ok) (by rw [ints_len,ints_len,hI.la,mAl]) 286 (by rw [ints_len,hI.la]; exact Nat.le_refl _)
 have n2 := costN_bound (okW_ints (w := (wtN (toksS b)).2) (by rw [hI.ld]; omega) (fun x hx => by have := hI.bd x hx; omega)) (okC_ints dA_ok) (by rw [ints_len,ints_len,hI.ld,dAl]) 30 (by rw [ints_len,hI.ld]; exact Nat.le_refl _)
 rw [ints_len,hI.la] at k1
 rw [ints_len,hI.ld] at k2
 have hcd : cst (wtN (toksS b)) = costN (ints (wtN (toksS b)).1) (ints mA) 286 + costN (ints (wtN (toksS b)).2) (ints dA) 30 := rfl
 rw [show List.foldl wtA wts0 (toksS b) = wtN (toksS b) from rfl,hcd] at hcst
 obtain ⟨c1,hc1⟩ : ∃ c1 : Nat,costN (ints (wtN (toksS b)).1) (ints mA) 286 = (c1 : Int) := ⟨_,(Int.toNat_of_nonneg n1.1).symm⟩
 obtain ⟨c2,hc2⟩ : ∃ c2 : Nat,costN (ints (wtN (toksS b)).2) (ints dA) 30 = (c2 : Int) := ⟨_,(Int.toNat_of_nonneg n2.1).symm⟩
 rw [hc1] at k1 hcst
 rw [hc2] at k2 hcst
 have hlp := sb_loop (l := toksS b) (by omega) hok (toksS b).length 0 BIG (3 + c1 + c2) (by omega) (by simp only [BIG]; omega) (by omega)
 rw [List.drop_zero] at hlp
 have hwf : wid (fxP (toksS b)) = 3 + c1 + c2 + exS (toksS b) := by
  have e256 : wid [syP mL 256] = 7 := by kernel_rfl
  unfold fxP
  rw [wid_app,wid_app,e256,show wid [(1,1),(1,2)] = 3 from rfl]
  omega
 have hfl := f3.good.len
 refine cnd_f (decide_eq_false (by omega)) (bnd (ref_tokens (by omega)) (bnd hrw (bnd rfixed_eq (bndL (s := false) (cnd_f rfl rfl) (cnd_f rfl ?_)))))
 refine bnd mA_sli (bnd k1 (bnd dA_sli (bnd k2 (bndL (s := false) (cnd_f rfl rfl) (cnd_f rfl ?_)))))
 refine bnd (congrArg some (wrA' 3 c1 (by omega))) (bnd (congrArg some (wrA' (3 + c1) c2 (by omega))) (bndL hlp (bnd f1 (bndL (s := true) ?_ rfl))))
 refine cnd_t rfl (bnd (congrArg some (wrA' _ 7 (by omega))) (bnd (quo_nat _ 8 (by omega) (by omega)) (cnd_t (beq_iff_eq.2 ?_) (bnd wakes6 rfl))))
 show (f.b.length : Int) = _
 rw [hfl,hwf]
end Go.Abs.Sh
