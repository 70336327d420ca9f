import Derived.Test.YtofbofdggabfiaaDoorPatC
import Derived.Test.YtofbofdggabfiaaDoorPatG
import Derived.Test.YtofbofdggabfiaaDoorLineM
import Derived.Test.YtofbofdggabfiaaDoorKeepM
import Derived.KernelRfl
namespace Go.Abs.Sh
set_option linter.unusedVariables false
set_option linter.unusedSimpArgs false
set_option maxRecDepth 10000
def lowB (c : Int) : Int := if 65 ≤ c ∧ c ≤ 90 then c + 32 else c
def lowL (l : List Int) : List Int := l.map lowB
def lowS (s : ByteArray) : ByteArray := bstr (lowL (sbytes s))
theorem set_mid {A : Type} (f : A → A) (l : List A) (i : Nat) (h : i < l.length) : ((l.take i).map f ++ l.drop i).set i (f l[i]) = (l.take (i + 1)).map f ++ l.drop (i + 1) := by
 rw [List.set_append_right _ _ (by simp; omega)]
 have hl : ((l.take i).map f).length = i := by simp; omega
 rw [hl,Nat.sub_self,List.drop_eq_getElem_cons h,List.set_cons_zero,List.take_add_one,List.getElem?_eq_getElem h]
 simp only [Option.toList_some,List.map_append,List.map_cons,List.map_nil,List.append_assoc,List.cons_append,List.nil_append]
theorem get_mid {A : Type} (f : A → A) (l : List A) (i : Nat) (h : i < l.length) : getO ((l.take i).map f ++ l.drop i) i = some l[i] := by
 unfold getO
 rw [List.getElem?_append_right (by simp; omega)]
 have hl : ((l.take i).map f).length = i := by simp; omega
 rw [hl,Nat.sub_self,List.drop_eq_getElem_cons h]
 rfl
theorem fold_eq (s : ByteArray) (hs : s.size < 4611686018427387904) : path_Fold s = some (lowS s) := by
 unfold path_Fold
 refine bnd rfl ?_
 have hlen : (sbytes s).length = s.size := sbytes_len s
 refine bndL (s := lowL (sbytes s)) ?_ rfl
 refine loop_from (fun i => (((sbytes s).take i).map lowB ++ (sbytes s).drop i,(i : Int))) s.size BIG (by simp) (by unfold BIG; omega) (fun i hi => ?_) ?_
 ·have hi' : i < (sbytes s).length := by omega
  have hb := byt_sbytes s _ (List.getElem_mem hi')
  have hll : (((sbytes s).take i).map lowB ++ (sbytes s).drop i).length = (sbytes s).length := by simp; omega
  have gt := get_mid lowB (sbytes s) i hi'
  have st := set_mid lowB (sbytes s) i hi'
  have ix : ixO (i : Int) (((sbytes s).take i).map lowB ++ (sbytes s).drop i).length = some i := ixO_of (by omega)
  have w : some (IntKind.i64.wrap ((i : Int) + 1)) = some ((i + 1 : Nat) : Int) := by rw [wrap_succ (by omega)]
  refine cnd_t (decide_eq_true (by omega)) ?_
  by_cases h1 : 65 ≤ (sbytes s)[i] ∧ (sbytes s)[i] ≤ 90
  ·have e : lowB (sbytes s)[i] = (sbytes s)[i] + 32 := by unfold lowB; rw [if_pos h1]
   rw [e] at st
   refine bndL (s := ((sbytes s).take (i + 1)).map lowB ++ (sbytes s).drop (i + 1)) (bnd ix (bnd gt (bndL (s := true) (cnd_t (decide_eq_true h1.1) (by rw [decide_eq_true h1.2])) (cnd_t rfl (bnd (by rw [u8_wrap (by omega) (by omega)]) (bnd ix (bnd (by rw [st]) rfl))))))) (bnd w rfl)
  ·have e : lowB (sbytes s)[i] = (sbytes s)[i] := by unfold lowB; rw [if_neg h1]
   have st2 : ((sbytes s).take i).map lowB ++ (sbytes s).drop i = ((sbytes s).take (i + 1)).map lowB ++ (sbytes s).drop (i + 1) := by
    rw [List.take_add_one,List.getElem?_eq_getElem hi',List.drop_eq_getElem_cons hi']
    simp only [Option.toList_some,List.map_append,List.map_cons,List.map_nil,List.append_assoc,List.cons_append,List.nil_append,e]
   refine bndL (s := ((sbytes s).take (i + 1)).map lowB ++ (sbytes s).drop (i + 1)) (bnd ix (bnd gt (bndL (s := false) ?_ (cnd_f rfl (by rw [st2]))))) (bnd w rfl)
   by_cases h2 : 65 ≤ (sbytes s)[i]
   ·exact cnd_t (decide_eq_true h2) (by rw [decide_eq_false fun h3 => h1 ⟨h2,h3⟩])
   ·exact cnd_f (decide_eq_false h2) rfl
 ·refine cnd_f (decide_eq_false (by omega)) ?_
  rw [← hlen]
  simp [lowL]
def atpB (p : T_Path) (d : ByteArray) : Bool := patB p && (!p.Null && decide (lowS p.Domain = lowS d))
theorem at_eq (p : T_Path) (d : ByteArray) (h : Small p) (hd : d.size < 1152921504606846976) : path_At p d = some (atpB p d) := by
 unfold path_At atpB
 have h1 := h.d
 cases hp : patB p
 ·exact bndL (s := false) (bnd (check_eq p h) (by rw [hp]; rfl)) rfl
 ·have cp := check_eq p h
  rw [hp] at cp
  refine bndL (s := !p.Null && decide (lowS p.Domain = lowS d)) (bnd cp (cnd_t rfl ?_)) rfl
  cases hn : p.Null
  ·exact cnd_t rfl (bnd (fold_eq p.Domain (by omega)) (bnd (fold_eq d (by omega)) (by rw [toList_beq]; rfl)))
  ·rfl
theorem rsign_all : (List.range 256).all (fun k => decide (wherryref11_sign ((k : Nat) : Int) = some (atB ((k : Nat) : Int)))) = true := by kernel_rfl
theorem rsign {c : Int} (hc : 0 ≤ c ∧ c < 256) : wherryref11_sign c = some (atB c) := by
 simpa using of_byte (fun c => decide (wherryref11_sign c = some (atB c))) rsign_all hc
def qLoc (p x : Int) : Bool := if x = 46 then decide (p ≠ 46) else atB x
def locG (p : Int) (l : List Int) : Bool := chkR qLoc p l && decide ((p :: l).getLast? ≠ some 46)
theorem locG_spl : ∀ (l : List Int) (p : Int),locG p l = match spl 46 l with
  | [] => true
  | a :: ps => (if p = 46 then atmB a else a.all atB) && ps.all atmB
 | [],p => by
  unfold locG
  simp only [chkR,spl,Bool.true_and,List.getLast?_singleton,List.all_nil,Bool.and_true]
  by_cases h : p = 46
  ·simp [h,atmB]
  ·simp [h]
 | x :: r,p => by
  have ih := locG_spl r x
  have hne := spl_ne 46 r
  unfold spl
  have e : locG p (x :: r) = (qLoc p x && locG x r) := by
   unfold locG
   simp only [chkR,List.getLast?_cons_cons,Bool.and_assoc]
  rw [e,ih]
  cases hs : spl 46 r with
  | nil => exact absurd hs hne
  | cons a ps =>
   by_cases hx : x = 46
   ·subst hx
    simp only [qLoc,if_true,List.all_cons]
    by_cases hp : p = 46
    ·subst hp; simp [atmB]
    ·simp [hp]
   ·simp only [qLoc,if_neg hx,List.all_cons]
    by_cases hp : p = 46
    ·subst hp; simp [atmB,Bool.and_assoc]
    ·simp [hp,Bool.and_assoc]
theorem loc_chk (l : List Int) (hne : l ≠ []) (h46 : l.head? ≠ some 46) (hl : l.getLast? ≠ some 46) : (spl 46 l).all atmB = chkR qLoc 0 l := by
 have h := locG_spl l 46
 have e1 : locG 46 l = chkR qLoc 0 l := by
  cases l with
  | nil => exact absurd rfl hne
  | cons x r =>
   have hx : x ≠ 46 := by simpa using h46
   unfold locG
   simp only [chkR,List.getLast?_cons_cons,qLoc,if_neg hx]
   rw [decide_eq_true hl,Bool.and_true]
 rw [← e1,h]
 cases hs : spl 46 l with
 | nil => exact absurd hs (spl_ne 46 l)
 | cons a ps => simp
theorem loc_first {l : List Int} (h : l.head? = some 46) : (spl 46 l).all atmB = false := by
 cases l with
 | nil => simp at h
 | cons x r => simp at h; subst h; simp [spl,atmB]
theorem loc_last {l : List Int} (h : l.getLast? = some 46) : (spl 46 l).all atmB = false := by
 have h2 := locG_spl l 46
 have e : (spl 46 l).all atmB = locG 46 l := by
  rw [h2]
  cases hs : spl 46 l with
  | nil => exact absurd hs (spl_ne 46 l)
  | cons a ps => simp
 rw [e]
 unfold locG
 cases l with
 | nil => simp at h
 | cons x r => rw [List.getLast?_cons_cons,h]; simp
theorem rloc_eq (s : ByteArray) : wherryref11_Local s = some (locB (sbytes s)) := by
 unfold wherryref11_Local locB
 rw [sbytes_len]
 by_cases h : 1 ≤ s.size ∧ s.size ≤ 64
 ·have hn : (decide ((1 : Int) ≤ (s.size : Int)) && decide ((s.size : Int) ≤ 64)) = true := by rw [decide_eq_true (by omega),decide_eq_true (by omega)]; rfl
  have hin := in_eq (s.size : Int) 1 64
  rw [hn] at hin
  have hne : sbytes s ≠ [] := by intro e; have := sbytes_len s; rw [e] at this; simp at this; omega
  have hh := head_getD hne
  have hg := last_getD hne
  rw [sbytes_len] at hg
  have c0 := chrD (s := s) (i := 0) (by omega)
  have c1 := chrD (s := s) (i := s.size - 1) (by omega)
  have e1 : ((s.size - 1 : Nat) : Int) = (s.size : Int) - 1 := by omega
  rw [e1] at c1
  rw [decide_eq_true h.2,Bool.true_and]
  by_cases h0 : (sbytes s).getD 0 0 = 46
  ·rw [h0] at hh c0
   rw [loc_first hh]
   exact bndL (s := true) (bnd hin (cnd_f rfl (bnd c0 (cnd_t rfl rfl)))) rfl
  ·by_cases hl : (sbytes s).getD (s.size - 1) 0 = 46
   ·rw [hl] at hg c1
    rw [loc_last hg]
    exact bndL (s := true) (bnd hin (cnd_f rfl (bnd c0 (cnd_f (by simpa using h0) (bnd (wrap_i (by omega) (by omega)) (bnd c1 rfl)))))) rfl
   ·rw [loc_chk _ hne (by rw [hh]; simpa using h0) (by rw [hg]; simpa using hl)]
    refine bndL (s := false) (bnd hin (cnd_f rfl (bnd c0 (cnd_f (by simpa using h0) (bnd (wrap_i (by omega) (by omega)) (bnd c1 (by rw [show ((sbytes s).getD (s.size - 1) 0 == 46) = false by simpa using hl])))))) ) (cnd_f rfl ?_)
    let q : Nat → Bool := fun i => qLoc ((0 :: sbytes s).getD i 0) ((sbytes s).getD i 0)
    have hl2 := fun (g : Int → Option (Int ⊕ (Unit ⊕ Bool))) => loop_all (R := Bool) (f := g) q s.size false (fuel := BIG) (by unfold BIG; omega)
    have hiff := chkR_iff qLoc (sbytes s) 0
    rw [sbytes_len] at hiff
    have prev : ∀ i,i < s.size → (sbytes s).getD i 0 = 46 → chrO s ((i : Int) - 1) = some ((0 :: sbytes s).getD i 0) := by
     intro i hi h46
     cases i with
     | zero => exact absurd h46 h0
     | succ i =>
      have := chrD (s := s) (i := i) (by omega)
      have e : ((i + 1 : Nat) : Int) - 1 = (i : Int) := by omega
      rw [e,this]; rfl
    rw [show chkR qLoc 0 (sbytes s) = decide (∀ i,i < s.size → q i = true) by rw [Bool.eq_iff_iff,decide_eq_true_eq]; exact hiff.symm]
    refine (congrArg (fun m => bindS m _ _) (hl2 _ ?_ ?_ ?_)).trans ?_
    ·intro i hi hq
     have w : some (IntKind.i64.wrap ((i : Int) - 1)) = some ((i : Int) - 1) := wrap_i (by omega) (by omega)
     have w2 : some (IntKind.i64.wrap ((i : Int) + 1)) = some ((i + 1 : Nat) : Int) := by rw [wrap_succ (by omega)]
     refine cnd_t (decide_eq_true (by omega)) (bndL (s := false) (bnd (chrD hi) ?_) (cnd_f rfl (bnd w2 rfl)))
     by_cases h46 : (sbytes s).getD i 0 = 46
     ·refine cnd_t (by rw [h46]; rfl) (bnd w (bnd (prev i hi h46) ?_))
      have hp : (0 :: sbytes s).getD i 0 ≠ 46 := by
       simp only [q,qLoc,if_pos h46,decide_eq_true_eq] at hq
       exact hq
      exact cnd_f (by simpa using hp) (bnd (chrD hi) (cnd_f (by rw [h46]; rfl) rfl))
     ·refine cnd_f (by simpa using h46) (bnd (chrD hi) (cnd_t (by simpa using h46) (bnd (chrD hi) (bnd (rsign (getD_byte s hi)) ?_))))
      simp only [q,qLoc,if_neg h46] at hq
      rw [hq]; rfl
    ·intro i hi hq
     have w : some (IntKind.i64.wrap ((i : Int) - 1)) = some ((i : Int) - 1) := wrap_i (by omega) (by omega)
     refine cnd_t (decide_eq_true (by omega)) (bndL (s := true) (bnd (chrD hi) ?_) (cnd_t rfl rfl))
     by_cases h46 : (sbytes s).getD i 0 = 46
     ·refine cnd_t (by rw [h46]; rfl) (bnd w (bnd (prev i hi h46) ?_))
      have hp : (0 :: sbytes s).getD i 0 = 46 := by
       simp only [q,qLoc,if_pos h46,decide_eq_false_iff_not,ne_eq] at hq
       exact Decidable.not_not.1 hq
      exact cnd_t (by rw [hp]; rfl) rfl
     ·refine cnd_f (by simpa using h46) (bnd (chrD hi) (cnd_t (by simpa using h46) (bnd (chrD hi) (bnd (rsign (getD_byte s hi)) ?_))))
      simp only [q,qLoc,if_neg h46] at hq
      rw [hq]; rfl
    ·exact cnd_f (decide_eq_false (by omega)) rfl
    ·by_cases hall : ∀ i,i < s.size → q i = true
     ·rw [if_pos hall,decide_eq_true hall]; rfl
     ·rw [if_neg hall,decide_eq_false hall]; rfl
 ·have hn : (decide ((1 : Int) ≤ (s.size : Int)) && decide ((s.size : Int) ≤ 64)) = false := by
   by_cases h1 : 1 ≤ s.size
   ·rw [decide_eq_true (by omega),decide_eq_false (by omega)]; rfl
   ·rw [decide_eq_false (by omega)]; rfl
  have hin := in_eq (s.size : Int) 1 64
  rw [hn] at hin
  refine bndL (s := true) (bnd hin rfl) (cnd_t rfl ?_)
  by_cases h1 : 1 ≤ s.size
  ·rw [decide_eq_false (by omega)]; rfl
  ·have : sbytes s = [] := List.eq_nil_of_length_eq_zero (by rw [sbytes_len]; omega)
   rw [this]
   simp [spl,atmB]
theorem rpath_eq (p : T_Path) : wherryref11_Path p = some (patB p) := by
 unfold wherryref11_Path patB
 rw [isE,isE]
 cases hn : p.Null
 ·refine cnd_f rfl (bndL (s := locB (sbytes p.Local) && domB (sbytes p.Domain)) (bnd (rloc_eq p.Local) ?_) rfl)
  cases locB (sbytes p.Local)
  ·rfl
  ·exact cnd_t rfl (bnd (rdom_eq p.Domain) rfl)
 ·refine cnd_t rfl (bndL (s := (sbytes p.Local).isEmpty && (sbytes p.Domain).isEmpty) ?_ rfl)
  cases (sbytes p.Local).isEmpty <;> rfl
theorem rfold_eq (s : ByteArray) (hs : s.size < 140737488355328) : wherryref11_Fold s = some (lowS s) := by
 unfold wherryref11_Fold
 have hlen : (sbytes s).length = s.size := sbytes_len s
 refine bndL (s := lowL (sbytes s)) ?_ rfl
 refine loop_from (fun i => (((sbytes s).take i).map lowB,(i : Int))) s.size BIG (by simp) (by unfold BIG; omega) (fun i hi => ?_) ?_
 ·have hi' : i < (sbytes s).length := by omega
  have hb := byt_sbytes s _ (List.getElem_mem hi')
  have hc := chr_of hi
  have w : some (IntKind.i64.wrap ((i : Int) + 1)) = some ((i + 1 : Nat) : Int) := by rw [wrap_succ (by omega)]
  have ap : appO 1 (((sbytes s).take i).map lowB) [lowB (sbytes s)[i]] = some (((sbytes s).take (i + 1)).map lowB) := by
   rw [app_of (by simp; omega) (by simp; omega),List.take_add_one,List.getElem?_eq_getElem hi']
   simp only [Option.toList_some,List.map_append,List.map_cons,List.map_nil]
  refine cnd_t (decide_eq_true (by omega)) (bnd hc (bndL (s := lowB (sbytes s)[i]) ?_ (bnd ap (bnd w rfl))))
  by_cases h1 : 65 ≤ (sbytes s)[i] ∧ (sbytes s)[i] ≤ 90
  ·have e : lowB (sbytes s)[i] = (sbytes s)[i] + 32 := by unfold lowB; rw [if_pos h1]
   exact bndL (s := true) (cnd_t (decide_eq_true h1.1) (by rw [decide_eq_true h1.2])) (cnd_t rfl (bnd (by rw [u8_wrap (by omega) (by omega)]) (by rw [e])))
  ·have e : lowB (sbytes s)[i] = (sbytes s)[i] := by unfold lowB; rw [if_neg h1]
   refine bndL (s := false) ?_ (cnd_f rfl (by rw [e]))
   by_cases h2 : 65 ≤ (sbytes s)[i]
   ·exact cnd_t (decide_eq_true h2) (by rw [decide_eq_false fun h3 => h1 ⟨h2,h3⟩])
   ·exact cnd_f (decide_eq_false h2) rfl
 ·refine cnd_f (decide_eq_false (by omega)) ?_
  rw [List.take_of_length_le (by omega)]; rfl
theorem rat_eq (p : T_Path) (d : ByteArray) (h : p.Domain.size < 140737488355328) (hd : d.size < 140737488355328) : wherryref11_At p d = some (atpB p d) := by
 unfold wherryref11_At atpB
 have cp := rpath_eq p
 cases hp : patB p
 ·exact bndL (s := false) (bnd cp (by rw [hp]; rfl)) rfl
 ·rw [hp] at cp
  refine bndL (s := !p.Null && decide (lowS p.Domain = lowS d)) (bnd cp (cnd_t rfl ?_)) rfl
  cases hn : p.Null
  ·exact cnd_t rfl (bnd (rfold_eq p.Domain h) (bnd (rfold_eq d hd) (by rw [toList_beq]; rfl)))
  ·rfl
def hvIn (l : List T_Mail) (s67 : Int) : ((Int × Int)) → Option ((Int × Int) ⊕ ((Int) ⊕ ((Int × Int) ⊕ ((Int) ⊕ Bool)))) := (fun ((s98,s99) : Int × Int) =>
      (ixO s67 l.length).bind fun v18 =>
      (getO l v18).bind fun v19 =>
      cond ((decide (s99 < (v19.To.length : Int))))
       ((ixO s67 l.length).bind fun v21 =>
       (getO l v21).bind fun v22 =>
       (ixO s99 v22.To.length).bind fun v23 =>
       (getO v22.To v23).bind fun v24 =>
       (some (IntKind.i64.wrap (s98 + (v24.Local.size : Int)))).bind fun v25 =>
       (ixO s67 l.length).bind fun v26 =>
       (getO l v26).bind fun v27 =>
       (ixO s99 v27.To.length).bind fun v28 =>
       (getO v27.To v28).bind fun v29 =>
       (some (IntKind.i64.wrap (v25 + (v29.Domain.size : Int)))).bind fun v30 =>
       (some (IntKind.i64.wrap (s99 + 1))).bind fun v31 =>
       some (.inl (v30,v31)))
       (some (.inr (.inl s98))))
def hvOut (l : List T_Mail) : ((Int × Int)) → Option ((Int × Int) ⊕ ((Int) ⊕ Bool)) := (fun ((s66,s67) : Int × Int) =>
  cond ((decide (s67 < (l.length : Int))))
   ((ixO s67 l.length).bind fun v3 =>
   (getO l v3).bind fun v4 =>
   (some (IntKind.i64.wrap (s66 + (v4.Body.length : Int)))).bind fun v5 =>
   (ixO s67 l.length).bind fun v6 =>
   (getO l v6).bind fun v7 =>
   (some (IntKind.i64.wrap (v5 + (v7.Helo.size : Int)))).bind fun v8 =>
   (ixO s67 l.length).bind fun v9 =>
   (getO l v9).bind fun v10 =>
   (some (IntKind.i64.wrap (v8 + (v10.From.Local.size : Int)))).bind fun v11 =>
   (ixO s67 l.length).bind fun v12 =>
   (getO l v12).bind fun v13 =>
   (some (IntKind.i64.wrap (v11 + (v13.From.Domain.size : Int)))).bind fun v14 =>
   (ixO s67 l.length).bind fun v15 =>
   (getO l v15).bind fun v16 =>
   cond ((decide (40 < (v16.To.length : Int))))
    (some (.inr (.inr (true))))
    (bindS (S := (Int)) (A := ((Int × Int) ⊕ ((Int) ⊕ Bool)))
     (loopF (S := (Int × Int)) (O := (Int) ⊕ ((Int × Int) ⊕ ((Int) ⊕ Bool))) (fun ((s98,s99) : Int × Int) =>
      (ixO s67 l.length).bind fun v18 =>
      (getO l v18).bind fun v19 =>
      cond ((decide (s99 < (v19.To.length : Int))))
       ((ixO s67 l.length).bind fun v21 =>
       (getO l v21).bind fun v22 =>
       (ixO s99 v22.To.length).bind fun v23 =>
       (getO v22.To v23).bind fun v24 =>
       (some (IntKind.i64.wrap (s98 + (v24.Local.size : Int)))).bind fun v25 =>
       (ixO s67 l.length).bind fun v26 =>
       (getO l v26).bind fun v27 =>
       (ixO s99 v27.To.length).bind fun v28 =>
       (getO v27.To v28).bind fun v29 =>
       (some (IntKind.i64.wrap (v25 + (v29.Domain.size : Int)))).bind fun v30 =>
       (some (IntKind.i64.wrap (s99 + 1))).bind fun v31 =>
       some (.inl (v30,v31)))
       (some (.inr (.inl s98))))
      BIG (v14,0))
     (fun (s101 : Int) =>
      (some (IntKind.i64.wrap (s67 + 1))).bind fun v46 =>
      some (.inl (s101,v46))) some))
   (some (.inr (.inl s66))))
theorem wadd {a b : Nat} (h : a + b < 9223372036854775808) : some (IntKind.i64.wrap ((a : Int) + (b : Int))) = some ((a + b : Nat) : Int) := by
 rw [wrap_i64 (by omega) (by omega)]; simp
def pW (p : T_Path) : Nat := p.Local.size + p.Domain.size
def psum : List T_Path → Nat
 | [] => 0
 | p :: l => pW p + psum l
def mW (m : T_Mail) : Nat := m.Body.length + m.Helo.size + m.From.Local.size + m.From.Domain.size + psum m.To
def msum : List T_Mail → Nat
 | [] => 0
 | m :: l => mW m + msum l
theorem psum_take (l : List T_Path) (k : Nat) (hk : k < l.length) : psum (l.take (k + 1)) = psum (l.take k) + pW l[k] := by
 induction l generalizing k with
 | nil => simp at hk
 | cons p l ih =>
  cases k with
  | zero => simp [psum]
  | succ k =>
   simp only [List.take_succ_cons,psum,List.getElem_cons_succ]
   rw [ih k (by simpa using hk)]; omega
theorem msum_take (l : List T_Mail) (k : Nat) (hk : k < l.length) : msum (l.take (k + 1)) = msum (l.take k) + mW l[k] := by
 induction l generalizing k with
 | nil => simp at hk
 | cons p l ih =>
  cases k with
  | zero => simp [msum]
  | succ k =>
   simp only [List.take_succ_cons,msum,List.getElem_cons_succ]
   rw [ih k (by simpa using hk)]; omega
theorem psum_le (B : Nat) : ∀ (l : List T_Path),(∀ p ∈ l,pW p ≤ B) → psum l ≤ l.length * B
 | [],_ => by simp [psum]
 | p :: l,h => by
  have h1 := h p (by simp)
  have h2 := psum_le B l (fun q hq => h q (by simp [hq]))
  simp only [psum,List.length_cons,Nat.add_mul]; omega
theorem msum_le (B : Nat) : ∀ (l : List T_Mail),(∀ p ∈ l,mW p ≤ B) → msum l ≤ l.length * B
 | [],_ => by simp [msum]
 | p :: l,h => by
  have h1 := h p (by simp)
  have h2 := msum_le B l (fun q hq => h q (by simp [hq]))
  simp only [msum,List.length_cons,Nat.add_mul]; omega
theorem mW_le_msum {m : T_Mail} : ∀ {l : List T_Mail},m ∈ l → mW m ≤ msum l
 | x :: l,h => by
  rcases List.mem_cons.1 h with rfl | h
  ·simp only [msum]; omega
  ·have := mW_le_msum h; simp only [msum]; omega
def mRe (m : T_Mail) : Prop := m.Body.length < 140737488355328 ∧ m.Helo.size < 140737488355328 ∧ m.From.Local.size < 140737488355328 ∧ m.From.Domain.size < 140737488355328 ∧ m.To.length < 140737488355328 ∧ ∀ p ∈ m.To,p.Local.size < 140737488355328 ∧ p.Domain.size < 140737488355328
theorem hvIn_run (l : List T_Mail) (i : Nat) (hi : i < l.length) (hm : mRe l[i]) (ht : l[i].To.length ≤ 40) (A : Nat) (hA : A < 1152921504606846976) :
  loopF (hvIn l (i : Int)) BIG ((A : Int),0) = some (.inl ((A + psum l[i].To : Nat) : Int)) := by
 have hix : ixO (i : Int) l.length = some i := ixO_of hi
 have hg : getO l i = some l[i] := by simp [getO,hi]
 obtain ⟨m,hmm⟩ : ∃ m,m = l[i] := ⟨_,rfl⟩
 rw [← hmm] at hm ht hg ⊢
 have hp : ∀ p ∈ m.To,pW p ≤ 281474976710656 := fun p hp => by have := hm.2.2.2.2.2 p hp; simp only [pW]; omega
 have hb : ∀ k,psum (m.To.take k) ≤ 40 * 281474976710656 := fun k => by
  have h1 := psum_le 281474976710656 (m.To.take k) (fun p hq => hp p (List.mem_of_mem_take hq))
  have h2 : (m.To.take k).length ≤ 40 := by rw [List.length_take]; omega
  exact Nat.le_trans h1 (Nat.mul_le_mul_right _ h2)
 refine loop_from (fun k => (((A + psum (m.To.take k) : Nat) : Int),(k : Int))) m.To.length BIG (by simp [psum]) (by simp only [BIG]; omega) (fun k hk => ?_) ?_
 ·have hk' : k < m.To.length := hk
  have hix2 : ixO (k : Int) m.To.length = some k := ixO_of hk'
  have hg2 : getO m.To k = some m.To[k] := by simp [getO,hk']
  have hb1 := hb k
  have hpk := hm.2.2.2.2.2 m.To[k] (List.getElem_mem _)
  have hs := psum_take m.To k hk'
  refine bnd hix (bnd hg (cnd_t (decide_eq_true (by omega)) (bnd hix (bnd hg (bnd hix2 (bnd hg2 (bnd (wadd (by omega)) (bnd hix (bnd hg (bnd hix2 (bnd hg2 (bnd (wadd (by omega)) (bnd (congrArg some (wrap_succ (by omega))) ?_))))))))))))) 
  rw [hs]
  simp only [pW,Nat.add_assoc]
 ·refine bnd hix (bnd hg (cnd_f (decide_eq_false (by omega)) ?_))
  simp only [List.take_length]
def LM (m : T_Mail) : Prop := m.To.length ≤ 40 ∧ mW m ≤ 20000
theorem mW_le {m : T_Mail} (hm : mRe m) (ht : m.To.length ≤ 40) : mW m ≤ 44 * 281474976710656 := by
 have h1 := psum_le 281474976710656 m.To (fun p hq => by have := hm.2.2.2.2.2 p hq; simp only [pW]; omega)
 have h2 : m.To.length * 281474976710656 ≤ 40 * 281474976710656 := Nat.mul_le_mul_right _ ht
 have := hm.1; have := hm.2.1; have := hm.2.2.1; have := hm.2.2.2.1
 simp only [mW]; omega
theorem heavy17 (l : List T_Mail) (hr : ∀ m ∈ l,mRe m) : ∃ b,wherrylaw17_Heavy l = some b ∧ (b = false → l.length ≤ 20 ∧ ∀ m ∈ l,LM m) := by
 by_cases hl : 20 < l.length
 ·refine ⟨true,?_,fun h => by cases h⟩
  simp only [wherrylaw17_Heavy]
  exact cnd_t (decide_eq_true (by omega)) rfl
 ·have go : ∀ i,(hi : i < l.length) → l[i].To.length ≤ 40 → msum (l.take i) ≤ 20 * (44 * 281474976710656) → hvOut l (((msum (l.take i) : Nat) : Int),(i : Int)) = some (.inl (((msum (l.take (i + 1)) : Nat) : Int),((i + 1 : Nat) : Int))) := by
   intro i hi ht hb
   have hix : ixO (i : Int) l.length = some i := ixO_of hi
   have hg : getO l i = some l[i] := by simp [getO,hi]
   have hm := hr l[i] (List.getElem_mem _)
   have hm1 := hm.1; have hm2 := hm.2.1; have hm3 := hm.2.2.1; have hm4 := hm.2.2.2.1
   refine cnd_t (decide_eq_true (by omega)) (bnd hix (bnd hg (bnd (wadd (by omega)) (bnd hix (bnd hg (bnd (wadd (by omega)) (bnd hix (bnd hg (bnd (wadd (by omega)) (bnd hix (bnd hg (bnd (wadd (by omega)) (bnd hix (bnd hg (cnd_f (decide_eq_false (by omega)) (bndL (hvIn_run l i hi hm ht _ (by omega)) (bnd (congrArg some (wrap_succ (by omega))) ?_)))))))))))))))))
   rw [msum_take l i hi]
   simp only [mW,Nat.add_assoc]
  have hs : ∀ k,k ≤ l.length → (∀ i,i < k → (h : i < l.length) → l[i].To.length ≤ 40) → msum (l.take k) ≤ 20 * (44 * 281474976710656) := by
   intro k hk ht
   have h1 := msum_le (44 * 281474976710656) (l.take k) (fun m hq => by
    obtain ⟨j,hj,e⟩ := List.mem_iff_getElem.1 hq
    rw [List.getElem_take] at e
    rw [List.length_take] at hj
    rw [← e]
    exact mW_le (hr _ (List.getElem_mem _)) (ht j (by omega) (by omega)))
   have h2 : (l.take k).length ≤ 20 := by rw [List.length_take]; omega
   exact Nat.le_trans h1 (Nat.mul_le_mul_right _ h2)
  rcases first_fail (fun i => decide (∀ h : i < l.length,l[i].To.length ≤ 40)) l.length with h | ⟨k,hk,h1,h2⟩
  ·have ht : ∀ i,(h : i < l.length) → l[i].To.length ≤ 40 := fun i hi => of_decide_eq_true (h i hi) hi
   have hrun : loopF (hvOut l) BIG (0,0) = some (.inl ((msum l : Nat) : Int)) := by
    refine loop_from (fun k => (((msum (l.take k) : Nat) : Int),(k : Int))) l.length BIG rfl (by simp only [BIG]; omega) (fun i hi => go i hi (ht i hi) (hs i (by omega) (fun j _ hj => ht j hj))) ?_
    refine cnd_f (decide_eq_false (by omega)) ?_
    simp only [List.take_length]
   refine ⟨decide ((20000 : Int) < ((msum l : Nat) : Int)),?_,fun hd => ⟨by omega,fun m hm => ⟨?_,?_⟩⟩⟩
   ·simp only [wherrylaw17_Heavy]
    exact cnd_f (decide_eq_false (by omega)) (bndL hrun rfl)
   ·obtain ⟨j,hj,e⟩ := List.mem_iff_getElem.1 hm
    rw [← e]; exact ht j hj
   ·have := mW_le_msum hm
    have := of_decide_eq_false hd
    omega
  ·have h2' : 40 < l[k].To.length := by
    have := of_decide_eq_false h2
    apply Classical.byContradiction
    intro hh
    exact this (fun _ => Nat.le_of_not_lt hh)
   have ht : ∀ i,i < k → (h : i < l.length) → l[i].To.length ≤ 40 := fun i hi h => of_decide_eq_true (h1 i hi) h
   have hrun : loopF (hvOut l) BIG (0,0) = some (.inr true) := by
    refine loop_from (fun k => (((msum (l.take k) : Nat) : Int),(k : Int))) k BIG rfl (by simp only [BIG]; omega) (fun i hi => go i (by omega) (ht i hi (by omega)) (hs i (by omega) (fun j hj h => ht j (by omega) h))) ?_
    have hix : ixO (k : Int) l.length = some k := ixO_of hk
    have hg : getO l k = some l[k] := by simp [getO,hk]
    have hm := hr l[k] (List.getElem_mem _)
    have hm1 := hm.1; have hm2 := hm.2.1; have hm3 := hm.2.2.1; have hm4 := hm.2.2.2.1
    have hb := hs k (by omega) ht
    exact cnd_t (decide_eq_true (by omega)) (bnd hix (bnd hg (bnd (wadd (by omega)) (bnd hix (bnd hg (bnd (wadd (by omega)) (bnd hix (bnd hg (bnd (wadd (by omega)) (bnd hix (bnd hg (bnd (wadd (by omega)) (bnd hix (bnd hg (cnd_t (decide_eq_true (by omega)) rfl)))))))))))))))
   refine ⟨true,?_,fun h => by cases h⟩
   simp only [wherrylaw17_Heavy]
   exact cnd_f (decide_eq_false (by omega)) (bndR hrun rfl)
theorem wz_mail {m : T_Mail} (h : T_Mail.wz m) : mRe m ∧ byt m.Body := by
 obtain ⟨⟨_,h1,h2⟩,⟨h3,h4⟩,⟨h5,hb⟩,_,h6,_⟩ := h
 simp only [wzS,reachBytes] at h1 h2 h6
 simp only [reachBytes] at h3 h5
 refine ⟨⟨by omega,by omega,by omega,by omega,by omega,fun p hp => ?_⟩,byt_of_wf ⟨by unfold maxLen; omega,hb⟩⟩
 have := h4 p hp
 simp only [T_Path.wz,wzS,reachBytes] at this
 omega
end Go.Abs.Sh
