/-
 The program told in Lean: plain functions; none where Go would panic or a slice outgrow its room.
-/
import Derived.Test.YtohhijlgepnbeaaAN
import Derived.Test.YtohhijlgepnbeaaB4
import Derived.Test.YtohhijlgepnbeaaB8
set_option linter.unusedVariables false
namespace Go.Abs.Sh

structure T_tree_node where
 weight : Int
 parent : Int
 deriving DecidableEq, Inhabited
def T_tree_node.ienc (x : T_tree_node) : List IC := [.v (.int .i64 x.weight), .v (.int .i64 x.parent)]
theorem T_tree_node.ilen (x : T_tree_node) : (T_tree_node.ienc x).length = 2 := rfl
def T_tree_node.wf (x : T_tree_node) : Prop := wfI .i64 x.weight ∧ wfI .i64 x.parent
def T_tree_node.wz (x : T_tree_node) : Prop := (wfI .i64) x.weight ∧ (wfI .i64) x.parent

structure T_wherryref01_node where
 w : Int
 who : (List Int)
 deriving DecidableEq, Inhabited
def T_wherryref01_node.ienc (x : T_wherryref01_node) : List IC := [.v (.int .i64 x.w), .row 1 (List.map IC.v (List.map (Value.int .i64) x.who))]
theorem T_wherryref01_node.ilen (x : T_wherryref01_node) : (T_wherryref01_node.ienc x).length = 2 := rfl
def T_wherryref01_node.wf (x : T_wherryref01_node) : Prop := wfI .i64 x.w ∧ wfL (wfI .i64) x.who
def T_wherryref01_node.wz (x : T_wherryref01_node) : Prop := (wfI .i64) x.w ∧ (wzL 8 (wfI .i64)) x.who

def wherrykeep_TwinInts (l : (List Int)) : Option (List Int) :=
 (appO 8 ([] : List Int) l).bind fun v1 =>
 some (v1)

def tree_validWeights (weights : (List Int)) : Option Bool :=
 cond ((decide (300 < (weights.length : Int))))
  (some (false))
  (bindS (S := (Unit)) (A := Bool)
   (loopF (S := (Int)) (O := (Unit) ⊕ Bool) (fun (s18 : Int) =>
    cond ((decide (s18 < (weights.length : Int))))
     ((ixO s18 weights.length).bind fun v3 =>
     (getO weights v3).bind fun v4 =>
     bindS (S := Bool) (A := ((Int) ⊕ ((Unit) ⊕ Bool)))
      (cond ((decide (v4 < 0)))
       (some (.inl true))
       (some (.inl ((decide (1048576 < v4))))))
      (fun (s32 : Bool) =>
       cond (s32)
        (some (.inr (.inr (false))))
        ((some (IntKind.i64.wrap (s18 + 1))).bind fun v10 =>
        some (.inl v10))) some)
     (some (.inr (.inl ()))))
    BIG 0)
   (fun (() : Unit) =>
    some (true)) some)

def tree_positive (weights : (List Int)) : Option (List Int) :=
 bindS (S := ((List Int))) (A := (List Int))
  (loopF (S := ((List Int) × Int)) (O := ((List Int)) ⊕ (List Int)) (fun ((s21, s22) : (List Int) × Int) =>
   cond ((decide (s22 < (weights.length : Int))))
    (bindS (S := (List Int)) (A := (((List Int) × Int) ⊕ (((List Int)) ⊕ (List Int))))
     ((ixO s22 weights.length).bind fun v2 =>
     (getO weights v2).bind fun v3 =>
     cond ((decide (0 < v3)))
      ((appO 8 s21 [s22]).bind fun v5 =>
      some (.inl v5))
      (some (.inl s21)))
     (fun (s39 : (List Int)) =>
      (some (IntKind.i64.wrap (s22 + 1))).bind fun v11 =>
      some (.inl (s39, v11))) some)
    (some (.inr (.inl s21))))
   BIG ([], 0))
  (fun (s30 : (List Int)) =>
   some (s30)) some

def tree_validLimit (weights : (List Int)) (limit : Int) : Option Bool :=
 bindS (S := Int) (A := Bool)
  ((tree_positive weights).bind fun v1 =>
  cond ((decide ((v1.length : Int) ≤ 19)))
   (some (.inl 5))
   (some (.inl 9)))
  (fun (s3 : Int) =>
   bindS (S := Bool) (A := Bool)
    (cond ((decide (s3 ≤ limit)))
     (some (.inl ((decide (limit ≤ 15)))))
     (some (.inl false)))
    (fun (s8 : Bool) =>
     some (s8)) some) some

def tree_merge_1_clo (cap0 : Int) (cap1 : Int) (cap2 : Int) (cap3 : (List T_tree_node)) : Option (Int × Int × Int × Int × (List T_tree_node)) :=
 bindS (S := Bool) (A := (Int × Int × Int × Int × (List T_tree_node)))
  (cond ((decide (cap0 < cap1)))
   (cond ((cap2 == (cap3.length : Int)))
    (some (.inl true))
    ((ixO cap0 cap3.length).bind fun v1 =>
    (getO cap3 v1).bind fun v2 =>
    (ixO cap2 cap3.length).bind fun v3 =>
    (getO cap3 v3).bind fun v4 =>
    some (.inl ((decide (v2.weight ≤ v4.weight))))))
   (some (.inl false)))
  (fun (s5 : Bool) =>
   cond (s5)
    ((some (IntKind.i64.wrap (cap0 + 1))).bind fun v10 =>
    (some (IntKind.i64.wrap (v10 - 1))).bind fun v11 =>
    some ((v11, v10, cap1, cap2, cap3)))
    ((some (IntKind.i64.wrap (cap2 + 1))).bind fun v12 =>
    (some (IntKind.i64.wrap (v12 - 1))).bind fun v13 =>
    some ((v13, cap0, cap1, v12, cap3)))) some

def tree_merge (nodes : (List T_tree_node)) : Option (List T_tree_node) :=
 bindS (S := ((List T_tree_node))) (A := (List T_tree_node))
  (loopF (S := ((List T_tree_node) × Int × Int × Int)) (O := ((List T_tree_node)) ⊕ (List T_tree_node)) (fun ((s42, s43, s44, s45) : (List T_tree_node) × Int × Int × Int) =>
   (some (IntKind.i64.wrap (2 * s43))).bind fun v1 =>
   (some (IntKind.i64.wrap (v1 - 1))).bind fun v2 =>
   cond ((decide ((s42.length : Int) < v2)))
    ((tree_merge_1_clo s44 s43 s45 s42).bind fun v4 =>
    (tree_merge_1_clo v4.2.1 v4.2.2.1 v4.2.2.2.1 v4.2.2.2.2).bind fun v5 =>
    (ixO v4.1 v5.2.2.2.2.length).bind fun v6 =>
    (getO v5.2.2.2.2 v6).bind fun v7 =>
    (some (v5.2.2.2.2.set v6 ((T_tree_node.mk v7.weight (v5.2.2.2.2.length : Int))))).bind fun v8 =>
    (ixO v5.1 v5.2.2.2.2.length).bind fun v9 =>
    (getO v8 v9).bind fun v10 =>
    (some (v8.set v9 ((T_tree_node.mk v10.weight (v5.2.2.2.2.length : Int))))).bind fun v11 =>
    (ixO v4.1 v11.length).bind fun v12 =>
    (getO v11 v12).bind fun v13 =>
    (ixO v5.1 v11.length).bind fun v14 =>
    (getO v11 v14).bind fun v15 =>
    (some (IntKind.i64.wrap (v13.weight + v15.weight))).bind fun v16 =>
    (appO 16 v11 [(T_tree_node.mk v16 0)]).bind fun v17 =>
    some (.inl (v17, v5.2.2.1, v5.2.1, v5.2.2.2.1)))
    (some (.inr (.inl s42))))
   BIG ((nodes, (nodes.length : Int), 0, (nodes.length : Int))))
  (fun (s47 : (List T_tree_node)) =>
   some (s47)) some

def tree_depths (weights : (List Int)) : Option (List Int) :=
 (mkO 8 (weights.length : Int) (0 : Int)).bind fun v1 =>
 (tree_positive weights).bind fun v2 =>
 cond (((v2.length : Int) == 0))
  (some (v1))
  (cond (((v2.length : Int) == 1))
   ((ixO 0 v2.length).bind fun v5 =>
   (getO v2 v5).bind fun v6 =>
   (ixO v6 v1.length).bind fun v7 =>
   (some (v1.set v7 1)).bind fun v8 =>
   some (v8))
   ((slices_SortStable weights v2).bind fun v9 =>
   (some (IntKind.i64.wrap (2 * (v9.length : Int)))).bind fun v10 =>
   (mkcO 16 v10).bind fun v11 =>
   bindS (S := ((List T_tree_node))) (A := (List Int))
    (loopF (S := ((List T_tree_node) × Int)) (O := ((List T_tree_node)) ⊕ (List Int)) (fun ((s22, s23) : (List T_tree_node) × Int) =>
     cond ((decide (s23 < (v9.length : Int))))
      ((ixO s23 v9.length).bind fun v13 =>
      (getO v9 v13).bind fun v14 =>
      (ixO v14 weights.length).bind fun v15 =>
      (getO weights v15).bind fun v16 =>
      (appO 16 s22 [(T_tree_node.mk v16 0)]).bind fun v17 =>
      (some (IntKind.i64.wrap (s23 + 1))).bind fun v18 =>
      some (.inl (v17, v18)))
      (some (.inr (.inl s22))))
     BIG ((([] : List T_tree_node), 0)))
    (fun (s25 : (List T_tree_node)) =>
     (tree_merge s25).bind fun v33 =>
     (mkO 8 (v33.length : Int) (0 : Int)).bind fun v34 =>
     (some (IntKind.i64.wrap ((v33.length : Int) - 2))).bind fun v35 =>
     bindS (S := ((List Int))) (A := (List Int))
      (loopF (S := ((List Int) × Int)) (O := ((List Int)) ⊕ (List Int)) (fun ((s48, s49) : (List Int) × Int) =>
       cond ((decide (0 ≤ s49)))
        ((ixO s49 v33.length).bind fun v37 =>
        (getO v33 v37).bind fun v38 =>
        (ixO v38.parent s48.length).bind fun v39 =>
        (getO s48 v39).bind fun v40 =>
        (some (IntKind.i64.wrap (v40 + 1))).bind fun v41 =>
        (ixO s49 s48.length).bind fun v42 =>
        (some (s48.set v42 v41)).bind fun v43 =>
        (some (IntKind.i64.wrap (s49 - 1))).bind fun v44 =>
        some (.inl (v43, v44)))
        (some (.inr (.inl s48))))
       BIG (v34, v35))
      (fun (s51 : (List Int)) =>
       bindS (S := ((List Int))) (A := (List Int))
        (loopF (S := ((List Int) × Int)) (O := ((List Int)) ⊕ (List Int)) (fun ((s70, s71) : (List Int) × Int) =>
         cond ((decide (s71 < (v9.length : Int))))
          ((ixO s71 v9.length).bind fun v60 =>
          (getO v9 v60).bind fun v61 =>
          (ixO s71 s51.length).bind fun v62 =>
          (getO s51 v62).bind fun v63 =>
          (ixO v61 s70.length).bind fun v64 =>
          (some (s70.set v64 v63)).bind fun v65 =>
          (some (IntKind.i64.wrap (s71 + 1))).bind fun v66 =>
          some (.inl (v65, v66)))
          (some (.inr (.inl s70))))
         BIG (v1, 0))
        (fun (s73 : (List Int)) =>
         some (s73)) some) some) some))

def tree_Lengths_1_cap (n : Int) (cap : Int) : Option Bool :=
 some ((decide (cap < n)))

def slices_IndexFunc_int_int_of_tree_Lengths_1 (s : (List Int)) (cap : Int) : Option Int :=
 bindS (S := (Unit)) (A := Int)
  (loopF (S := (Int)) (O := (Unit) ⊕ Int) (fun (s10 : Int) =>
   cond ((decide (s10 < (s.length : Int))))
    ((ixO s10 s.length).bind fun v2 =>
    (getO s v2).bind fun v3 =>
    (tree_Lengths_1_cap v3 cap).bind fun v4 =>
    cond (v4)
     (some (.inr (.inr (s10))))
     ((some (IntKind.i64.wrap (s10 + 1))).bind fun v6 =>
     some (.inl v6)))
    (some (.inr (.inl ()))))
   BIG 0)
  (fun (() : Unit) =>
   some ((-1))) some

def slices_ContainsFunc_int_int_of_tree_Lengths_1 (s : (List Int)) (cap : Int) : Option Bool :=
 (slices_IndexFunc_int_int_of_tree_Lengths_1 s cap).bind fun v1 =>
 some ((decide (0 ≤ v1)))

def tree_Lengths (weights : (List Int)) (limit : Int) : Option ((List Int) × Int) :=
 bindS (S := Bool) (A := ((List Int) × Int))
  ((tree_validWeights weights).bind fun v1 =>
  cond ((!v1))
   (some (.inl true))
   ((tree_validLimit weights limit).bind fun v2 =>
   some (.inl (!v2))))
  (fun (s3 : Bool) =>
   cond (s3)
    (some (([], 1)))
    ((slices_Clone_int_int weights).bind fun v8 =>
    bindS (S := (Unit)) (A := ((List Int) × Int))
     (loopF (S := ((List Int))) (O := (Unit) ⊕ ((List Int) × Int)) (fun (s51 : (List Int)) =>
      (tree_depths s51).bind fun v9 =>
      (slices_ContainsFunc_int_int_of_tree_Lengths_1 v9 limit).bind fun v10 =>
      cond ((!v10))
       (some (.inr (.inr ((v9, 0)))))
       (bindS (S := ((List Int))) (A := (((List Int)) ⊕ ((Unit) ⊕ ((List Int) × Int))))
        (loopF (S := ((List Int) × Int)) (O := ((List Int)) ⊕ (((List Int)) ⊕ ((Unit) ⊕ ((List Int) × Int)))) (fun ((s79, s80) : (List Int) × Int) =>
         cond ((decide (s80 < (s51.length : Int))))
          ((ixO s80 s79.length).bind fun v13 =>
          (getO s79 v13).bind fun v14 =>
          (some (IntKind.i64.wrap (v14 + 1))).bind fun v15 =>
          (quoO .i64 v15 2).bind fun v16 =>
          (ixO s80 s79.length).bind fun v17 =>
          (some (s79.set v17 v16)).bind fun v18 =>
          (some (IntKind.i64.wrap (s80 + 1))).bind fun v19 =>
          some (.inl (v18, v19)))
          (some (.inr (.inl s79))))
         BIG (s51, 0))
        (fun (s82 : (List Int)) =>
         some (.inl s82)) some))
      BIG v8)
     (fun (() : Unit) =>
      none) some)) some

def wherryref01_in (n : Int) (lo : Int) (hi : Int) : Option Bool :=
 bindS (S := Bool) (A := Bool)
  (cond ((decide (lo ≤ n)))
   (some (.inl ((decide (n ≤ hi)))))
   (some (.inl false)))
  (fun (s1 : Bool) =>
   some (s1)) some

def wherryref01_rightWeights (w : (List Int)) : Option Bool :=
 cond ((decide (300 < (w.length : Int))))
  (some (false))
  (bindS (S := (Unit)) (A := Bool)
   (loopF (S := (Int)) (O := (Unit) ⊕ Bool) (fun (s11 : Int) =>
    cond ((decide (s11 < (w.length : Int))))
     ((ixO s11 w.length).bind fun v3 =>
     (getO w v3).bind fun v4 =>
     (wherryref01_in v4 0 1048576).bind fun v5 =>
     cond ((!v5))
      (some (.inr (.inr (false))))
      ((some (IntKind.i64.wrap (s11 + 1))).bind fun v7 =>
      some (.inl v7)))
     (some (.inr (.inl ()))))
    BIG 0)
   (fun (() : Unit) =>
    some (true)) some)

def wherryref01_least (l : (List T_wherryref01_node)) (but : Int) : Option Int :=
 bindS (S := (Int)) (A := Int)
  (loopF (S := (Int × Int)) (O := (Int) ⊕ Int) (fun ((s38, s39) : Int × Int) =>
   cond ((decide (s39 < (l.length : Int))))
    (bindS (S := Int) (A := ((Int × Int) ⊕ ((Int) ⊕ Int)))
     (bindS (S := Bool) (A := (Int ⊕ ((Int × Int) ⊕ ((Int) ⊕ Int))))
      (cond ((s39 != but))
       (cond ((decide (s38 < 0)))
        (some (.inl true))
        ((ixO s39 l.length).bind fun v2 =>
        (getO l v2).bind fun v3 =>
        (ixO s38 l.length).bind fun v4 =>
        (getO l v4).bind fun v5 =>
        some (.inl ((decide (v3.w < v5.w))))))
       (some (.inl false)))
      (fun (s72 : Bool) =>
       cond (s72)
        (some (.inl s39))
        (some (.inl s38))) some)
     (fun (s68 : Int) =>
      (some (IntKind.i64.wrap (s39 + 1))).bind fun v20 =>
      some (.inl (s68, v20))) some)
    (some (.inr (.inl s38))))
   BIG (((-1), 0)))
  (fun (s55 : Int) =>
   some (s55)) some

def wherryref01_lengths (w : (List Int)) : Option (List Int) :=
 (mkO 8 (w.length : Int) (0 : Int)).bind fun v1 =>
 bindS (S := ((List T_wherryref01_node))) (A := (List Int))
  (loopF (S := ((List T_wherryref01_node) × Int)) (O := ((List T_wherryref01_node)) ⊕ (List Int)) (fun ((s24, s25) : (List T_wherryref01_node) × Int) =>
   cond ((decide (s25 < (w.length : Int))))
    (bindS (S := (List T_wherryref01_node)) (A := (((List T_wherryref01_node) × Int) ⊕ (((List T_wherryref01_node)) ⊕ (List Int))))
     ((ixO s25 w.length).bind fun v3 =>
     (getO w v3).bind fun v4 =>
     cond ((decide (0 < v4)))
      ((ixO s25 w.length).bind fun v6 =>
      (getO w v6).bind fun v7 =>
      (appO 32 s24 ([(T_wherryref01_node.mk v7 [s25])])).bind fun v8 =>
      some (.inl v8))
      (some (.inl s24)))
     (fun (s42 : (List T_wherryref01_node)) =>
      (some (IntKind.i64.wrap (s25 + 1))).bind fun v14 =>
      some (.inl (s42, v14))) some)
    (some (.inr (.inl s24))))
   BIG ([], 0))
  (fun (s33 : (List T_wherryref01_node)) =>
   bindS (S := (List Int)) (A := (List Int))
    (cond (((s33.length : Int) == 1))
     ((ixO 0 s33.length).bind fun v48 =>
     (getO s33 v48).bind fun v49 =>
     (ixO 0 v49.who.length).bind fun v50 =>
     (getO v49.who v50).bind fun v51 =>
     (ixO v51 v1.length).bind fun v52 =>
     (some (v1.set v52 1)).bind fun v53 =>
     some (.inl v53))
     (some (.inl v1)))
    (fun (s54 : (List Int)) =>
     bindS (S := ((List Int))) (A := (List Int))
      (loopF (S := ((List Int) × (List T_wherryref01_node))) (O := ((List Int)) ⊕ (List Int)) (fun ((s261, s262) : (List Int) × (List T_wherryref01_node)) =>
       cond ((decide (1 < (s262.length : Int))))
        ((wherryref01_least s262 (-1)).bind fun v60 =>
        (wherryref01_least s262 v60).bind fun v61 =>
        (ixO v60 s262.length).bind fun v62 =>
        (getO s262 v62).bind fun v63 =>
        (ixO v61 s262.length).bind fun v64 =>
        (getO s262 v64).bind fun v65 =>
        (some (IntKind.i64.wrap (v63.w + v65.w))).bind fun v66 =>
        (ixO v60 s262.length).bind fun v67 =>
        (getO s262 v67).bind fun v68 =>
        (appO 8 ([] : List Int) v68.who).bind fun v69 =>
        (ixO v61 s262.length).bind fun v70 =>
        (getO s262 v70).bind fun v71 =>
        (appO 8 v69 v71.who).bind fun v72 =>
        bindS (S := ((List Int))) (A := (((List Int) × (List T_wherryref01_node)) ⊕ (((List Int)) ⊕ (List Int))))
         (loopF (S := ((List Int) × Int)) (O := ((List Int)) ⊕ (((List Int) × (List T_wherryref01_node)) ⊕ (((List Int)) ⊕ (List Int)))) (fun ((s362, s363) : (List Int) × Int) =>
          cond ((decide (s363 < (v72.length : Int))))
           ((ixO s363 v72.length).bind fun v74 =>
           (getO v72 v74).bind fun v75 =>
           (ixO v75 s362.length).bind fun v76 =>
           (getO s362 v76).bind fun v77 =>
           (some (IntKind.i64.wrap (v77 + 1))).bind fun v78 =>
           (ixO v75 s362.length).bind fun v79 =>
           (some (s362.set v79 v78)).bind fun v80 =>
           (some (IntKind.i64.wrap (s363 + 1))).bind fun v81 =>
           some (.inl (v80, v81)))
           (some (.inr (.inl s362))))
          BIG (s261, 0))
         (fun (s365 : (List Int)) =>
          bindS (S := ((List T_wherryref01_node))) (A := (((List Int) × (List T_wherryref01_node)) ⊕ (((List Int)) ⊕ (List Int))))
           (loopF (S := ((List T_wherryref01_node) × Int)) (O := ((List T_wherryref01_node)) ⊕ (((List Int) × (List T_wherryref01_node)) ⊕ (((List Int)) ⊕ (List Int)))) (fun ((s405, s406) : (List T_wherryref01_node) × Int) =>
            cond ((decide (s406 < (s262.length : Int))))
             (bindS (S := (List T_wherryref01_node)) (A := (((List T_wherryref01_node) × Int) ⊕ (((List T_wherryref01_node)) ⊕ (((List Int) × (List T_wherryref01_node)) ⊕ (((List Int)) ⊕ (List Int))))))
              (bindS (S := Bool) (A := (((List T_wherryref01_node)) ⊕ (((List T_wherryref01_node) × Int) ⊕ (((List T_wherryref01_node)) ⊕ (((List Int) × (List T_wherryref01_node)) ⊕ (((List Int)) ⊕ (List Int)))))))
               (cond ((s406 != v60))
                (some (.inl (s406 != v61)))
                (some (.inl false)))
               (fun (s439 : Bool) =>
                cond (s439)
                 ((ixO s406 s262.length).bind fun v102 =>
                 (getO s262 v102).bind fun v103 =>
                 (appO 32 s405 [v103]).bind fun v104 =>
                 some (.inl v104))
                 (some (.inl s405))) some)
              (fun (s435 : (List T_wherryref01_node)) =>
               (some (IntKind.i64.wrap (s406 + 1))).bind fun v114 =>
               some (.inl (s435, v114))) some)
             (some (.inr (.inl s405))))
            BIG ([], 0))
           (fun (s422 : (List T_wherryref01_node)) =>
            (appO 32 s422 [(T_wherryref01_node.mk v66 v72)]).bind fun v171 =>
            some (.inl (s365, v171))) some) some)
        (some (.inr (.inl s261))))
       BIG (s54, s33))
      (fun (s350 : (List Int)) =>
       some (s350)) some) some) some

def wherryref01_Lengths (w : (List Int)) (limit : Int) : Option ((List Int) × Int) :=
 (wherryref01_rightWeights w).bind fun v1 =>
 cond ((!v1))
  (some (([], 1)))
  (bindS (S := (Int)) (A := ((List Int) × Int))
   (loopF (S := (Int × Int)) (O := (Int) ⊕ ((List Int) × Int)) (fun ((s23, s24) : Int × Int) =>
    cond ((decide (s24 < (w.length : Int))))
     (bindS (S := Int) (A := ((Int × Int) ⊕ ((Int) ⊕ ((List Int) × Int))))
      ((ixO s24 w.length).bind fun v4 =>
      (getO w v4).bind fun v5 =>
      cond ((decide (0 < v5)))
       ((some (IntKind.i64.wrap (s23 + 1))).bind fun v7 =>
       some (.inl v7))
       (some (.inl s23)))
      (fun (s41 : Int) =>
       (some (IntKind.i64.wrap (s24 + 1))).bind fun v13 =>
       some (.inl (s41, v13))) some)
     (some (.inr (.inl s23))))
    BIG (0, 0))
   (fun (s32 : Int) =>
    bindS (S := Bool) (A := ((List Int) × Int))
     ((wherryref01_in limit 9 15).bind fun v46 =>
     cond ((!v46))
      ((wherryref01_in limit 5 15).bind fun v47 =>
      cond (v47)
       (some (.inl ((!((decide (s32 ≤ 19)))))))
       (some (.inl true)))
      (some (.inl false)))
     (fun (s48 : Bool) =>
      cond (s48)
       (some (([], 1)))
       ((wherrykeep_TwinInts w).bind fun v53 =>
       bindS (S := (Unit)) (A := ((List Int) × Int))
        (loopF (S := ((List Int))) (O := (Unit) ⊕ ((List Int) × Int)) (fun (s129 : (List Int)) =>
         (wherryref01_lengths s129).bind fun v54 =>
         bindS (S := (Int)) (A := (((List Int)) ⊕ ((Unit) ⊕ ((List Int) × Int))))
          (loopF (S := (Int × Int)) (O := (Int) ⊕ (((List Int)) ⊕ ((Unit) ⊕ ((List Int) × Int)))) (fun ((s171, s172) : Int × Int) =>
           cond ((decide (s172 < (v54.length : Int))))
            ((ixO s172 v54.length).bind fun v56 =>
            (getO v54 v56).bind fun v57 =>
            (some (if v57 > s171 then v57 else s171)).bind fun v58 =>
            (some (IntKind.i64.wrap (s172 + 1))).bind fun v59 =>
            some (.inl (v58, v59)))
            (some (.inr (.inl s171))))
           BIG (0, 0))
          (fun (s174 : Int) =>
           cond ((decide (s174 ≤ limit)))
            (some (.inr (.inr ((v54, 0)))))
            (bindS (S := ((List Int))) (A := (((List Int)) ⊕ ((Unit) ⊕ ((List Int) × Int))))
             (loopF (S := ((List Int) × Int)) (O := ((List Int)) ⊕ (((List Int)) ⊕ ((Unit) ⊕ ((List Int) × Int)))) (fun ((s187, s188) : (List Int) × Int) =>
              cond ((decide (s188 < (s187.length : Int))))
               ((ixO s188 s187.length).bind fun v76 =>
               (getO s187 v76).bind fun v77 =>
               (some (IntKind.i64.wrap (v77 + 1))).bind fun v78 =>
               (quoO .i64 v78 2).bind fun v79 =>
               (ixO s188 s187.length).bind fun v80 =>
               (some (s187.set v80 v79)).bind fun v81 =>
               (some (IntKind.i64.wrap (s188 + 1))).bind fun v82 =>
               some (.inl (v81, v82)))
               (some (.inr (.inl s187))))
              BIG (s129, 0))
             (fun (s190 : (List Int)) =>
              some (.inl s190)) some)) some)
         BIG v53)
        (fun (() : Unit) =>
         none) some)) some) some)

def tree_Cost (weights : (List Int)) (lengths : (List Int)) : Option (Int × Int) :=
 cond (((weights.length : Int) != (lengths.length : Int)))
  (some ((0, 2)))
  ((tree_validWeights weights).bind fun v2 =>
  cond ((!v2))
   (some ((0, 1)))
   (bindS (S := (Int)) (A := (Int × Int))
    (loopF (S := (Int × Int)) (O := (Int) ⊕ (Int × Int)) (fun ((s25, s26) : Int × Int) =>
     cond ((decide (s26 < (lengths.length : Int))))
      ((ixO s26 lengths.length).bind fun v5 =>
      (getO lengths v5).bind fun v6 =>
      bindS (S := Bool) (A := ((Int × Int) ⊕ ((Int) ⊕ (Int × Int))))
       (cond ((decide (v6 < 0)))
        (some (.inl true))
        (some (.inl ((decide (15 < v6))))))
       (fun (s41 : Bool) =>
        cond (s41)
         (some (.inr (.inr ((0, 1)))))
         ((ixO s26 weights.length).bind fun v12 =>
         (getO weights v12).bind fun v13 =>
         (some (IntKind.i64.wrap (v13 * v6))).bind fun v14 =>
         (some (IntKind.i64.wrap (s25 + v14))).bind fun v15 =>
         (some (IntKind.i64.wrap (s26 + 1))).bind fun v16 =>
         some (.inl (v15, v16)))) some)
      (some (.inr (.inl s25))))
     BIG (0, 0))
    (fun (s33 : Int) =>
     some ((s33, 0))) some))

def wherryref01_RightLengths (l : (List Int)) : Option Bool :=
 cond ((decide (300 < (l.length : Int))))
  (some (false))
  (bindS (S := (Unit)) (A := Bool)
   (loopF (S := (Int)) (O := (Unit) ⊕ Bool) (fun (s11 : Int) =>
    cond ((decide (s11 < (l.length : Int))))
     ((ixO s11 l.length).bind fun v3 =>
     (getO l v3).bind fun v4 =>
     (wherryref01_in v4 0 15).bind fun v5 =>
     cond ((!v5))
      (some (.inr (.inr (false))))
      ((some (IntKind.i64.wrap (s11 + 1))).bind fun v7 =>
      some (.inl v7)))
     (some (.inr (.inl ()))))
    BIG 0)
   (fun (() : Unit) =>
    some (true)) some)

def wherryref01_Cost (w : (List Int)) (l : (List Int)) : Option (Int × Int) :=
 cond (((w.length : Int) != (l.length : Int)))
  (some ((0, 2)))
  (bindS (S := Bool) (A := (Int × Int))
   ((wherryref01_rightWeights w).bind fun v2 =>
   cond ((!v2))
    (some (.inl true))
    ((wherryref01_RightLengths l).bind fun v3 =>
    some (.inl (!v3))))
   (fun (s4 : Bool) =>
    cond (s4)
     (some ((0, 1)))
     (bindS (S := (Int)) (A := (Int × Int))
      (loopF (S := (Int × Int)) (O := (Int) ⊕ (Int × Int)) (fun ((s20, s21) : Int × Int) =>
       cond ((decide (s21 < (w.length : Int))))
        ((ixO s21 w.length).bind fun v10 =>
        (getO w v10).bind fun v11 =>
        (ixO s21 l.length).bind fun v12 =>
        (getO l v12).bind fun v13 =>
        (some (IntKind.i64.wrap (v11 * v13))).bind fun v14 =>
        (some (IntKind.i64.wrap (s20 + v14))).bind fun v15 =>
        (some (IntKind.i64.wrap (s21 + 1))).bind fun v16 =>
        some (.inl (v15, v16)))
        (some (.inr (.inl s20))))
       BIG (0, 0))
      (fun (s23 : Int) =>
       some ((s23, 0))) some)) some)

def wherrykeep_Ints (a : (List Int)) (b : (List Int)) : Option Bool :=
 cond (((a.length : Int) != (b.length : Int)))
  (some (false))
  (bindS (S := (Unit)) (A := Bool)
   (loopF (S := (Int)) (O := (Unit) ⊕ Bool) (fun (s12 : Int) =>
    cond ((decide (s12 < (a.length : Int))))
     ((ixO s12 a.length).bind fun v3 =>
     (getO a v3).bind fun v4 =>
     (ixO s12 b.length).bind fun v5 =>
     (getO b v5).bind fun v6 =>
     cond ((v4 != v6))
      (some (.inr (.inr (false))))
      ((some (IntKind.i64.wrap (s12 + 1))).bind fun v8 =>
      some (.inl v8)))
     (some (.inr (.inl ()))))
    BIG 0)
   (fun (() : Unit) =>
    some (true)) some)

def wherrylaw03_wakes : Option Bool :=
 (tree_Lengths [5, 1, 1, 2] 15).bind fun v1 =>
 (tree_Cost [5, 1, 1, 2] v1.1).bind fun v2 =>
 bindS (S := Bool) (A := Bool)
  (cond ((v1.2 == 0))
   (cond ((v2.2 == 0))
    ((wherrykeep_Ints v1.1 [1, 3, 3, 2]).bind fun v3 =>
    cond (v3)
     (some (.inl (v2.1 == 15)))
     (some (.inl false)))
    (some (.inl false)))
   (some (.inl false)))
  (fun (s4 : Bool) =>
   some (s4)) some

def wherrylaw03_TreeExact (w : (List Int)) (limit : Int) (l : (List Int)) : Option Bool :=
 bindS (S := Bool) (A := Bool)
  (cond ((decide (320 < (w.length : Int))))
   (some (.inl true))
   (some (.inl ((decide (320 < (l.length : Int)))))))
  (fun (s1 : Bool) =>
   cond (s1)
    (some (true))
    ((wherrykeep_TwinInts w).bind fun v6 =>
    (wherrykeep_TwinInts l).bind fun v7 =>
    (tree_Lengths v6 limit).bind fun v8 =>
    (wherryref01_Lengths w limit).bind fun v9 =>
    (tree_Cost v6 v7).bind fun v10 =>
    (wherryref01_Cost w l).bind fun v11 =>
    bindS (S := Bool) (A := Bool)
     (cond ((v8.2 != v9.2))
      (some (.inl true))
      ((wherrykeep_Ints v8.1 v9.1).bind fun v12 =>
      cond ((!v12))
       (some (.inl true))
       (cond ((v10.2 != v11.2))
        (some (.inl true))
        (some (.inl (v10.1 != v11.1))))))
     (fun (s13 : Bool) =>
      cond (s13)
       (some (false))
       (bindS (S := (Unit)) (A := Bool)
        (loopF (S := ((List Int) × Int)) (O := (Unit) ⊕ Bool) (fun ((s28, s29) : (List Int) × Int) =>
         cond ((decide (s29 < (s28.length : Int))))
          ((ixO s29 s28.length).bind fun v19 =>
          (getO s28 v19).bind fun v20 =>
          (some (IntKind.i64.wrap (v20 + 5))).bind fun v21 =>
          (ixO s29 s28.length).bind fun v22 =>
          (some (s28.set v22 v21)).bind fun v23 =>
          (some (IntKind.i64.wrap (s29 + 1))).bind fun v24 =>
          some (.inl (v23, v24)))
          (some (.inr (.inl ()))))
         BIG (v8.1, 0))
        (fun (() : Unit) =>
         bindS (S := Bool) (A := Bool)
          ((wherrykeep_Ints v6 w).bind fun v38 =>
          cond (v38)
           ((wherrykeep_Ints v7 l).bind fun v39 =>
           cond (v39)
            ((wherrylaw03_wakes ).bind fun v40 =>
            some (.inl v40))
            (some (.inl false)))
           (some (.inl false)))
          (fun (s41 : Bool) =>
           some (s41)) some) some)) some)) some

def canon_valid (lengths : (List Int)) : Option Bool :=
 cond ((decide (300 < (lengths.length : Int))))
  (some (false))
  (bindS (S := (Unit)) (A := Bool)
   (loopF (S := (Int)) (O := (Unit) ⊕ Bool) (fun (s18 : Int) =>
    cond ((decide (s18 < (lengths.length : Int))))
     ((ixO s18 lengths.length).bind fun v3 =>
     (getO lengths v3).bind fun v4 =>
     bindS (S := Bool) (A := ((Int) ⊕ ((Unit) ⊕ Bool)))
      (cond ((decide (v4 < 0)))
       (some (.inl true))
       (some (.inl ((decide (15 < v4))))))
      (fun (s32 : Bool) =>
       cond (s32)
        (some (.inr (.inr (false))))
        ((some (IntKind.i64.wrap (s18 + 1))).bind fun v10 =>
        some (.inl v10))) some)
     (some (.inr (.inl ()))))
    BIG 0)
   (fun (() : Unit) =>
    some (true)) some)

def canon_count (lengths : (List Int)) : Option (List Int) :=
 bindS (S := ((List Int))) (A := (List Int))
  (loopF (S := ((List Int) × Int)) (O := ((List Int)) ⊕ (List Int)) (fun ((s25, s26) : (List Int) × Int) =>
   cond ((decide (s26 < (lengths.length : Int))))
    (bindS (S := (List Int)) (A := (((List Int) × Int) ⊕ (((List Int)) ⊕ (List Int))))
     ((ixO s26 lengths.length).bind fun v2 =>
     (getO lengths v2).bind fun v3 =>
     cond ((decide (0 < v3)))
      ((ixO v3 16).bind fun v5 =>
      (getO s25 v5).bind fun v6 =>
      (some (IntKind.i64.wrap (v6 + 1))).bind fun v7 =>
      (ixO v3 16).bind fun v8 =>
      (setO s25 v8 v7).bind fun v9 =>
      some (.inl v9))
      (some (.inl s25)))
     (fun (s43 : (List Int)) =>
      (some (IntKind.i64.wrap (s26 + 1))).bind fun v15 =>
      some (.inl (s43, v15))) some)
    (some (.inr (.inl s25))))
   BIG (((List.replicate 16 (0 : Int)), 0)))
  (fun (s34 : (List Int)) =>
   (lnO 16 s34).bind fun v48 =>
   (lnO 16 ((List.replicate 16 (0 : Int)))).bind fun v49 =>
   (lnO 16 s34).bind fun v50 =>
   (lnO 16 s34).bind fun v51 =>
   some (s34)) some

def canon_tally_weight (c : (List Int)) : Option Int :=
 (lnO 16 c).bind fun v1 =>
 bindS (S := (Int)) (A := Int)
  (loopF (S := (Int × Int)) (O := (Int) ⊕ Int) (fun ((s12, s13) : Int × Int) =>
   cond ((decide (s13 < 16)))
    ((ixO s13 16).bind fun v3 =>
    (getO c v3).bind fun v4 =>
    (some (IntKind.i64.wrap (15 - s13))).bind fun v5 =>
    (shlO .i64 v4 v5).bind fun v6 =>
    (some (IntKind.i64.wrap (s12 + v6))).bind fun v7 =>
    (some (IntKind.i64.wrap (s13 + 1))).bind fun v8 =>
    some (.inl (v7, v8)))
    (some (.inr (.inl s12))))
   BIG (0, 0))
  (fun (s15 : Int) =>
   some (s15)) some

def canon_forms (c : (List Int)) : Option Bool :=
 (lnO 16 ((List.replicate 16 (0 : Int)))).bind fun v1 =>
 (lnO 16 (([(0 : Int), 1, (0 : Int), (0 : Int), (0 : Int), (0 : Int), (0 : Int), (0 : Int), (0 : Int), (0 : Int), (0 : Int), (0 : Int), (0 : Int), (0 : Int), (0 : Int), (0 : Int)] : List Int))).bind fun v2 =>
 bindS (S := Bool) (A := Bool)
  ((lnO 16 c).bind fun v3 =>
  (lnO 16 c).bind fun v4 =>
  (lnO 16 (([(0 : Int), (0 : Int), (0 : Int), (0 : Int), (0 : Int), (0 : Int), (0 : Int), (0 : Int), (0 : Int), (0 : Int), (0 : Int), (0 : Int), (0 : Int), (0 : Int), (0 : Int), (0 : Int)] : List Int))).bind fun v5 =>
  cond ((c == (([(0 : Int), (0 : Int), (0 : Int), (0 : Int), (0 : Int), (0 : Int), (0 : Int), (0 : Int), (0 : Int), (0 : Int), (0 : Int), (0 : Int), (0 : Int), (0 : Int), (0 : Int), (0 : Int)] : List Int))))
   (some (.inl true))
   ((lnO 16 c).bind fun v6 =>
   (lnO 16 (([(0 : Int), 1, (0 : Int), (0 : Int), (0 : Int), (0 : Int), (0 : Int), (0 : Int), (0 : Int), (0 : Int), (0 : Int), (0 : Int), (0 : Int), (0 : Int), (0 : Int), (0 : Int)] : List Int))).bind fun v7 =>
   (lnO 16 c).bind fun v8 =>
   (lnO 16 (([(0 : Int), 1, (0 : Int), (0 : Int), (0 : Int), (0 : Int), (0 : Int), (0 : Int), (0 : Int), (0 : Int), (0 : Int), (0 : Int), (0 : Int), (0 : Int), (0 : Int), (0 : Int)] : List Int))).bind fun v9 =>
   cond ((c == (([(0 : Int), 1, (0 : Int), (0 : Int), (0 : Int), (0 : Int), (0 : Int), (0 : Int), (0 : Int), (0 : Int), (0 : Int), (0 : Int), (0 : Int), (0 : Int), (0 : Int), (0 : Int)] : List Int))))
    (some (.inl true))
    ((lnO 16 c).bind fun v10 =>
    (canon_tally_weight c).bind fun v11 =>
    some (.inl (v11 == 32768)))))
  (fun (s12 : Bool) =>
   some (s12)) some

def canon_Check (lengths : (List Int)) : Option Int :=
 (canon_valid lengths).bind fun v1 =>
 cond ((!v1))
  (some (1))
  ((canon_count lengths).bind fun v3 =>
  (canon_forms v3).bind fun v4 =>
  cond ((!v4))
   (some (4))
   (some (0)))

def wherrylaw03_TreeMakes (w : (List Int)) (limit : Int) (i : Int) (k : Int) : Option Bool :=
 bindS (S := Bool) (A := Bool)
  (cond ((decide (300 < (w.length : Int))))
   (some (.inl true))
   (some (.inl (((w.length : Int) == 0)))))
  (fun (s1 : Bool) =>
   cond (s1)
    (some (true))
    ((tree_Lengths w limit).bind fun v6 =>
    cond ((v6.2 != 0))
     (bindS (S := Bool) (A := Bool)
      (cond ((v6.2 == 1))
       (cond (((v6.1.length : Int) == 0))
        ((wherrylaw03_wakes ).bind fun v8 =>
        some (.inl v8))
        (some (.inl false)))
       (some (.inl false)))
      (fun (s9 : Bool) =>
       some (s9)) some)
     (bindS (S := Bool) (A := Bool)
      (cond (((v6.1.length : Int) != (w.length : Int)))
       (some (.inl true))
       ((canon_Check v6.1).bind fun v13 =>
       some (.inl (v13 != 0))))
      (fun (s14 : Bool) =>
       cond (s14)
        (some (false))
        (bindS (S := (Unit)) (A := Bool)
         (loopF (S := (Int)) (O := (Unit) ⊕ Bool) (fun (s40 : Int) =>
          cond ((decide (s40 < (v6.1.length : Int))))
           (bindS (S := Bool) (A := ((Int) ⊕ ((Unit) ⊕ Bool)))
            ((ixO s40 v6.1.length).bind fun v20 =>
            (getO v6.1 v20).bind fun v21 =>
            (ixO s40 w.length).bind fun v22 =>
            (getO w v22).bind fun v23 =>
            (some (!(((decide (0 < v21))) == ((decide (0 < v23)))))).bind fun v24 =>
            cond ((!(((decide (0 < v21))) == ((decide (0 < v23))))))
             (some (.inl true))
             ((ixO s40 v6.1.length).bind fun v25 =>
             (getO v6.1 v25).bind fun v26 =>
             some (.inl ((decide (limit < v26))))))
            (fun (s54 : Bool) =>
             cond (s54)
              (some (.inr (.inr (false))))
              ((some (IntKind.i64.wrap (s40 + 1))).bind fun v32 =>
              some (.inl v32))) some)
           (some (.inr (.inl ()))))
          BIG 0)
         (fun (() : Unit) =>
          bindS (S := (Int)) (A := Bool)
           (loopF (S := (Int × Int)) (O := (Int) ⊕ Bool) (fun ((s68, s69) : Int × Int) =>
            cond ((decide (s69 < (w.length : Int))))
             ((ixO s69 w.length).bind fun v60 =>
             (getO w v60).bind fun v61 =>
             (some (IntKind.i64.wrap (s68 + v61))).bind fun v62 =>
             (some (if 1073741824 < v62 then 1073741824 else v62)).bind fun v63 =>
             (some (IntKind.i64.wrap (s69 + 1))).bind fun v64 =>
             some (.inl (v63, v64)))
             (some (.inr (.inl s68))))
            BIG (0, 0))
           (fun (s71 : Int) =>
            (wherryref01_Lengths w 15).bind fun v79 =>
            bindS (S := Bool) (A := Bool)
             (cond ((decide (2500 ≤ s71)))
              (some (.inl true))
              (cond ((v79.2 != 0))
               (some (.inl true))
               ((wherrykeep_Ints v79.1 v6.1).bind fun v80 =>
               some (.inl (!v80)))))
             (fun (s81 : Bool) =>
              cond (s81)
               ((wherrylaw03_wakes ).bind fun v86 =>
               some (v86))
               ((some (IntKind.u64.wrap i)).bind fun v87 =>
               (some (IntKind.u64.wrap (w.length : Int))).bind fun v88 =>
               (remO v87 v88).bind fun v89 =>
               (some (IntKind.i64.wrap v89)).bind fun v90 =>
               (some (IntKind.u64.wrap k)).bind fun v91 =>
               (some (IntKind.u64.wrap (w.length : Int))).bind fun v92 =>
               (remO v91 v92).bind fun v93 =>
               (some (IntKind.i64.wrap v93)).bind fun v94 =>
               bindS (S := Bool) (A := Bool)
                ((ixO v90 w.length).bind fun v95 =>
                (getO w v95).bind fun v96 =>
                (ixO v94 w.length).bind fun v97 =>
                (getO w v97).bind fun v98 =>
                cond ((decide (v96 ≤ v98)))
                 ((wherrylaw03_wakes ).bind fun v99 =>
                 some (.inl v99))
                 ((ixO v94 w.length).bind fun v100 =>
                 (getO w v100).bind fun v101 =>
                 cond ((v101 == 0))
                  ((wherrylaw03_wakes ).bind fun v102 =>
                  some (.inl v102))
                  ((ixO v90 v6.1.length).bind fun v103 =>
                  (getO v6.1 v103).bind fun v104 =>
                  (ixO v94 v6.1.length).bind fun v105 =>
                  (getO v6.1 v105).bind fun v106 =>
                  cond ((decide (v104 ≤ v106)))
                   ((wherrylaw03_wakes ).bind fun v107 =>
                   some (.inl v107))
                   (some (.inl false)))))
                (fun (s108 : Bool) =>
                 some (s108)) some)) some) some) some)) some))) some

def wherrylaw03_TreeLeast (a : Int) (b : Int) (c : Int) (other : (List Int)) : Option Bool :=
 (some (IntKind.u64.wrap a)).bind fun v1 =>
 (remO v1 1000).bind fun v2 =>
 (some (IntKind.i64.wrap v2)).bind fun v3 =>
 (some (IntKind.i64.wrap (1 + v3))).bind fun v4 =>
 (some (IntKind.u64.wrap b)).bind fun v5 =>
 (remO v5 1000).bind fun v6 =>
 (some (IntKind.i64.wrap v6)).bind fun v7 =>
 (some (IntKind.i64.wrap (1 + v7))).bind fun v8 =>
 (some (IntKind.u64.wrap c)).bind fun v9 =>
 (remO v9 1000).bind fun v10 =>
 (some (IntKind.i64.wrap v10)).bind fun v11 =>
 (some (IntKind.i64.wrap (1 + v11))).bind fun v12 =>
 (tree_Lengths [v4, v8, v12] 15).bind fun v13 =>
 (tree_Cost [v4, v8, v12] v13.1).bind fun v14 =>
 (tree_Lengths [0, v4, 0] 15).bind fun v15 =>
 bindS (S := Bool) (A := Bool)
  (cond ((v13.2 != 0))
   (some (.inl true))
   (cond ((v14.2 != 0))
    (some (.inl true))
    (cond ((v15.2 != 0))
     (some (.inl true))
     ((wherrykeep_Ints v15.1 [0, 1, 0]).bind fun v16 =>
     cond ((!v16))
      (some (.inl true))
      ((some (IntKind.i64.wrap (v4 + v8))).bind fun v17 =>
      (some (IntKind.i64.wrap (v17 + v12))).bind fun v18 =>
      (some (IntKind.i64.wrap (v18 + v4))).bind fun v19 =>
      (some (IntKind.i64.wrap (v19 + v8))).bind fun v20 =>
      (some (IntKind.i64.wrap (v20 + v12))).bind fun v21 =>
      (some (if v12 > v8 then v12 else v8)).bind fun v22 =>
      (some (if v22 > v4 then v22 else v4)).bind fun v23 =>
      (some (IntKind.i64.wrap (v21 - v23))).bind fun v24 =>
      some (.inl (v14.1 != v24)))))))
  (fun (s25 : Bool) =>
   cond (s25)
    (some (false))
    (bindS (S := Bool) (A := Bool)
     (cond (((other.length : Int) != 3))
      (some (.inl true))
      ((ixO 0 other.length).bind fun v30 =>
      (getO other v30).bind fun v31 =>
      cond ((decide (v31 < 1)))
       (some (.inl true))
       ((ixO 1 other.length).bind fun v32 =>
       (getO other v32).bind fun v33 =>
       cond ((decide (v33 < 1)))
        (some (.inl true))
        ((ixO 2 other.length).bind fun v34 =>
        (getO other v34).bind fun v35 =>
        cond ((decide (v35 < 1)))
         (some (.inl true))
         ((canon_Check other).bind fun v36 =>
         some (.inl (v36 != 0)))))))
     (fun (s37 : Bool) =>
      cond (s37)
       ((wherrylaw03_wakes ).bind fun v42 =>
       some (v42))
       ((tree_Cost [v4, v8, v12] other).bind fun v43 =>
       bindS (S := Bool) (A := Bool)
        (cond ((v43.2 == 0))
         (cond ((decide (v14.1 ≤ v43.1)))
          ((wherrylaw03_wakes ).bind fun v44 =>
          some (.inl v44))
          (some (.inl false)))
         (some (.inl false)))
        (fun (s45 : Bool) =>
         some (s45)) some)) some)) some

def wherrylaw03_TreeDeep (n : Int) (limit : Int) : Option Bool :=
 (some (IntKind.u64.wrap n)).bind fun v1 =>
 (remO v1 26).bind fun v2 =>
 (some (IntKind.i64.wrap v2)).bind fun v3 =>
 (some (IntKind.i64.wrap (2 + v3))).bind fun v4 =>
 (some (IntKind.u64.wrap limit)).bind fun v5 =>
 (remO v5 7).bind fun v6 =>
 (some (IntKind.i64.wrap v6)).bind fun v7 =>
 (some (IntKind.i64.wrap (9 + v7))).bind fun v8 =>
 bindS (S := ((List Int))) (A := Bool)
  (loopF (S := (Int × Int × (List Int) × Int)) (O := ((List Int)) ⊕ Bool) (fun ((s22, s23, s24, s25) : Int × Int × (List Int) × Int) =>
   cond ((decide (s25 < v4)))
    ((appO 8 s24 [s22]).bind fun v10 =>
    (some (IntKind.i64.wrap (s22 + s23))).bind fun v11 =>
    (some (IntKind.i64.wrap (s25 + 1))).bind fun v12 =>
    some (.inl (s23, v11, v10, v12)))
    (some (.inr (.inl s24))))
   BIG (1, 1, [], 0))
  (fun (s27 : (List Int)) =>
   (tree_Lengths s27 v8).bind fun v35 =>
   bindS (S := Bool) (A := Bool)
    (cond ((v35.2 != 0))
     (some (.inl true))
     (cond (((v35.1.length : Int) != v4))
      (some (.inl true))
      ((canon_Check v35.1).bind fun v36 =>
      some (.inl (v36 != 0)))))
    (fun (s37 : Bool) =>
     cond (s37)
      (some (false))
      (bindS (S := (Int)) (A := Bool)
       (loopF (S := (Int × Int)) (O := (Int) ⊕ Bool) (fun ((s50, s51) : Int × Int) =>
        cond ((decide (s51 < v4)))
         ((ixO s51 v35.1.length).bind fun v43 =>
         (getO v35.1 v43).bind fun v44 =>
         (some (if v44 > s50 then v44 else s50)).bind fun v45 =>
         (some (IntKind.i64.wrap (s51 + 1))).bind fun v46 =>
         some (.inl (v45, v46)))
         (some (.inr (.inl s50))))
        BIG (0, 0))
       (fun (s53 : Int) =>
        bindS (S := Bool) (A := Bool)
         ((some (IntKind.i64.wrap (v4 - 1))).bind fun v61 =>
         cond ((decide (v8 < v61)))
          (cond ((decide (s53 ≤ v8)))
           ((wherrylaw03_wakes ).bind fun v62 =>
           some (.inl v62))
           (some (.inl false)))
          ((some (IntKind.i64.wrap (v4 - 1))).bind fun v63 =>
          cond ((s53 == v63))
           (cond ((decide (s53 ≤ v8)))
            ((wherrylaw03_wakes ).bind fun v64 =>
            some (.inl v64))
            (some (.inl false)))
           (some (.inl false))))
         (fun (s65 : Bool) =>
          some (s65)) some) some)) some) some

def wherrylaw03_TreeEven (k : Int) (w : Int) : Option Bool :=
 (some (IntKind.u64.wrap k)).bind fun v1 =>
 (remO v1 9).bind fun v2 =>
 (some (IntKind.i64.wrap v2)).bind fun v3 =>
 (some (IntKind.u64.wrap w)).bind fun v4 =>
 (remO v4 1000).bind fun v5 =>
 (some (IntKind.i64.wrap v5)).bind fun v6 =>
 (some (IntKind.i64.wrap (1 + v6))).bind fun v7 =>
 bindS (S := ((List Int))) (A := Bool)
  (loopF (S := ((List Int) × Int)) (O := ((List Int)) ⊕ Bool) (fun ((s16, s17) : (List Int) × Int) =>
   (some (IntKind.u64.wrap v3)).bind fun v8 =>
   (shlO .i64 1 v8).bind fun v9 =>
   cond ((decide (s17 < v9)))
    ((appO 8 s16 [v7]).bind fun v11 =>
    (some (IntKind.i64.wrap (s17 + 1))).bind fun v12 =>
    some (.inl (v11, v12)))
    (some (.inr (.inl s16))))
   BIG ([], 0))
  (fun (s19 : (List Int)) =>
   (tree_Lengths s19 15).bind fun v27 =>
   bindS (S := Bool) (A := Bool)
    (cond ((v27.2 != 0))
     (some (.inl true))
     (some (.inl (((v27.1.length : Int) != (s19.length : Int))))))
    (fun (s28 : Bool) =>
     cond (s28)
      (some (false))
      (bindS (S := (Unit)) (A := Bool)
       (loopF (S := (Int)) (O := (Unit) ⊕ Bool) (fun (s42 : Int) =>
        cond ((decide (s42 < (v27.1.length : Int))))
         ((ixO s42 v27.1.length).bind fun v34 =>
         (getO v27.1 v34).bind fun v35 =>
         (some (if 1 > v3 then 1 else v3)).bind fun v36 =>
         cond ((v35 != v36))
          (some (.inr (.inr (false))))
          ((some (IntKind.i64.wrap (s42 + 1))).bind fun v38 =>
          some (.inl v38)))
         (some (.inr (.inl ()))))
        BIG 0)
       (fun (() : Unit) =>
        (wherrylaw03_wakes ).bind fun v53 =>
        some (v53)) some)) some) some

def wherrylaw03_TreeScales (w : (List Int)) (by_ : Int) : Option Bool :=
 cond ((decide (60 < (w.length : Int))))
  (some (true))
  ((some (IntKind.u64.wrap by_)).bind fun v2 =>
  (remO v2 20).bind fun v3 =>
  (some (IntKind.i64.wrap v3)).bind fun v4 =>
  (some (IntKind.i64.wrap (1 + v4))).bind fun v5 =>
  bindS (S := (Int × (List Int))) (A := Bool)
   (loopF (S := (Int × (List Int) × Int)) (O := (Int × (List Int)) ⊕ Bool) (fun ((s33, s34, s35) : Int × (List Int) × Int) =>
    cond ((decide (s35 < (w.length : Int))))
     (bindS (S := Bool) (A := ((Int × (List Int) × Int) ⊕ ((Int × (List Int)) ⊕ Bool)))
      ((ixO s35 w.length).bind fun v7 =>
      (getO w v7).bind fun v8 =>
      cond ((decide (v8 < 0)))
       (some (.inl true))
       ((ixO s35 w.length).bind fun v9 =>
       (getO w v9).bind fun v10 =>
       some (.inl ((decide (1000 < v10))))))
      (fun (s51 : Bool) =>
       cond (s51)
        (some (.inr (.inr (true))))
        ((ixO s35 w.length).bind fun v16 =>
        (getO w v16).bind fun v17 =>
        (some (IntKind.i64.wrap (s33 + v17))).bind fun v18 =>
        (ixO s35 w.length).bind fun v19 =>
        (getO w v19).bind fun v20 =>
        (some (IntKind.i64.wrap (v5 * v20))).bind fun v21 =>
        (appO 8 s34 [v21]).bind fun v22 =>
        (some (IntKind.i64.wrap (s35 + 1))).bind fun v23 =>
        some (.inl (v18, v22, v23)))) some)
     (some (.inr (.inl (s33, s34)))))
    BIG (0, [], 0))
   (fun ((s42, s43) : Int × (List Int)) =>
    cond ((decide (1500 ≤ s42)))
     (some (true))
     ((tree_Lengths w 15).bind fun v57 =>
     (tree_Lengths s43 15).bind fun v58 =>
     bindS (S := Bool) (A := Bool)
      (cond ((v57.2 == 0))
       (cond ((v58.2 == 0))
        ((wherrykeep_Ints v57.1 v58.1).bind fun v59 =>
        cond (v59)
         ((wherrylaw03_wakes ).bind fun v60 =>
         some (.inl v60))
         (some (.inl false)))
        (some (.inl false)))
       (some (.inl false)))
      (fun (s61 : Bool) =>
       some (s61)) some)) some)

def wherrylaw03_TreeNoughts (w : (List Int)) (at_ : Int) : Option Bool :=
 cond ((decide (290 < (w.length : Int))))
  (some (true))
  ((some (IntKind.u64.wrap at_)).bind fun v2 =>
  (some (IntKind.i64.wrap ((w.length : Int) + 1))).bind fun v3 =>
  (some (IntKind.u64.wrap v3)).bind fun v4 =>
  (remO v2 v4).bind fun v5 =>
  (some (IntKind.i64.wrap v5)).bind fun v6 =>
  (sliO w 0 v6).bind fun v7 =>
  (appO 8 ([] : List Int) v7).bind fun v8 =>
  (appO 8 v8 [0]).bind fun v9 =>
  (sliO w v6 (w.length : Int)).bind fun v10 =>
  (appO 8 v9 v10).bind fun v11 =>
  (tree_Lengths w 15).bind fun v12 =>
  (tree_Lengths v11 15).bind fun v13 =>
  cond ((v12.2 != v13.2))
   (some (false))
   (cond ((v12.2 != 0))
    ((wherrylaw03_wakes ).bind fun v16 =>
    some (v16))
    (bindS (S := Bool) (A := Bool)
     ((some (IntKind.i64.wrap ((v12.1.length : Int) + 1))).bind fun v17 =>
     cond (((v13.1.length : Int) != v17))
      (some (.inl true))
      ((ixO v6 v13.1.length).bind fun v18 =>
      (getO v13.1 v18).bind fun v19 =>
      some (.inl (v19 != 0))))
     (fun (s20 : Bool) =>
      cond (s20)
       (some (false))
       (bindS (S := Bool) (A := Bool)
        ((sliO v13.1 0 v6).bind fun v25 =>
        (wherrykeep_TwinInts v25).bind fun v26 =>
        (some (IntKind.i64.wrap (v6 + 1))).bind fun v27 =>
        (sliO v13.1 v27 (v13.1.length : Int)).bind fun v28 =>
        (appO 8 v26 v28).bind fun v29 =>
        (wherrykeep_Ints v29 v12.1).bind fun v30 =>
        cond (v30)
         ((wherrylaw03_wakes ).bind fun v31 =>
         some (.inl v31))
         (some (.inl false)))
        (fun (s32 : Bool) =>
         some (s32)) some)) some)))

def wherrylaw03_TreeCosts (w : (List Int)) (l : (List Int)) (v : (List Int)) (k : (List Int)) : Option Bool :=
 bindS (S := Bool) (A := Bool)
  (cond ((decide (100 < (w.length : Int))))
   (some (.inl true))
   (cond ((decide (100 < (v.length : Int))))
    (some (.inl true))
    (cond ((decide (100 < (l.length : Int))))
     (some (.inl true))
     (some (.inl ((decide (100 < (k.length : Int)))))))))
  (fun (s1 : Bool) =>
   cond (s1)
    (some (true))
    ((tree_Cost w l).bind fun v6 =>
    (tree_Cost v k).bind fun v7 =>
    bindS (S := Bool) (A := Bool)
     (cond ((v6.2 != 0))
      (some (.inl true))
      (some (.inl (v7.2 != 0))))
     (fun (s8 : Bool) =>
      cond (s8)
       (bindS (S := Bool) (A := Bool)
        (cond ((v6.2 == 0))
         (cond ((v7.2 == 0))
          ((wherrylaw03_wakes ).bind fun v13 =>
          some (.inl v13))
          (cond ((v7.1 == 0))
           ((wherrylaw03_wakes ).bind fun v14 =>
           some (.inl v14))
           (some (.inl false))))
         (cond ((v6.1 == 0))
          (cond ((v7.2 == 0))
           ((wherrylaw03_wakes ).bind fun v15 =>
           some (.inl v15))
           (cond ((v7.1 == 0))
            ((wherrylaw03_wakes ).bind fun v16 =>
            some (.inl v16))
            (some (.inl false))))
          (some (.inl false))))
        (fun (s17 : Bool) =>
         some (s17)) some)
       ((wherrykeep_TwinInts w).bind fun v21 =>
       (appO 8 v21 v).bind fun v22 =>
       (wherrykeep_TwinInts l).bind fun v23 =>
       (appO 8 v23 k).bind fun v24 =>
       (tree_Cost v22 v24).bind fun v25 =>
       (wherrykeep_TwinInts w).bind fun v26 =>
       (appO 8 v26 [1]).bind fun v27 =>
       (tree_Cost v27 l).bind fun v28 =>
       bindS (S := Bool) (A := Bool)
        (cond ((v25.2 == 0))
         ((some (IntKind.i64.wrap (v6.1 + v7.1))).bind fun v29 =>
         cond ((v25.1 == v29))
          (cond ((v28.2 == 2))
           ((wherrylaw03_wakes ).bind fun v30 =>
           some (.inl v30))
           (some (.inl false)))
          (some (.inl false)))
         (some (.inl false)))
        (fun (s31 : Bool) =>
         some (s31)) some)) some)) some

end Go.Abs.Sh
