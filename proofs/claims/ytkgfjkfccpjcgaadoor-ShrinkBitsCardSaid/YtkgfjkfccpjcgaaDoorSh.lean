/-
 The program told in Lean: plain functions; none where Go would panic or a slice outgrow its room.
-/
import Derived.Test.YtkgfjkfccpjcgaaDoorAN
import Derived.Test.YtkgfjkfccpjcgaaDoorB4
import Derived.Test.YtkgfjkfccpjcgaaDoorB8
set_option linter.unusedVariables false
namespace Go.Abs.Sh

structure T_Tok where
 Byte : Int
 Len : Int
 Dist : Int
 deriving DecidableEq, Inhabited
def T_Tok.enc (x : T_Tok) : List Value := [.int .u8 x.Byte, .int .i64 x.Len, .int .i64 x.Dist]
theorem T_Tok.len (x : T_Tok) : (T_Tok.enc x).length = 3 := rfl
def T_Tok.wf (x : T_Tok) : Prop := wfI .u8 x.Byte ∧ wfI .i64 x.Len ∧ wfI .i64 x.Dist
def T_Tok.wz (x : T_Tok) : Prop := (wfI .u8) x.Byte ∧ (wfI .i64) x.Len ∧ (wfI .i64) x.Dist

structure T_match_index where
 b : (List Int)
 last : (List ((List Int) × Int))
 back : (List Int)
 from_ : Int
 deriving DecidableEq, Inhabited

structure T_shrink_writer where
 b : (List Int)
 n : Int
 deriving DecidableEq, Inhabited
def T_shrink_writer.ienc (x : T_shrink_writer) : List IC := [.row 1 (List.map IC.v (List.map (Value.int .u8) x.b)), .v (.int .i64 x.n)]
theorem T_shrink_writer.ilen (x : T_shrink_writer) : (T_shrink_writer.ienc x).length = 2 := rfl
def T_shrink_writer.wf (x : T_shrink_writer) : Prop := wfL (wfI .u8) x.b ∧ wfI .i64 x.n
def T_shrink_writer.wz (x : T_shrink_writer) : Prop := (wzL 1 (wfI .u8)) x.b ∧ (wfI .i64) x.n

structure T_shrink_code where
 lengths : (List Int)
 codes : (List Int)
 deriving DecidableEq, Inhabited
def T_shrink_code.ienc (x : T_shrink_code) : List IC := [.row 1 (List.map IC.v (List.map (Value.int .i64) x.lengths)), .row 1 (List.map IC.v (List.map (Value.int .i64) x.codes))]
theorem T_shrink_code.ilen (x : T_shrink_code) : (T_shrink_code.ienc x).length = 2 := rfl
def T_shrink_code.wf (x : T_shrink_code) : Prop := wfL (wfI .i64) x.lengths ∧ wfL (wfI .i64) x.codes
def T_shrink_code.wz (x : T_shrink_code) : Prop := (wzL 8 (wfI .i64)) x.lengths ∧ (wzL 8 (wfI .i64)) x.codes

structure T_sym_scale where
 least : Int
 singles : Int
 group : Int
 deriving DecidableEq, Inhabited
def T_sym_scale.enc (x : T_sym_scale) : List Value := [.int .i64 x.least, .int .i64 x.singles, .int .i64 x.group]
theorem T_sym_scale.len (x : T_sym_scale) : (T_sym_scale.enc x).length = 3 := rfl
def T_sym_scale.wf (x : T_sym_scale) : Prop := wfI .i64 x.least ∧ wfI .i64 x.singles ∧ wfI .i64 x.group
def T_sym_scale.wz (x : T_sym_scale) : Prop := (wfI .i64) x.least ∧ (wfI .i64) x.singles ∧ (wfI .i64) x.group

structure T_tree_node where
 weight : Int
 parent : Int
 deriving DecidableEq, Inhabited
def T_tree_node.ienc (x : T_tree_node) : List IC := [.v (.int .i64 x.weight), .v (.int .i64 x.parent)]
theorem T_tree_node.ilen (x : T_tree_node) : (T_tree_node.ienc x).length = 2 := rfl
def T_tree_node.wf (x : T_tree_node) : Prop := wfI .i64 x.weight ∧ wfI .i64 x.parent
def T_tree_node.wz (x : T_tree_node) : Prop := (wfI .i64) x.weight ∧ (wfI .i64) x.parent

def wherryref01_in (n : Int) (lo : Int) (hi : Int) : Option Bool :=
 bindS (S := Bool) (A := Bool)
  (cond ((decide (lo ≤ n)))
   (some (.inl ((decide (n ≤ hi)))))
   (some (.inl false)))
  (fun (s1 : Bool) =>
   some (s1)) some

def wherryref01_Best (b : (List Int)) (at_ : Int) : Option (Int × Int) :=
 bindS (S := Bool) (A := (Int × Int))
  (cond ((decide (4096 < (b.length : Int))))
   (some (.inl true))
   ((some (IntKind.i64.wrap ((b.length : Int) - 1))).bind fun v1 =>
   (wherryref01_in at_ 0 v1).bind fun v2 =>
   some (.inl (!v2))))
  (fun (s3 : Bool) =>
   cond (s3)
    (some ((0, 0)))
    (bindS (S := (Int × Int)) (A := (Int × Int))
     (loopF (S := (Int × Int × Int)) (O := (Int × Int) ⊕ (Int × Int)) (fun ((s161, s162, s163) : Int × Int × Int) =>
      bindS (S := Bool) (A := ((Int × Int × Int) ⊕ ((Int × Int) ⊕ (Int × Int))))
       (cond ((decide (s163 ≤ at_)))
        (some (.inl ((decide (s163 ≤ 2048)))))
        (some (.inl false)))
       (fun (s242 : Bool) =>
        cond (s242)
         (bindS (S := Int × Int) (A := ((Int × Int × Int) ⊕ ((Int × Int) ⊕ (Int × Int))))
          (bindS (S := (Int)) (A := ((Int × Int) ⊕ ((Int × Int × Int) ⊕ ((Int × Int) ⊕ (Int × Int)))))
           (loopF (S := (Int)) (O := (Int) ⊕ ((Int × Int) ⊕ ((Int × Int × Int) ⊕ ((Int × Int) ⊕ (Int × Int))))) (fun (s293 : Int) =>
            bindS (S := Bool) (A := ((Int) ⊕ ((Int) ⊕ ((Int × Int) ⊕ ((Int × Int × Int) ⊕ ((Int × Int) ⊕ (Int × Int)))))))
             (cond ((decide (s293 < 258)))
              ((some (IntKind.i64.wrap (at_ + s293))).bind fun v13 =>
              cond ((decide (v13 < (b.length : Int))))
               ((some (IntKind.i64.wrap (at_ + s293))).bind fun v14 =>
               (ixO v14 b.length).bind fun v15 =>
               (getO b v15).bind fun v16 =>
               (some (IntKind.i64.wrap (at_ + s293))).bind fun v17 =>
               (some (IntKind.i64.wrap (v17 - s163))).bind fun v18 =>
               (ixO v18 b.length).bind fun v19 =>
               (getO b v19).bind fun v20 =>
               some (.inl (v16 == v20)))
               (some (.inl false)))
              (some (.inl false)))
             (fun (s306 : Bool) =>
              cond (s306)
               ((some (IntKind.i64.wrap (s293 + 1))).bind fun v26 =>
               some (.inl v26))
               (some (.inr (.inl s293)))) some)
            BIG 0)
           (fun (s299 : Int) =>
            cond ((decide (s161 < s299)))
             (some (.inl (s299, s163)))
             (some (.inl (s161, s162)))) some)
          (fun ((s277, s278) : Int × Int) =>
           (some (IntKind.i64.wrap (s163 + 1))).bind fun v87 =>
           some (.inl (s277, s278, v87))) some)
         (some (.inr (.inl (s161, s162))))) some)
      BIG (0, 0, 1))
     (fun ((s234, s235) : Int × Int) =>
      cond ((decide (s234 < 3)))
       (some ((0, 0)))
       (some ((s234, s235)))) some)) some

def wherryref01_tokens (b : (List Int)) : Option (List T_Tok) :=
 bindS (S := ((List T_Tok))) (A := (List T_Tok))
  (loopF (S := ((List T_Tok) × Int)) (O := ((List T_Tok)) ⊕ (List T_Tok)) (fun ((s26, s27) : (List T_Tok) × Int) =>
   cond ((decide (s27 < (b.length : Int))))
    (bindS (S := (List T_Tok) × Int) (A := (((List T_Tok) × Int) ⊕ (((List T_Tok)) ⊕ (List T_Tok))))
     ((wherryref01_Best b s27).bind fun v2 =>
     cond ((v2.1 == 0))
      ((ixO s27 b.length).bind fun v4 =>
      (getO b v4).bind fun v5 =>
      (appO 24 s26 [(T_Tok.mk v5 0 0)]).bind fun v6 =>
      (some (IntKind.i64.wrap (s27 + 1))).bind fun v7 =>
      some (.inl (v6, v7)))
      ((appO 24 s26 [(T_Tok.mk 0 v2.1 v2.2)]).bind fun v8 =>
      (some (IntKind.i64.wrap (s27 + v2.1))).bind fun v9 =>
      some (.inl (v8, v9))))
     (fun ((s45, s46) : (List T_Tok) × Int) =>
      some (.inl (s45, s46))) some)
    (some (.inr (.inl s26))))
   BIG ([], 0))
  (fun (s36 : (List T_Tok)) =>
   some (s36)) some

def wherryref01_Tokens (b : (List Int)) : Option ((List T_Tok) × Int) :=
 cond ((decide (4096 < (b.length : Int))))
  (some (([], 2)))
  ((wherryref01_tokens b).bind fun v2 =>
  some ((v2, 0)))

def wherryref01_CheckToks (l : (List T_Tok)) : Option Int :=
 bindS (S := (Bool)) (A := Int)
  (loopF (S := (Int × Bool × Int)) (O := (Bool) ⊕ Int) (fun ((s78, s79, s80) : Int × Bool × Int) =>
   cond ((decide (s80 < (l.length : Int))))
    (bindS (S := Int) (A := ((Int × Bool × Int) ⊕ ((Bool) ⊕ Int)))
     (bindS (S := Bool) (A := (Int ⊕ ((Int × Bool × Int) ⊕ ((Bool) ⊕ Int))))
      ((ixO s80 l.length).bind fun v2 =>
      (getO l v2).bind fun v3 =>
      cond ((v3.Len == 0))
       ((ixO s80 l.length).bind fun v4 =>
       (getO l v4).bind fun v5 =>
       some (.inl (v5.Dist == 0)))
       (some (.inl false)))
      (fun (s132 : Bool) =>
       cond (s132)
        ((some (IntKind.i64.wrap (s78 + 1))).bind fun v11 =>
        some (.inl v11))
        (bindS (S := Bool) (A := (Int ⊕ ((Int × Bool × Int) ⊕ ((Bool) ⊕ Int))))
         ((ixO s80 l.length).bind fun v12 =>
         (getO l v12).bind fun v13 =>
         cond ((v13.Byte != 0))
          (some (.inl true))
          ((ixO s80 l.length).bind fun v14 =>
          (getO l v14).bind fun v15 =>
          (wherryref01_in v15.Len 3 258).bind fun v16 =>
          cond ((!v16))
           (some (.inl true))
           ((ixO s80 l.length).bind fun v17 =>
           (getO l v17).bind fun v18 =>
           (wherryref01_in v18.Dist 1 2048).bind fun v19 =>
           cond ((!v19))
            (some (.inl true))
            ((ixO s80 l.length).bind fun v20 =>
            (getO l v20).bind fun v21 =>
            some (.inl ((decide (s78 < v21.Dist))))))))
         (fun (s137 : Bool) =>
          cond (s137)
           (some (.inr (.inr (.inr (1)))))
           ((ixO s80 l.length).bind fun v27 =>
           (getO l v27).bind fun v28 =>
           (some (IntKind.i64.wrap (s78 + v28.Len))).bind fun v29 =>
           some (.inl v29))) some)) some)
     (fun (s128 : Int) =>
      bindS (S := Bool) (A := ((Int × Bool × Int) ⊕ ((Bool) ⊕ Int)))
       (cond (s79)
        (some (.inl true))
        (some (.inl ((decide (4096 < s128))))))
       (fun (s142 : Bool) =>
        (some (if 8192 < s128 then 8192 else s128)).bind fun v44 =>
        (some (IntKind.i64.wrap (s80 + 1))).bind fun v45 =>
        some (.inl (v44, s142, v45))) some) some)
    (some (.inr (.inl s79))))
   BIG (0, false, 0))
  (fun (s110 : Bool) =>
   cond (s110)
    (some (2))
    (some (0))) some

def wherryref01_LenOf (sym : Int) : Option (Int × Int × Int) :=
 (wherryref01_in sym 257 285).bind fun v1 =>
 cond ((!v1))
  (some ((0, 0, 1)))
  (cond ((decide (sym < 265)))
   ((some (IntKind.i64.wrap (sym - 254))).bind fun v4 =>
   some ((v4, 0, 0)))
   (cond ((sym == 285))
    (some ((258, 0, 0)))
    ((some (IntKind.i64.wrap (sym - 261))).bind fun v6 =>
    (quoO .i64 v6 4).bind fun v7 =>
    (some (IntKind.i64.wrap (sym - 265))).bind fun v8 =>
    (remO v8 4).bind fun v9 =>
    (some (IntKind.i64.wrap (4 + v9))).bind fun v10 =>
    (some (IntKind.u64.wrap v7)).bind fun v11 =>
    (shlO .i64 v10 v11).bind fun v12 =>
    (some (IntKind.i64.wrap (3 + v12))).bind fun v13 =>
    some ((v13, v7, 0)))))

def wherryref01_leastLen (sym : Int) : Option Int :=
 (wherryref01_LenOf sym).bind fun v1 =>
 some (v1.1)

def wherryref01_Len (n : Int) : Option (Int × Int × Int × Int) :=
 (wherryref01_in n 3 258).bind fun v1 =>
 cond ((!v1))
  (some ((0, 0, 0, 1)))
  (bindS (S := (Int)) (A := (Int × Int × Int × Int))
   (loopF (S := (Int)) (O := (Int) ⊕ (Int × Int × Int × Int)) (fun (s17 : Int) =>
    bindS (S := Bool) (A := ((Int) ⊕ ((Int) ⊕ (Int × Int × Int × Int))))
     (cond ((decide (n < 258)))
      (cond ((s17 == 285))
       (some (.inl true))
       (cond ((decide (s17 < 285)))
        ((wherryref01_leastLen s17).bind fun v3 =>
        some (.inl ((decide (n < v3)))))
        (some (.inl false))))
      (cond ((decide (s17 < 285)))
       ((wherryref01_leastLen s17).bind fun v4 =>
       some (.inl ((decide (n < v4)))))
       (some (.inl false))))
     (fun (s30 : Bool) =>
      cond (s30)
       ((some (IntKind.i64.wrap (s17 - 1))).bind fun v10 =>
       some (.inl v10))
       (some (.inr (.inl s17)))) some)
    BIG 285)
   (fun (s23 : Int) =>
    (wherryref01_LenOf s23).bind fun v35 =>
    (some (IntKind.i64.wrap (n - v35.1))).bind fun v36 =>
    some ((s23, v35.2.1, v36, 0))) some)

def wherryref01_DistOf (sym : Int) : Option (Int × Int × Int) :=
 (wherryref01_in sym 0 29).bind fun v1 =>
 cond ((!v1))
  (some ((0, 0, 1)))
  (cond ((decide (sym < 4)))
   ((some (IntKind.i64.wrap (sym + 1))).bind fun v4 =>
   some ((v4, 0, 0)))
   ((some (IntKind.i64.wrap (sym - 2))).bind fun v5 =>
   (quoO .i64 v5 2).bind fun v6 =>
   (remO sym 2).bind fun v7 =>
   (some (IntKind.i64.wrap (2 + v7))).bind fun v8 =>
   (some (IntKind.u64.wrap v6)).bind fun v9 =>
   (shlO .i64 v8 v9).bind fun v10 =>
   (some (IntKind.i64.wrap (1 + v10))).bind fun v11 =>
   some ((v11, v6, 0))))

def wherryref01_Dist (n : Int) : Option (Int × Int × Int × Int) :=
 (wherryref01_in n 1 32768).bind fun v1 =>
 cond ((!v1))
  (some ((0, 0, 0, 1)))
  (bindS (S := (Unit)) (A := (Int × Int × Int × Int))
   (loopF (S := (Int)) (O := (Unit) ⊕ (Int × Int × Int × Int)) (fun (s11 : Int) =>
    cond ((decide (0 < s11)))
     ((wherryref01_DistOf s11).bind fun v4 =>
     cond ((decide (v4.1 ≤ n)))
      ((some (IntKind.i64.wrap (n - v4.1))).bind fun v6 =>
      some (.inr (.inr ((s11, v4.2.1, v6, 0)))))
      ((some (IntKind.i64.wrap (s11 - 1))).bind fun v7 =>
      some (.inl v7)))
     (some (.inr (.inl ()))))
    BIG 29)
   (fun (() : Unit) =>
    some ((0, 0, 0, 0))) some)

def wherryref01_weights (l : (List T_Tok)) : Option ((List Int) × (List Int)) :=
 (mkO 8 286 (0 : Int)).bind fun v1 =>
 (mkO 8 30 (0 : Int)).bind fun v2 =>
 (ixO 256 v1.length).bind fun v3 =>
 (some (v1.set v3 1)).bind fun v4 =>
 bindS (S := ((List Int) × (List Int))) (A := ((List Int) × (List Int)))
  (loopF (S := ((List Int) × (List Int) × Int)) (O := ((List Int) × (List Int)) ⊕ ((List Int) × (List Int))) (fun ((s51, s52, s53) : (List Int) × (List Int) × Int) =>
   cond ((decide (s53 < (l.length : Int))))
    (bindS (S := (List Int) × (List Int)) (A := (((List Int) × (List Int) × Int) ⊕ (((List Int) × (List Int)) ⊕ ((List Int) × (List Int)))))
     ((ixO s53 l.length).bind fun v6 =>
     (getO l v6).bind fun v7 =>
     cond ((v7.Len == 0))
      ((ixO s53 l.length).bind fun v9 =>
      (getO l v9).bind fun v10 =>
      (some (IntKind.i64.wrap v10.Byte)).bind fun v11 =>
      (ixO v11 s51.length).bind fun v12 =>
      (getO s51 v12).bind fun v13 =>
      (some (IntKind.i64.wrap (v13 + 1))).bind fun v14 =>
      (ixO v11 s51.length).bind fun v15 =>
      (some (s51.set v15 v14)).bind fun v16 =>
      some (.inl (v16, s52)))
      ((ixO s53 l.length).bind fun v17 =>
      (getO l v17).bind fun v18 =>
      (wherryref01_Len v18.Len).bind fun v19 =>
      (ixO s53 l.length).bind fun v20 =>
      (getO l v20).bind fun v21 =>
      (wherryref01_Dist v21.Dist).bind fun v22 =>
      (ixO v19.1 s51.length).bind fun v23 =>
      (getO s51 v23).bind fun v24 =>
      (some (IntKind.i64.wrap (v24 + 1))).bind fun v25 =>
      (ixO v19.1 s51.length).bind fun v26 =>
      (some (s51.set v26 v25)).bind fun v27 =>
      (ixO v22.1 s52.length).bind fun v28 =>
      (getO s52 v28).bind fun v29 =>
      (some (IntKind.i64.wrap (v29 + 1))).bind fun v30 =>
      (ixO v22.1 s52.length).bind fun v31 =>
      (some (s52.set v31 v30)).bind fun v32 =>
      some (.inl (v27, v32))))
     (fun ((s72, s73) : (List Int) × (List Int)) =>
      (some (IntKind.i64.wrap (s53 + 1))).bind fun v39 =>
      some (.inl (s72, s73, v39))) some)
    (some (.inr (.inl (s51, s52)))))
   BIG (v4, v2, 0))
  (fun ((s62, s63) : (List Int) × (List Int)) =>
   some ((s62, s63))) some

def wherryref01_Weights (l : (List T_Tok)) : Option ((List Int) × (List Int) × Int) :=
 (wherryref01_CheckToks l).bind fun v1 =>
 cond ((v1 != 0))
  (some (([], [], v1)))
  ((wherryref01_weights l).bind fun v3 =>
  some ((v3.1, v3.2, 0)))

def wherryref01_Fixed : Option ((List Int) × (List Int)) :=
 bindS (S := ((List Int))) (A := ((List Int) × (List Int)))
  (loopF (S := ((List Int) × Int)) (O := ((List Int)) ⊕ ((List Int) × (List Int))) (fun ((s58, s59) : (List Int) × Int) =>
   cond ((decide (s59 < 288)))
    (bindS (S := (List Int)) (A := (((List Int) × Int) ⊕ (((List Int)) ⊕ ((List Int) × (List Int)))))
     (bindS (S := (List Int)) (A := (((List Int)) ⊕ (((List Int) × Int) ⊕ (((List Int)) ⊕ ((List Int) × (List Int))))))
      (cond ((decide (s59 ≤ 143)))
       ((appO 8 s58 [8]).bind fun v3 =>
       some (.inl v3))
       (cond ((decide (s59 ≤ 255)))
        ((appO 8 s58 [9]).bind fun v5 =>
        some (.inl v5))
        (cond ((decide (s59 ≤ 279)))
         ((appO 8 s58 [7]).bind fun v7 =>
         some (.inl v7))
         ((appO 8 s58 [8]).bind fun v8 =>
         some (.inl v8)))))
      (fun (s110 : (List Int)) =>
       some (.inl s110)) some)
     (fun (s103 : (List Int)) =>
      (some (IntKind.i64.wrap (s59 + 1))).bind fun v30 =>
      some (.inl (s103, v30))) some)
    (some (.inr (.inl s58))))
   BIG ([], 0))
  (fun (s85 : (List Int)) =>
   bindS (S := ((List Int))) (A := ((List Int) × (List Int)))
    (loopF (S := ((List Int) × Int)) (O := ((List Int)) ⊕ ((List Int) × (List Int))) (fun ((s123, s124) : (List Int) × Int) =>
     cond ((decide (s124 < 32)))
      ((appO 8 s123 [5]).bind fun v118 =>
      (some (IntKind.i64.wrap (s124 + 1))).bind fun v119 =>
      some (.inl (v118, v119)))
      (some (.inr (.inl s123))))
     BIG ([], 0))
    (fun (s126 : (List Int)) =>
     some ((s85, s126))) some) some

def tree_validWeights (weights : (List Int)) : Option Bool :=
 cond ((decide (300 < (weights.length : Int))))
  (some (false))
  (bindS (S := (Unit)) (A := Bool)
   (loopF (S := (Int)) (O := (Unit) ⊕ Bool) (fun (s18 : Int) =>
    cond ((decide (s18 < (weights.length : Int))))
     ((ixO s18 weights.length).bind fun v3 =>
     (getO weights v3).bind fun v4 =>
     bindS (S := Bool) (A := ((Int) ⊕ ((Unit) ⊕ Bool)))
      (cond ((decide (v4 < 0)))
       (some (.inl true))
       (some (.inl ((decide (1048576 < v4))))))
      (fun (s32 : Bool) =>
       cond (s32)
        (some (.inr (.inr (false))))
        ((some (IntKind.i64.wrap (s18 + 1))).bind fun v10 =>
        some (.inl v10))) some)
     (some (.inr (.inl ()))))
    BIG 0)
   (fun (() : Unit) =>
    some (true)) some)

def tree_Cost (weights : (List Int)) (lengths : (List Int)) : Option (Int × Int) :=
 cond (((weights.length : Int) != (lengths.length : Int)))
  (some ((0, 2)))
  ((tree_validWeights weights).bind fun v2 =>
  cond ((!v2))
   (some ((0, 1)))
   (bindS (S := (Int)) (A := (Int × Int))
    (loopF (S := (Int × Int)) (O := (Int) ⊕ (Int × Int)) (fun ((s25, s26) : Int × Int) =>
     cond ((decide (s26 < (lengths.length : Int))))
      ((ixO s26 lengths.length).bind fun v5 =>
      (getO lengths v5).bind fun v6 =>
      bindS (S := Bool) (A := ((Int × Int) ⊕ ((Int) ⊕ (Int × Int))))
       (cond ((decide (v6 < 0)))
        (some (.inl true))
        (some (.inl ((decide (15 < v6))))))
       (fun (s41 : Bool) =>
        cond (s41)
         (some (.inr (.inr ((0, 1)))))
         ((ixO s26 weights.length).bind fun v12 =>
         (getO weights v12).bind fun v13 =>
         (some (IntKind.i64.wrap (v13 * v6))).bind fun v14 =>
         (some (IntKind.i64.wrap (s25 + v14))).bind fun v15 =>
         (some (IntKind.i64.wrap (s26 + 1))).bind fun v16 =>
         some (.inl (v15, v16)))) some)
      (some (.inr (.inl s25))))
     BIG (0, 0))
    (fun (s33 : Int) =>
     some ((s33, 0))) some))

def match_newIndex_sh (b : (List Int)) (from_ : Int) : Option (Option T_match_index) :=
 some (some (T_match_index.mk b [] [] from_))

def match_index_startAt (x : T_match_index) (at_ : Int) : Option ((List Int) × Bool × T_match_index) :=
 (some (IntKind.i64.wrap (at_ + 3))).bind fun v1 =>
 cond ((decide ((x.b.length : Int) < v1)))
  ((lnO 3 ((List.replicate 3 (0 : Int)))).bind fun v3 =>
  (lnO 3 (([(0 : Int), (0 : Int), (0 : Int)] : List Int))).bind fun v4 =>
  (lnO 3 (([(0 : Int), (0 : Int), (0 : Int)] : List Int))).bind fun v5 =>
  some ((([(0 : Int), (0 : Int), (0 : Int)] : List Int), false, x)))
  ((some (IntKind.i64.wrap (at_ + 3))).bind fun v6 =>
  (sliO x.b at_ v6).bind fun v7 =>
  (arrO 3 v7).bind fun v8 =>
  (lnO 3 ((List.replicate 3 (0 : Int)))).bind fun v9 =>
  (lnO 3 v8).bind fun v10 =>
  (lnO 3 v8).bind fun v11 =>
  some ((v8, true, x)))

def match_index_common (x : T_match_index) (p : Int) (at_ : Int) : Option (Int × T_match_index) :=
 (some (IntKind.i64.wrap ((x.b.length : Int) - at_))).bind fun v1 =>
 (some (if v1 < 258 then v1 else 258)).bind fun v2 =>
 bindS (S := (Int)) (A := (Int × T_match_index))
  (loopF (S := (Int)) (O := (Int) ⊕ (Int × T_match_index)) (fun (s21 : Int) =>
   bindS (S := Bool) (A := ((Int) ⊕ ((Int) ⊕ (Int × T_match_index))))
    (cond ((decide (s21 < v2)))
     ((some (IntKind.i64.wrap (p + s21))).bind fun v3 =>
     (ixO v3 x.b.length).bind fun v4 =>
     (getO x.b v4).bind fun v5 =>
     (some (IntKind.i64.wrap (at_ + s21))).bind fun v6 =>
     (ixO v6 x.b.length).bind fun v7 =>
     (getO x.b v7).bind fun v8 =>
     some (.inl (v5 == v8)))
     (some (.inl false)))
    (fun (s34 : Bool) =>
     cond (s34)
      ((some (IntKind.i64.wrap (s21 + 1))).bind fun v14 =>
      some (.inl v14))
      (some (.inr (.inl s21)))) some)
   BIG 3)
  (fun (s27 : Int) =>
   some ((s27, x))) some

def match_index_best (x : T_match_index) (at_ : Int) : Option (Int × Int × T_match_index) :=
 (match_index_startAt x at_).bind fun v1 =>
 (lnO 3 ((List.replicate 3 (0 : Int)))).bind fun v2 =>
 (lnO 3 v1.1).bind fun v3 =>
 cond ((!v1.2.1))
  (some ((0, 0, v1.2.2)))
  (bindS (S := (List Int) × (List ((List Int) × Int)) × (List Int) × Int × Int × Int) (A := (Int × Int × T_match_index))
   ((lnO 3 v1.1).bind fun v5 =>
   (mgetO 3 v1.2.2.last v1.1).bind fun v6 =>
   (some (IntKind.i64.wrap (v6 - 1))).bind fun v7 =>
   bindS (S := ((List Int) × (List ((List Int) × Int)) × (List Int) × Int × Int × Int)) (A := (((List Int) × (List ((List Int) × Int)) × (List Int) × Int × Int × Int) ⊕ (Int × Int × T_match_index)))
    (loopF (S := ((List Int) × (List ((List Int) × Int)) × (List Int) × Int × Int × Int × Int)) (O := ((List Int) × (List ((List Int) × Int)) × (List Int) × Int × Int × Int) ⊕ (((List Int) × (List ((List Int) × Int)) × (List Int) × Int × Int × Int) ⊕ (Int × Int × T_match_index))) (fun ((s159, s160, s161, s162, s163, s164, s165) : (List Int) × (List ((List Int) × Int)) × (List Int) × Int × Int × Int × Int) =>
     bindS (S := Bool) (A := (((List Int) × (List ((List Int) × Int)) × (List Int) × Int × Int × Int × Int) ⊕ (((List Int) × (List ((List Int) × Int)) × (List Int) × Int × Int × Int) ⊕ (((List Int) × (List ((List Int) × Int)) × (List Int) × Int × Int × Int) ⊕ (Int × Int × T_match_index)))))
      (cond ((decide (s162 ≤ s165)))
       ((some (IntKind.i64.wrap (at_ - s165))).bind fun v8 =>
       some (.inl ((decide (v8 ≤ 2048)))))
       (some (.inl false)))
      (fun (s195 : Bool) =>
       cond (s195)
        (bindS (S := Int × Int × (List Int) × (List ((List Int) × Int)) × (List Int) × Int) (A := (((List Int) × (List ((List Int) × Int)) × (List Int) × Int × Int × Int × Int) ⊕ (((List Int) × (List ((List Int) × Int)) × (List Int) × Int × Int × Int) ⊕ (((List Int) × (List ((List Int) × Int)) × (List Int) × Int × Int × Int) ⊕ (Int × Int × T_match_index)))))
         ((match_index_common (T_match_index.mk s159 s160 s161 s162) s165 at_).bind fun v14 =>
         cond ((decide (s163 < v14.1)))
          ((some (IntKind.i64.wrap (at_ - s165))).bind fun v16 =>
          some (.inl (v14.1, v16, v14.2.b, v14.2.last, v14.2.back, v14.2.from_)))
          (some (.inl (s163, s164, v14.2.b, v14.2.last, v14.2.back, v14.2.from_))))
         (fun ((s201, s202, s203, s204, s205, s206) : Int × Int × (List Int) × (List ((List Int) × Int)) × (List Int) × Int) =>
          cond ((s201 == 258))
           (some (.inr (.inl (s203, s204, s205, s206, s201, s202))))
           ((some (IntKind.i64.wrap (s165 - s206))).bind fun v28 =>
           (ixO v28 s205.length).bind fun v29 =>
           (getO s205 v29).bind fun v30 =>
           (some (IntKind.i64.wrap (v30 - 1))).bind fun v31 =>
           some (.inl (s203, s204, s205, s206, s201, s202, v31)))) some)
        (some (.inr (.inl (s159, s160, s161, s162, s163, s164))))) some)
     BIG (v1.2.2.b, v1.2.2.last, v1.2.2.back, v1.2.2.from_, 0, 0, v7))
    (fun ((s183, s184, s185, s186, s187, s188) : (List Int) × (List ((List Int) × Int)) × (List Int) × Int × Int × Int) =>
     some (.inl (s183, s184, s185, s186, s187, s188))) some)
   (fun ((s109, s110, s111, s112, s113, s114) : (List Int) × (List ((List Int) × Int)) × (List Int) × Int × Int × Int) =>
    some ((s113, s114, (T_match_index.mk s109 s110 s111 s112)))) some)

def match_index_add (x : T_match_index) (at_ : Int) : Option T_match_index :=
 (match_index_startAt x at_).bind fun v1 =>
 (lnO 3 ((List.replicate 3 (0 : Int)))).bind fun v2 =>
 (lnO 3 v1.1).bind fun v3 =>
 cond ((!v1.2.1))
  (some (v1.2.2))
  ((lnO 3 v1.1).bind fun v5 =>
  (mgetO 3 v1.2.2.last v1.1).bind fun v6 =>
  (appO 8 v1.2.2.back [v6]).bind fun v7 =>
  (lnO 3 v1.1).bind fun v8 =>
  (some (IntKind.i64.wrap (at_ + 1))).bind fun v9 =>
  (mputO 3 v1.2.2.last v1.1 v9).bind fun v10 =>
  some ((T_match_index.mk v1.2.2.b v10 v7 v1.2.2.from_)))

def match_Tokens (b : (List Int)) : Option ((List T_Tok) × Int) :=
 cond ((decide (4096 < (b.length : Int))))
  (some (([], 2)))
  ((match_newIndex_sh b 0).bind fun v2 =>
  obS v2 (fun (v3 : T_match_index) =>
   bindS (S := ((List T_Tok))) (A := ((List T_Tok) × Int))
    (loopF (S := ((List T_Tok) × (List Int) × (List ((List Int) × Int)) × (List Int) × Int × Int)) (O := ((List T_Tok)) ⊕ ((List T_Tok) × Int)) (fun ((s88, s89, s90, s91, s92, s93) : (List T_Tok) × (List Int) × (List ((List Int) × Int)) × (List Int) × Int × Int) =>
     cond ((decide (s93 < (b.length : Int))))
      ((match_index_best (T_match_index.mk s89 s90 s91 s92) s93).bind fun v6 =>
      bindS (S := Int × Int) (A := (((List T_Tok) × (List Int) × (List ((List Int) × Int)) × (List Int) × Int × Int) ⊕ (((List T_Tok)) ⊕ ((List T_Tok) × Int))))
       (cond ((v6.1 == 0))
        ((ixO s93 b.length).bind fun v8 =>
        (getO b v8).bind fun v9 =>
        some (.inl (v9, 1)))
        (some (.inl (0, v6.1))))
       (fun ((s138, s139) : Int × Int) =>
        (appO 24 s88 [(T_Tok.mk s138 v6.1 v6.2.1)]).bind fun v16 =>
        bindS (S := ((List Int) × (List ((List Int) × Int)) × (List Int) × Int × Int)) (A := (((List T_Tok) × (List Int) × (List ((List Int) × Int)) × (List Int) × Int × Int) ⊕ (((List T_Tok)) ⊕ ((List T_Tok) × Int))))
         (loopF (S := ((List Int) × (List ((List Int) × Int)) × (List Int) × Int × Int × Int)) (O := ((List Int) × (List ((List Int) × Int)) × (List Int) × Int × Int) ⊕ (((List T_Tok) × (List Int) × (List ((List Int) × Int)) × (List Int) × Int × Int) ⊕ (((List T_Tok)) ⊕ ((List T_Tok) × Int)))) (fun ((s152, s153, s154, s155, s156, s157) : (List Int) × (List ((List Int) × Int)) × (List Int) × Int × Int × Int) =>
          cond ((decide (0 < s157)))
           ((match_index_add (T_match_index.mk s152 s153 s154 s155) s156).bind fun v18 =>
           (some (IntKind.i64.wrap (s156 + 1))).bind fun v19 =>
           (some (IntKind.i64.wrap (s157 - 1))).bind fun v20 =>
           some (.inl (v18.b, v18.last, v18.back, v18.from_, v19, v20)))
           (some (.inr (.inl (s152, s153, s154, s155, s156)))))
          BIG (v6.2.2.b, v6.2.2.last, v6.2.2.back, v6.2.2.from_, s93, s139))
         (fun ((s159, s160, s161, s162, s163) : (List Int) × (List ((List Int) × Int)) × (List Int) × Int × Int) =>
          some (.inl (v16, s159, s160, s161, s162, s163))) some) some)
      (some (.inr (.inl s88))))
     BIG ([], v3.b, v3.last, v3.back, v3.from_, 0))
    (fun (s129 : (List T_Tok)) =>
     some ((s129, 0))) some)
   (bindS (S := (Unit)) (A := ((List T_Tok) × Int))
    (loopF (S := (Unit)) (O := (Unit) ⊕ ((List T_Tok) × Int)) (fun (() : Unit) =>
     cond ((decide (0 < (b.length : Int))))
      (none)
      (some (.inr (.inl ()))))
     BIG ())
    (fun (() : Unit) =>
     some (([], 0))) some))

def shrink_writer_put (w : T_shrink_writer) (v : Int) (n : Int) : Option T_shrink_writer :=
 (some (IntKind.u32.wrap v)).bind fun v1 =>
 bindS (S := ((List Int) × Int)) (A := T_shrink_writer)
  (loopF (S := ((List Int) × Int × Int × Int)) (O := ((List Int) × Int) ⊕ T_shrink_writer) (fun ((s35, s36, s37, s38) : (List Int) × Int × Int × Int) =>
   cond ((decide (0 < s37)))
    ((remO s36 8).bind fun v3 =>
    bindS (S := (List Int)) (A := (((List Int) × Int × Int × Int) ⊕ (((List Int) × Int) ⊕ T_shrink_writer)))
     (cond ((v3 == 0))
      ((appO 1 s35 [0]).bind fun v5 =>
      some (.inl v5))
      (some (.inl s35)))
     (fun (s56 : (List Int)) =>
      (some (IntKind.i64.wrap (8 - v3))).bind fun v11 =>
      (some (if s37 < v11 then s37 else v11)).bind fun v12 =>
      (some (IntKind.i64.wrap ((s56.length : Int) - 1))).bind fun v13 =>
      (ixO v13 s56.length).bind fun v14 =>
      (getO s56 v14).bind fun v15 =>
      (shlO .u32 s38 v3).bind fun v16 =>
      (some (IntKind.u8.wrap v16)).bind fun v17 =>
      (some (bits .or .u8 v15 v17)).bind fun v18 =>
      (ixO v13 s56.length).bind fun v19 =>
      (some (s56.set v19 v18)).bind fun v20 =>
      (shrO .u32 s38 v12).bind fun v21 =>
      (some (IntKind.i64.wrap (s36 + v12))).bind fun v22 =>
      (some (IntKind.i64.wrap (s37 - v12))).bind fun v23 =>
      some (.inl (v20, v22, v23, v21))) some)
    (some (.inr (.inl (s35, s36)))))
   BIG (w.b, w.n, n, v1))
  (fun ((s46, s47) : (List Int) × Int) =>
   some ((T_shrink_writer.mk s46 s47))) some

def shrink_newBlock (kind : Int) : Option (Option T_shrink_writer) :=
 (shrink_writer_put (T_shrink_writer.mk [] 0) 1 1).bind fun v1 =>
 (shrink_writer_put v1 kind 2).bind fun v2 =>
 some (some v2)

def sym_fixedLen (s : Int) : Option Int :=
 cond ((decide (s < 144)))
  (some (8))
  (cond ((decide (s < 256)))
   (some (9))
   (cond ((decide (s < 280)))
    (some (7))
    (some (8))))

def sym_Fixed : Option ((List Int) × (List Int)) :=
 bindS (S := ((List Int))) (A := ((List Int) × (List Int)))
  (loopF (S := ((List Int) × Int)) (O := ((List Int)) ⊕ ((List Int) × (List Int))) (fun ((s8, s9) : (List Int) × Int) =>
   cond ((decide (s9 < 288)))
    ((sym_fixedLen s9).bind fun v2 =>
    (appO 8 s8 [v2]).bind fun v3 =>
    (some (IntKind.i64.wrap (s9 + 1))).bind fun v4 =>
    some (.inl (v3, v4)))
    (some (.inr (.inl s8))))
   BIG ([], 0))
  (fun (s11 : (List Int)) =>
   bindS (S := ((List Int))) (A := ((List Int) × (List Int)))
    (loopF (S := ((List Int) × Int)) (O := ((List Int)) ⊕ ((List Int) × (List Int))) (fun ((s25, s26) : (List Int) × Int) =>
     cond ((decide (s26 < 32)))
      ((appO 8 s25 [5]).bind fun v20 =>
      (some (IntKind.i64.wrap (s26 + 1))).bind fun v21 =>
      some (.inl (v20, v21)))
      (some (.inr (.inl s25))))
     BIG ([], 0))
    (fun (s28 : (List Int)) =>
     some ((s11, s28))) some) some

def canon_valid (lengths : (List Int)) : Option Bool :=
 cond ((decide (300 < (lengths.length : Int))))
  (some (false))
  (bindS (S := (Unit)) (A := Bool)
   (loopF (S := (Int)) (O := (Unit) ⊕ Bool) (fun (s18 : Int) =>
    cond ((decide (s18 < (lengths.length : Int))))
     ((ixO s18 lengths.length).bind fun v3 =>
     (getO lengths v3).bind fun v4 =>
     bindS (S := Bool) (A := ((Int) ⊕ ((Unit) ⊕ Bool)))
      (cond ((decide (v4 < 0)))
       (some (.inl true))
       (some (.inl ((decide (15 < v4))))))
      (fun (s32 : Bool) =>
       cond (s32)
        (some (.inr (.inr (false))))
        ((some (IntKind.i64.wrap (s18 + 1))).bind fun v10 =>
        some (.inl v10))) some)
     (some (.inr (.inl ()))))
    BIG 0)
   (fun (() : Unit) =>
    some (true)) some)

def canon_count (lengths : (List Int)) : Option (List Int) :=
 bindS (S := ((List Int))) (A := (List Int))
  (loopF (S := ((List Int) × Int)) (O := ((List Int)) ⊕ (List Int)) (fun ((s25, s26) : (List Int) × Int) =>
   cond ((decide (s26 < (lengths.length : Int))))
    (bindS (S := (List Int)) (A := (((List Int) × Int) ⊕ (((List Int)) ⊕ (List Int))))
     ((ixO s26 lengths.length).bind fun v2 =>
     (getO lengths v2).bind fun v3 =>
     cond ((decide (0 < v3)))
      ((ixO v3 16).bind fun v5 =>
      (getO s25 v5).bind fun v6 =>
      (some (IntKind.i64.wrap (v6 + 1))).bind fun v7 =>
      (ixO v3 16).bind fun v8 =>
      (setO s25 v8 v7).bind fun v9 =>
      some (.inl v9))
      (some (.inl s25)))
     (fun (s43 : (List Int)) =>
      (some (IntKind.i64.wrap (s26 + 1))).bind fun v15 =>
      some (.inl (s43, v15))) some)
    (some (.inr (.inl s25))))
   BIG (((List.replicate 16 (0 : Int)), 0)))
  (fun (s34 : (List Int)) =>
   (lnO 16 s34).bind fun v48 =>
   (lnO 16 ((List.replicate 16 (0 : Int)))).bind fun v49 =>
   (lnO 16 s34).bind fun v50 =>
   (lnO 16 s34).bind fun v51 =>
   some (s34)) some

def canon_tally_weight (c : (List Int)) : Option Int :=
 (lnO 16 c).bind fun v1 =>
 bindS (S := (Int)) (A := Int)
  (loopF (S := (Int × Int)) (O := (Int) ⊕ Int) (fun ((s12, s13) : Int × Int) =>
   cond ((decide (s13 < 16)))
    ((ixO s13 16).bind fun v3 =>
    (getO c v3).bind fun v4 =>
    (some (IntKind.i64.wrap (15 - s13))).bind fun v5 =>
    (shlO .i64 v4 v5).bind fun v6 =>
    (some (IntKind.i64.wrap (s12 + v6))).bind fun v7 =>
    (some (IntKind.i64.wrap (s13 + 1))).bind fun v8 =>
    some (.inl (v7, v8)))
    (some (.inr (.inl s12))))
   BIG (0, 0))
  (fun (s15 : Int) =>
   some (s15)) some

def canon_forms (c : (List Int)) : Option Bool :=
 (lnO 16 ((List.replicate 16 (0 : Int)))).bind fun v1 =>
 (lnO 16 (([(0 : Int), 1, (0 : Int), (0 : Int), (0 : Int), (0 : Int), (0 : Int), (0 : Int), (0 : Int), (0 : Int), (0 : Int), (0 : Int), (0 : Int), (0 : Int), (0 : Int), (0 : Int)] : List Int))).bind fun v2 =>
 bindS (S := Bool) (A := Bool)
  ((lnO 16 c).bind fun v3 =>
  (lnO 16 c).bind fun v4 =>
  (lnO 16 (([(0 : Int), (0 : Int), (0 : Int), (0 : Int), (0 : Int), (0 : Int), (0 : Int), (0 : Int), (0 : Int), (0 : Int), (0 : Int), (0 : Int), (0 : Int), (0 : Int), (0 : Int), (0 : Int)] : List Int))).bind fun v5 =>
  cond ((c == (([(0 : Int), (0 : Int), (0 : Int), (0 : Int), (0 : Int), (0 : Int), (0 : Int), (0 : Int), (0 : Int), (0 : Int), (0 : Int), (0 : Int), (0 : Int), (0 : Int), (0 : Int), (0 : Int)] : List Int))))
   (some (.inl true))
   ((lnO 16 c).bind fun v6 =>
   (lnO 16 (([(0 : Int), 1, (0 : Int), (0 : Int), (0 : Int), (0 : Int), (0 : Int), (0 : Int), (0 : Int), (0 : Int), (0 : Int), (0 : Int), (0 : Int), (0 : Int), (0 : Int), (0 : Int)] : List Int))).bind fun v7 =>
   (lnO 16 c).bind fun v8 =>
   (lnO 16 (([(0 : Int), 1, (0 : Int), (0 : Int), (0 : Int), (0 : Int), (0 : Int), (0 : Int), (0 : Int), (0 : Int), (0 : Int), (0 : Int), (0 : Int), (0 : Int), (0 : Int), (0 : Int)] : List Int))).bind fun v9 =>
   cond ((c == (([(0 : Int), 1, (0 : Int), (0 : Int), (0 : Int), (0 : Int), (0 : Int), (0 : Int), (0 : Int), (0 : Int), (0 : Int), (0 : Int), (0 : Int), (0 : Int), (0 : Int), (0 : Int)] : List Int))))
    (some (.inl true))
    ((lnO 16 c).bind fun v10 =>
    (canon_tally_weight c).bind fun v11 =>
    some (.inl (v11 == 32768)))))
  (fun (s12 : Bool) =>
   some (s12)) some

def canon_Check (lengths : (List Int)) : Option Int :=
 (canon_valid lengths).bind fun v1 =>
 cond ((!v1))
  (some (1))
  ((canon_count lengths).bind fun v3 =>
  (canon_forms v3).bind fun v4 =>
  cond ((!v4))
   (some (4))
   (some (0)))

def canon_firsts (c : (List Int)) : Option (List Int) :=
 bindS (S := ((List Int))) (A := (List Int))
  (loopF (S := ((List Int) × Int)) (O := ((List Int)) ⊕ (List Int)) (fun ((s16, s17) : (List Int) × Int) =>
   cond ((decide (s17 ≤ 15)))
    ((some (IntKind.i64.wrap (s17 - 1))).bind fun v2 =>
    (ixO v2 16).bind fun v3 =>
    (getO s16 v3).bind fun v4 =>
    (some (IntKind.i64.wrap (s17 - 1))).bind fun v5 =>
    (ixO v5 16).bind fun v6 =>
    (getO c v6).bind fun v7 =>
    (some (IntKind.i64.wrap (v4 + v7))).bind fun v8 =>
    (some (IntKind.i64.wrap (2 * v8))).bind fun v9 =>
    (ixO s17 16).bind fun v10 =>
    (setO s16 v10 v9).bind fun v11 =>
    (some (IntKind.i64.wrap (s17 + 1))).bind fun v12 =>
    some (.inl (v11, v12)))
    (some (.inr (.inl s16))))
   BIG (((List.replicate 16 (0 : Int)), 2)))
  (fun (s19 : (List Int)) =>
   (lnO 16 s19).bind fun v27 =>
   (lnO 16 ((List.replicate 16 (0 : Int)))).bind fun v28 =>
   (lnO 16 s19).bind fun v29 =>
   (lnO 16 s19).bind fun v30 =>
   some (s19)) some

def canon_Codes (lengths : (List Int)) : Option ((List Int) × Int) :=
 (canon_Check lengths).bind fun v1 =>
 cond ((v1 != 0))
  (some (([], v1)))
  ((canon_count lengths).bind fun v3 =>
  (canon_firsts v3).bind fun v4 =>
  (lnO 16 ((List.replicate 16 (0 : Int)))).bind fun v5 =>
  (lnO 16 v4).bind fun v6 =>
  (mkO 8 (lengths.length : Int) (0 : Int)).bind fun v7 =>
  bindS (S := ((List Int))) (A := ((List Int) × Int))
   (loopF (S := ((List Int) × (List Int) × Int)) (O := ((List Int)) ⊕ ((List Int) × Int)) (fun ((s39, s40, s41) : (List Int) × (List Int) × Int) =>
    cond ((decide (s41 < (lengths.length : Int))))
     (bindS (S := (List Int) × (List Int)) (A := (((List Int) × (List Int) × Int) ⊕ (((List Int)) ⊕ ((List Int) × Int))))
      ((ixO s41 lengths.length).bind fun v9 =>
      (getO lengths v9).bind fun v10 =>
      cond ((decide (0 < v10)))
       ((ixO v10 16).bind fun v12 =>
       (getO s39 v12).bind fun v13 =>
       (ixO s41 s40.length).bind fun v14 =>
       (some (s40.set v14 v13)).bind fun v15 =>
       (ixO v10 16).bind fun v16 =>
       (getO s39 v16).bind fun v17 =>
       (some (IntKind.i64.wrap (v17 + 1))).bind fun v18 =>
       (ixO v10 16).bind fun v19 =>
       (setO s39 v19 v18).bind fun v20 =>
       some (.inl (v20, v15)))
       (some (.inl (s39, s40))))
      (fun ((s59, s60) : (List Int) × (List Int)) =>
       (some (IntKind.i64.wrap (s41 + 1))).bind fun v27 =>
       some (.inl (s59, s60, v27))) some)
     (some (.inr (.inl s40))))
    BIG (v4, v7, 0))
   (fun (s50 : (List Int)) =>
    some ((s50, 0))) some)

def shrink_newCode_ro (lengths : (List Int)) : Option T_shrink_code :=
 (canon_Codes lengths).bind fun v1 =>
 some ((T_shrink_code.mk lengths v1.1))

def bits_fits (v : Int) (n : Int) : Option Bool :=
 bindS (S := Bool) (A := Bool)
  (cond ((decide (0 ≤ n)))
   (cond ((decide (n ≤ 24)))
    (cond ((decide (0 ≤ v)))
     ((shlO .i64 1 n).bind fun v1 =>
     some (.inl ((decide (v < v1)))))
     (some (.inl false)))
    (some (.inl false)))
   (some (.inl false)))
  (fun (s2 : Bool) =>
   some (s2)) some

def bits_Turn (v : Int) (n : Int) : Option (Int × Int) :=
 (bits_fits v n).bind fun v1 =>
 cond ((!v1))
  (some ((0, 1)))
  ((some (IntKind.u32.wrap v)).bind fun v3 =>
  bindS (S := (Int)) (A := (Int × Int))
   (loopF (S := (Int × Int × Int)) (O := (Int) ⊕ (Int × Int)) (fun ((s14, s15, s16) : Int × Int × Int) =>
    cond ((decide (0 < s14)))
     ((shlO .u32 s15 1).bind fun v5 =>
     (some (bits .and .u32 s16 1)).bind fun v6 =>
     (some (bits .or .u32 v5 v6)).bind fun v7 =>
     (shrO .u32 s16 1).bind fun v8 =>
     (some (IntKind.i64.wrap (s14 - 1))).bind fun v9 =>
     some (.inl (v9, v7, v8)))
     (some (.inr (.inl s15))))
    BIG (n, 0, v3))
   (fun (s18 : Int) =>
    (some (IntKind.i64.wrap s18)).bind fun v26 =>
    some ((v26, 0))) some)

def shrink_writer_putSym (w : T_shrink_writer) (c : T_shrink_code) (s : Int) : Option T_shrink_writer :=
 (ixO s c.codes.length).bind fun v1 =>
 (getO c.codes v1).bind fun v2 =>
 (ixO s c.lengths.length).bind fun v3 =>
 (getO c.lengths v3).bind fun v4 =>
 (bits_Turn v2 v4).bind fun v5 =>
 (ixO s c.lengths.length).bind fun v6 =>
 (getO c.lengths v6).bind fun v7 =>
 (shrink_writer_put w v5.1 v7).bind fun v8 =>
 some (v8)

def sym_lens : Option T_sym_scale :=
 some ((T_sym_scale.mk 3 8 4))

def sym_scale_symbol (s : T_sym_scale) (sym : Int) : Option (Int × Int) :=
 cond ((decide (sym < s.singles)))
  ((some (IntKind.i64.wrap (s.least + sym))).bind fun v2 =>
  some ((v2, 0)))
  ((some (IntKind.i64.wrap (s.least + s.singles))).bind fun v3 =>
  (some (IntKind.i64.wrap (sym - s.singles))).bind fun v4 =>
  bindS (S := (Int × Int × Int)) (A := (Int × Int))
   (loopF (S := (Int × Int × Int)) (O := (Int × Int × Int) ⊕ (Int × Int)) (fun ((s14, s15, s16) : Int × Int × Int) =>
    cond ((decide (s.group ≤ s16)))
     ((shlO .i64 s.group s15).bind fun v6 =>
     (some (IntKind.i64.wrap (s14 + v6))).bind fun v7 =>
     (some (IntKind.i64.wrap (s15 + 1))).bind fun v8 =>
     (some (IntKind.i64.wrap (s16 - s.group))).bind fun v9 =>
     some (.inl (v7, v8, v9)))
     (some (.inr (.inl (s14, s15, s16)))))
    BIG (v3, 1, v4))
   (fun ((s18, s19, s20) : Int × Int × Int) =>
    (shlO .i64 s20 s19).bind fun v28 =>
    (some (IntKind.i64.wrap (s18 + v28))).bind fun v29 =>
    some ((v29, s19))) some)

def sym_scale_find (s : T_sym_scale) (n : Int) : Option (Int × Int × Int) :=
 bindS (S := (Unit)) (A := (Int × Int × Int))
  (loopF (S := (Int)) (O := (Unit) ⊕ (Int × Int × Int)) (fun (s9 : Int) =>
   (sym_scale_symbol s s9).bind fun v1 =>
   (some (IntKind.i64.wrap (n - v1.1))).bind fun v2 =>
   (shlO .i64 1 v1.2).bind fun v3 =>
   cond ((decide (v2 < v3)))
    ((some (IntKind.i64.wrap (n - v1.1))).bind fun v5 =>
    some (.inr (.inr ((s9, v1.2, v5)))))
    ((some (IntKind.i64.wrap (s9 + 1))).bind fun v6 =>
    some (.inl v6)))
   BIG 0)
  (fun (() : Unit) =>
   none) some

def sym_Len (n : Int) : Option (Int × Int × Int × Int) :=
 bindS (S := Bool) (A := (Int × Int × Int × Int))
  (cond ((decide (n < 3)))
   (some (.inl true))
   (some (.inl ((decide (258 < n))))))
  (fun (s1 : Bool) =>
   cond (s1)
    (some ((0, 0, 0, 1)))
    (cond ((n == 258))
     (some ((285, 0, 0, 0)))
     ((sym_lens ).bind fun v7 =>
     (sym_scale_find v7 n).bind fun v8 =>
     (some (IntKind.i64.wrap (257 + v8.1))).bind fun v9 =>
     some ((v9, v8.2.1, v8.2.2, 0))))) some

def sym_dists : Option T_sym_scale :=
 some ((T_sym_scale.mk 1 4 2))

def sym_Dist (n : Int) : Option (Int × Int × Int × Int) :=
 bindS (S := Bool) (A := (Int × Int × Int × Int))
  (cond ((decide (n < 1)))
   (some (.inl true))
   (some (.inl ((decide (32768 < n))))))
  (fun (s1 : Bool) =>
   cond (s1)
    (some ((0, 0, 0, 1)))
    ((sym_dists ).bind fun v6 =>
    (sym_scale_find v6 n).bind fun v7 =>
    some ((v7.1, v7.2.1, v7.2.2, 0)))) some

def shrink_writer_putTokens (w : T_shrink_writer) (l : (List T_Tok)) (lits : T_shrink_code) (dists : T_shrink_code) : Option T_shrink_writer :=
 bindS (S := ((List Int) × Int)) (A := T_shrink_writer)
  (loopF (S := ((List Int) × Int × Int)) (O := ((List Int) × Int) ⊕ T_shrink_writer) (fun ((s31, s32, s33) : (List Int) × Int × Int) =>
   cond ((decide (s33 < (l.length : Int))))
    (bindS (S := (List Int) × Int) (A := (((List Int) × Int × Int) ⊕ (((List Int) × Int) ⊕ T_shrink_writer)))
     ((ixO s33 l.length).bind fun v2 =>
     (getO l v2).bind fun v3 =>
     cond ((v3.Len == 0))
      ((some (IntKind.i64.wrap v3.Byte)).bind fun v5 =>
      (shrink_writer_putSym (T_shrink_writer.mk s31 s32) lits v5).bind fun v6 =>
      some (.inl (v6.b, v6.n)))
      ((sym_Len v3.Len).bind fun v7 =>
      (shrink_writer_putSym (T_shrink_writer.mk s31 s32) lits v7.1).bind fun v8 =>
      (shrink_writer_put v8 v7.2.2.1 v7.2.1).bind fun v9 =>
      (sym_Dist v3.Dist).bind fun v10 =>
      (shrink_writer_putSym v9 dists v10.1).bind fun v11 =>
      (shrink_writer_put v11 v10.2.2.1 v10.2.1).bind fun v12 =>
      some (.inl (v12.b, v12.n))))
     (fun ((s52, s53) : (List Int) × Int) =>
      (some (IntKind.i64.wrap (s33 + 1))).bind fun v19 =>
      some (.inl (s52, s53, v19))) some)
    (some (.inr (.inl (s31, s32)))))
   BIG (w.b, w.n, 0))
  (fun ((s42, s43) : (List Int) × Int) =>
   (shrink_writer_putSym (T_shrink_writer.mk s42 s43) lits 256).bind fun v58 =>
   some (v58)) some

def shrink_fixedBlock (l : (List T_Tok)) : Option (Option T_shrink_writer) :=
 (shrink_newBlock 1).bind fun v1 =>
 obS v1 (fun (v2 : T_shrink_writer) =>
  (sym_Fixed ).bind fun v4 =>
  (shrink_newCode_ro v4.1).bind fun v5 =>
  (shrink_newCode_ro v4.2).bind fun v6 =>
  (shrink_writer_putTokens (T_shrink_writer.mk v2.b v2.n) l v5 v6).bind fun v7 =>
  some (some v7))
  (none)

def shrink_Fixed (b : (List Int)) : Option ((List Int) × Int) :=
 (match_Tokens b).bind fun v1 =>
 cond ((v1.2 != 0))
  (some (([], v1.2)))
  ((shrink_fixedBlock v1.1).bind fun v3 =>
  (v3).bind fun v4 =>
  some ((v4.b, 0)))

def shrink_storedBlock (b : (List Int)) : Option (Option T_shrink_writer) :=
 (shrink_newBlock 0).bind fun v1 =>
 obS v1 (fun (v2 : T_shrink_writer) =>
  (some (IntKind.i64.wrap (8 * (v2.b.length : Int)))).bind fun v4 =>
  (shrink_writer_put (T_shrink_writer.mk v2.b v4) (b.length : Int) 16).bind fun v5 =>
  (some (bits .xor .i64 (b.length : Int) 65535)).bind fun v6 =>
  (shrink_writer_put v5 v6 16).bind fun v7 =>
  bindS (S := ((List Int) × Int)) (A := (Option T_shrink_writer))
   (loopF (S := ((List Int) × Int × Int)) (O := ((List Int) × Int) ⊕ (Option T_shrink_writer)) (fun ((s18, s19, s20) : (List Int) × Int × Int) =>
    cond ((decide (s20 < (b.length : Int))))
     ((ixO s20 b.length).bind fun v9 =>
     (getO b v9).bind fun v10 =>
     (some (IntKind.i64.wrap v10)).bind fun v11 =>
     (shrink_writer_put (T_shrink_writer.mk s18 s19) v11 8).bind fun v12 =>
     (some (IntKind.i64.wrap (s20 + 1))).bind fun v13 =>
     some (.inl (v12.b, v12.n, v13)))
     (some (.inr (.inl (s18, s19)))))
    BIG (v7.b, v7.n, 0))
   (fun ((s22, s23) : (List Int) × Int) =>
    some (some (T_shrink_writer.mk s22 s23))) some)
  (none)

def match_validMatch (t : T_Tok) : Option Bool :=
 bindS (S := Bool) (A := Bool)
  (cond ((t.Byte == 0))
   (cond ((decide (3 ≤ t.Len)))
    (cond ((decide (t.Len ≤ 258)))
     (cond ((decide (1 ≤ t.Dist)))
      (some (.inl ((decide (t.Dist ≤ 2048)))))
      (some (.inl false)))
     (some (.inl false)))
    (some (.inl false)))
   (some (.inl false)))
  (fun (s1 : Bool) =>
   some (s1)) some

def match_Check (l : (List T_Tok)) : Option Int :=
 bindS (S := (Int)) (A := Int)
  (loopF (S := (Int × Int)) (O := (Int) ⊕ Int) (fun ((s115, s116) : Int × Int) =>
   cond ((decide (s116 < (l.length : Int))))
    (bindS (S := Int) (A := ((Int × Int) ⊕ ((Int) ⊕ Int)))
     ((ixO s116 l.length).bind fun v2 =>
     (getO l v2).bind fun v3 =>
     bindS (S := Int) (A := (Int ⊕ ((Int × Int) ⊕ ((Int) ⊕ Int))))
      (bindS (S := Bool) (A := (Int ⊕ (Int ⊕ ((Int × Int) ⊕ ((Int) ⊕ Int)))))
       (cond ((v3.Len == 0))
        (some (.inl (v3.Dist == 0)))
        (some (.inl false)))
       (fun (s220 : Bool) =>
        cond (s220)
         ((some (IntKind.i64.wrap (s115 + 1))).bind fun v9 =>
         some (.inl v9))
         (bindS (S := Bool) (A := (Int ⊕ (Int ⊕ ((Int × Int) ⊕ ((Int) ⊕ Int)))))
          ((match_validMatch v3).bind fun v10 =>
          cond (v10)
           (some (.inl ((decide (v3.Dist ≤ s115)))))
           (some (.inl false)))
          (fun (s225 : Bool) =>
           cond (s225)
            ((some (IntKind.i64.wrap (s115 + v3.Len))).bind fun v16 =>
            some (.inl v16))
            (some (.inr (.inr (.inr (.inr (1))))))) some)) some)
      (fun (s216 : Int) =>
       some (.inl s216)) some)
     (fun (s202 : Int) =>
      (some (IntKind.i64.wrap (s116 + 1))).bind fun v59 =>
      some (.inl (s202, v59))) some)
    (some (.inr (.inl s115))))
   BIG (0, 0))
  (fun (s170 : Int) =>
   cond ((decide (4096 < s170)))
    (some (2))
    (some (0))) some

def sym_Weights (l : (List T_Tok)) : Option ((List Int) × (List Int) × Int) :=
 (match_Check l).bind fun v1 =>
 cond ((v1 != 0))
  (some (([], [], v1)))
  ((mkO 8 286 (0 : Int)).bind fun v3 =>
  (mkO 8 30 (0 : Int)).bind fun v4 =>
  (ixO 256 v3.length).bind fun v5 =>
  (some (v3.set v5 1)).bind fun v6 =>
  bindS (S := ((List Int) × (List Int))) (A := ((List Int) × (List Int) × Int))
   (loopF (S := ((List Int) × (List Int) × Int)) (O := ((List Int) × (List Int)) ⊕ ((List Int) × (List Int) × Int)) (fun ((s46, s47, s48) : (List Int) × (List Int) × Int) =>
    cond ((decide (s48 < (l.length : Int))))
     (bindS (S := (List Int) × (List Int)) (A := (((List Int) × (List Int) × Int) ⊕ (((List Int) × (List Int)) ⊕ ((List Int) × (List Int) × Int))))
      ((ixO s48 l.length).bind fun v8 =>
      (getO l v8).bind fun v9 =>
      cond ((v9.Len == 0))
       ((ixO v9.Byte s46.length).bind fun v11 =>
       (getO s46 v11).bind fun v12 =>
       (some (IntKind.i64.wrap (v12 + 1))).bind fun v13 =>
       (ixO v9.Byte s46.length).bind fun v14 =>
       (some (s46.set v14 v13)).bind fun v15 =>
       some (.inl (v15, s47)))
       ((sym_Len v9.Len).bind fun v16 =>
       (sym_Dist v9.Dist).bind fun v17 =>
       (ixO v16.1 s46.length).bind fun v18 =>
       (getO s46 v18).bind fun v19 =>
       (some (IntKind.i64.wrap (v19 + 1))).bind fun v20 =>
       (ixO v16.1 s46.length).bind fun v21 =>
       (some (s46.set v21 v20)).bind fun v22 =>
       (ixO v17.1 s47.length).bind fun v23 =>
       (getO s47 v23).bind fun v24 =>
       (some (IntKind.i64.wrap (v24 + 1))).bind fun v25 =>
       (ixO v17.1 s47.length).bind fun v26 =>
       (some (s47.set v26 v25)).bind fun v27 =>
       some (.inl (v22, v27))))
      (fun ((s67, s68) : (List Int) × (List Int)) =>
       (some (IntKind.i64.wrap (s48 + 1))).bind fun v34 =>
       some (.inl (s67, s68, v34))) some)
     (some (.inr (.inl (s46, s47)))))
    BIG (v6, v4, 0))
   (fun ((s57, s58) : (List Int) × (List Int)) =>
    some ((s57, s58, 0))) some)

def tree_positive (weights : (List Int)) : Option (List Int) :=
 bindS (S := ((List Int))) (A := (List Int))
  (loopF (S := ((List Int) × Int)) (O := ((List Int)) ⊕ (List Int)) (fun ((s21, s22) : (List Int) × Int) =>
   cond ((decide (s22 < (weights.length : Int))))
    (bindS (S := (List Int)) (A := (((List Int) × Int) ⊕ (((List Int)) ⊕ (List Int))))
     ((ixO s22 weights.length).bind fun v2 =>
     (getO weights v2).bind fun v3 =>
     cond ((decide (0 < v3)))
      ((appO 8 s21 [s22]).bind fun v5 =>
      some (.inl v5))
      (some (.inl s21)))
     (fun (s39 : (List Int)) =>
      (some (IntKind.i64.wrap (s22 + 1))).bind fun v11 =>
      some (.inl (s39, v11))) some)
    (some (.inr (.inl s21))))
   BIG ([], 0))
  (fun (s30 : (List Int)) =>
   some (s30)) some

def tree_validLimit (weights : (List Int)) (limit : Int) : Option Bool :=
 bindS (S := Int) (A := Bool)
  ((tree_positive weights).bind fun v1 =>
  cond ((decide ((v1.length : Int) ≤ 19)))
   (some (.inl 5))
   (some (.inl 9)))
  (fun (s3 : Int) =>
   bindS (S := Bool) (A := Bool)
    (cond ((decide (s3 ≤ limit)))
     (some (.inl ((decide (limit ≤ 15)))))
     (some (.inl false)))
    (fun (s8 : Bool) =>
     some (s8)) some) some

def tree_merge_1_clo (cap0 : Int) (cap1 : Int) (cap2 : Int) (cap3 : (List T_tree_node)) : Option (Int × Int × Int × Int × (List T_tree_node)) :=
 bindS (S := Bool) (A := (Int × Int × Int × Int × (List T_tree_node)))
  (cond ((decide (cap0 < cap1)))
   (cond ((cap2 == (cap3.length : Int)))
    (some (.inl true))
    ((ixO cap0 cap3.length).bind fun v1 =>
    (getO cap3 v1).bind fun v2 =>
    (ixO cap2 cap3.length).bind fun v3 =>
    (getO cap3 v3).bind fun v4 =>
    some (.inl ((decide (v2.weight ≤ v4.weight))))))
   (some (.inl false)))
  (fun (s5 : Bool) =>
   cond (s5)
    ((some (IntKind.i64.wrap (cap0 + 1))).bind fun v10 =>
    (some (IntKind.i64.wrap (v10 - 1))).bind fun v11 =>
    some ((v11, v10, cap1, cap2, cap3)))
    ((some (IntKind.i64.wrap (cap2 + 1))).bind fun v12 =>
    (some (IntKind.i64.wrap (v12 - 1))).bind fun v13 =>
    some ((v13, cap0, cap1, v12, cap3)))) some

def tree_merge (nodes : (List T_tree_node)) : Option (List T_tree_node) :=
 bindS (S := ((List T_tree_node))) (A := (List T_tree_node))
  (loopF (S := ((List T_tree_node) × Int × Int × Int)) (O := ((List T_tree_node)) ⊕ (List T_tree_node)) (fun ((s42, s43, s44, s45) : (List T_tree_node) × Int × Int × Int) =>
   (some (IntKind.i64.wrap (2 * s43))).bind fun v1 =>
   (some (IntKind.i64.wrap (v1 - 1))).bind fun v2 =>
   cond ((decide ((s42.length : Int) < v2)))
    ((tree_merge_1_clo s44 s43 s45 s42).bind fun v4 =>
    (tree_merge_1_clo v4.2.1 v4.2.2.1 v4.2.2.2.1 v4.2.2.2.2).bind fun v5 =>
    (ixO v4.1 v5.2.2.2.2.length).bind fun v6 =>
    (getO v5.2.2.2.2 v6).bind fun v7 =>
    (some (v5.2.2.2.2.set v6 ((T_tree_node.mk v7.weight (v5.2.2.2.2.length : Int))))).bind fun v8 =>
    (ixO v5.1 v5.2.2.2.2.length).bind fun v9 =>
    (getO v8 v9).bind fun v10 =>
    (some (v8.set v9 ((T_tree_node.mk v10.weight (v5.2.2.2.2.length : Int))))).bind fun v11 =>
    (ixO v4.1 v11.length).bind fun v12 =>
    (getO v11 v12).bind fun v13 =>
    (ixO v5.1 v11.length).bind fun v14 =>
    (getO v11 v14).bind fun v15 =>
    (some (IntKind.i64.wrap (v13.weight + v15.weight))).bind fun v16 =>
    (appO 16 v11 [(T_tree_node.mk v16 0)]).bind fun v17 =>
    some (.inl (v17, v5.2.2.1, v5.2.1, v5.2.2.2.1)))
    (some (.inr (.inl s42))))
   BIG ((nodes, (nodes.length : Int), 0, (nodes.length : Int))))
  (fun (s47 : (List T_tree_node)) =>
   some (s47)) some

def tree_depths (weights : (List Int)) : Option (List Int) :=
 (mkO 8 (weights.length : Int) (0 : Int)).bind fun v1 =>
 (tree_positive weights).bind fun v2 =>
 cond (((v2.length : Int) == 0))
  (some (v1))
  (cond (((v2.length : Int) == 1))
   ((ixO 0 v2.length).bind fun v5 =>
   (getO v2 v5).bind fun v6 =>
   (ixO v6 v1.length).bind fun v7 =>
   (some (v1.set v7 1)).bind fun v8 =>
   some (v8))
   ((slices_SortStable weights v2).bind fun v9 =>
   (some (IntKind.i64.wrap (2 * (v9.length : Int)))).bind fun v10 =>
   (mkcO 16 v10).bind fun v11 =>
   bindS (S := ((List T_tree_node))) (A := (List Int))
    (loopF (S := ((List T_tree_node) × Int)) (O := ((List T_tree_node)) ⊕ (List Int)) (fun ((s22, s23) : (List T_tree_node) × Int) =>
     cond ((decide (s23 < (v9.length : Int))))
      ((ixO s23 v9.length).bind fun v13 =>
      (getO v9 v13).bind fun v14 =>
      (ixO v14 weights.length).bind fun v15 =>
      (getO weights v15).bind fun v16 =>
      (appO 16 s22 [(T_tree_node.mk v16 0)]).bind fun v17 =>
      (some (IntKind.i64.wrap (s23 + 1))).bind fun v18 =>
      some (.inl (v17, v18)))
      (some (.inr (.inl s22))))
     BIG ((([] : List T_tree_node), 0)))
    (fun (s25 : (List T_tree_node)) =>
     (tree_merge s25).bind fun v33 =>
     (mkO 8 (v33.length : Int) (0 : Int)).bind fun v34 =>
     (some (IntKind.i64.wrap ((v33.length : Int) - 2))).bind fun v35 =>
     bindS (S := ((List Int))) (A := (List Int))
      (loopF (S := ((List Int) × Int)) (O := ((List Int)) ⊕ (List Int)) (fun ((s48, s49) : (List Int) × Int) =>
       cond ((decide (0 ≤ s49)))
        ((ixO s49 v33.length).bind fun v37 =>
        (getO v33 v37).bind fun v38 =>
        (ixO v38.parent s48.length).bind fun v39 =>
        (getO s48 v39).bind fun v40 =>
        (some (IntKind.i64.wrap (v40 + 1))).bind fun v41 =>
        (ixO s49 s48.length).bind fun v42 =>
        (some (s48.set v42 v41)).bind fun v43 =>
        (some (IntKind.i64.wrap (s49 - 1))).bind fun v44 =>
        some (.inl (v43, v44)))
        (some (.inr (.inl s48))))
       BIG (v34, v35))
      (fun (s51 : (List Int)) =>
       bindS (S := ((List Int))) (A := (List Int))
        (loopF (S := ((List Int) × Int)) (O := ((List Int)) ⊕ (List Int)) (fun ((s70, s71) : (List Int) × Int) =>
         cond ((decide (s71 < (v9.length : Int))))
          ((ixO s71 v9.length).bind fun v60 =>
          (getO v9 v60).bind fun v61 =>
          (ixO s71 s51.length).bind fun v62 =>
          (getO s51 v62).bind fun v63 =>
          (ixO v61 s70.length).bind fun v64 =>
          (some (s70.set v64 v63)).bind fun v65 =>
          (some (IntKind.i64.wrap (s71 + 1))).bind fun v66 =>
          some (.inl (v65, v66)))
          (some (.inr (.inl s70))))
         BIG (v1, 0))
        (fun (s73 : (List Int)) =>
         some (s73)) some) some) some))

def tree_Lengths_1_cap (n : Int) (cap : Int) : Option Bool :=
 some ((decide (cap < n)))

def slices_IndexFunc_int_int_of_tree_Lengths_1 (s : (List Int)) (cap : Int) : Option Int :=
 bindS (S := (Unit)) (A := Int)
  (loopF (S := (Int)) (O := (Unit) ⊕ Int) (fun (s10 : Int) =>
   cond ((decide (s10 < (s.length : Int))))
    ((ixO s10 s.length).bind fun v2 =>
    (getO s v2).bind fun v3 =>
    (tree_Lengths_1_cap v3 cap).bind fun v4 =>
    cond (v4)
     (some (.inr (.inr (s10))))
     ((some (IntKind.i64.wrap (s10 + 1))).bind fun v6 =>
     some (.inl v6)))
    (some (.inr (.inl ()))))
   BIG 0)
  (fun (() : Unit) =>
   some ((-1))) some

def slices_ContainsFunc_int_int_of_tree_Lengths_1 (s : (List Int)) (cap : Int) : Option Bool :=
 (slices_IndexFunc_int_int_of_tree_Lengths_1 s cap).bind fun v1 =>
 some ((decide (0 ≤ v1)))

def tree_Lengths (weights : (List Int)) (limit : Int) : Option ((List Int) × Int) :=
 bindS (S := Bool) (A := ((List Int) × Int))
  ((tree_validWeights weights).bind fun v1 =>
  cond ((!v1))
   (some (.inl true))
   ((tree_validLimit weights limit).bind fun v2 =>
   some (.inl (!v2))))
  (fun (s3 : Bool) =>
   cond (s3)
    (some (([], 1)))
    ((slices_Clone_int_int weights).bind fun v8 =>
    bindS (S := (Unit)) (A := ((List Int) × Int))
     (loopF (S := ((List Int))) (O := (Unit) ⊕ ((List Int) × Int)) (fun (s51 : (List Int)) =>
      (tree_depths s51).bind fun v9 =>
      (slices_ContainsFunc_int_int_of_tree_Lengths_1 v9 limit).bind fun v10 =>
      cond ((!v10))
       (some (.inr (.inr ((v9, 0)))))
       (bindS (S := ((List Int))) (A := (((List Int)) ⊕ ((Unit) ⊕ ((List Int) × Int))))
        (loopF (S := ((List Int) × Int)) (O := ((List Int)) ⊕ (((List Int)) ⊕ ((Unit) ⊕ ((List Int) × Int)))) (fun ((s79, s80) : (List Int) × Int) =>
         cond ((decide (s80 < (s51.length : Int))))
          ((ixO s80 s79.length).bind fun v13 =>
          (getO s79 v13).bind fun v14 =>
          (some (IntKind.i64.wrap (v14 + 1))).bind fun v15 =>
          (quoO .i64 v15 2).bind fun v16 =>
          (ixO s80 s79.length).bind fun v17 =>
          (some (s79.set v17 v16)).bind fun v18 =>
          (some (IntKind.i64.wrap (s80 + 1))).bind fun v19 =>
          some (.inl (v18, v19)))
          (some (.inr (.inl s79))))
         BIG (s51, 0))
        (fun (s82 : (List Int)) =>
         some (.inl s82)) some))
      BIG v8)
     (fun (() : Unit) =>
      none) some)) some

def shrink_trim_ro (l : (List Int)) (least : Int) : Option (List Int) :=
 bindS (S := (Int)) (A := (List Int))
  (loopF (S := (Int)) (O := (Int) ⊕ (List Int)) (fun (s46 : Int) =>
   bindS (S := Bool) (A := ((Int) ⊕ ((Int) ⊕ (List Int))))
    (cond ((decide (least < s46)))
     ((some (IntKind.i64.wrap (s46 - 1))).bind fun v1 =>
     (ixO v1 l.length).bind fun v2 =>
     (getO l v2).bind fun v3 =>
     some (.inl (v3 == 0)))
     (some (.inl false)))
    (fun (s59 : Bool) =>
     cond (s59)
      ((some (IntKind.i64.wrap (s46 - 1))).bind fun v9 =>
      some (.inl v9))
      (some (.inr (.inl s46)))) some)
   BIG (l.length : Int))
  (fun (s52 : Int) =>
   (sliO l 0 s52).bind fun v34 =>
   some (v34)) some

def shrink_rowStep (lengths : (List Int)) (at_ : Int) : Option (Int × Int × Int) :=
 (ixO at_ lengths.length).bind fun v1 =>
 (getO lengths v1).bind fun v2 =>
 bindS (S := (Int)) (A := (Int × Int × Int))
  (loopF (S := (Int)) (O := (Int) ⊕ (Int × Int × Int)) (fun (s19 : Int) =>
   bindS (S := Bool) (A := ((Int) ⊕ ((Int) ⊕ (Int × Int × Int))))
    ((some (IntKind.i64.wrap (at_ + s19))).bind fun v3 =>
    cond ((decide (v3 < (lengths.length : Int))))
     ((some (IntKind.i64.wrap (at_ + s19))).bind fun v4 =>
     (ixO v4 lengths.length).bind fun v5 =>
     (getO lengths v5).bind fun v6 =>
     some (.inl (v6 == v2)))
     (some (.inl false)))
    (fun (s32 : Bool) =>
     cond (s32)
      ((some (IntKind.i64.wrap (s19 + 1))).bind fun v12 =>
      some (.inl v12))
      (some (.inr (.inl s19)))) some)
   BIG 1)
  (fun (s25 : Int) =>
   bindS (S := Bool) (A := (Int × Int × Int))
    (cond ((v2 == 0))
     (some (.inl ((decide (11 ≤ s25)))))
     (some (.inl false)))
    (fun (s37 : Bool) =>
     cond (s37)
      ((some (if 138 < s25 then 138 else s25)).bind fun v42 =>
      (some (IntKind.i64.wrap (v42 - 11))).bind fun v43 =>
      some ((18, v43, v42)))
      (bindS (S := Bool) (A := (Int × Int × Int))
       (cond ((v2 == 0))
        (some (.inl ((decide (3 ≤ s25)))))
        (some (.inl false)))
       (fun (s44 : Bool) =>
        cond (s44)
         ((some (IntKind.i64.wrap (s25 - 3))).bind fun v49 =>
         some ((17, v49, s25)))
         (bindS (S := Bool) (A := (Int × Int × Int))
          (cond ((v2 != 0))
           (cond ((decide (3 ≤ s25)))
            (cond ((decide (0 < at_)))
             ((some (IntKind.i64.wrap (at_ - 1))).bind fun v50 =>
             (ixO v50 lengths.length).bind fun v51 =>
             (getO lengths v51).bind fun v52 =>
             some (.inl (v52 == v2)))
             (some (.inl false)))
            (some (.inl false)))
           (some (.inl false)))
          (fun (s53 : Bool) =>
           cond (s53)
            ((some (if 6 < s25 then 6 else s25)).bind fun v58 =>
            (some (IntKind.i64.wrap (v58 - 3))).bind fun v59 =>
            some ((16, v59, v58)))
            (some ((v2, 0, 1)))) some)) some)) some) some

def shrink_Row (lengths : (List Int)) : Option ((List Int) × (List Int) × Int) :=
 cond ((decide (320 < (lengths.length : Int))))
  (some (([], [], 1)))
  (bindS (S := (Unit)) (A := ((List Int) × (List Int) × Int))
   (loopF (S := (Int)) (O := (Unit) ⊕ ((List Int) × (List Int) × Int)) (fun (s18 : Int) =>
    cond ((decide (s18 < (lengths.length : Int))))
     ((ixO s18 lengths.length).bind fun v3 =>
     (getO lengths v3).bind fun v4 =>
     bindS (S := Bool) (A := ((Int) ⊕ ((Unit) ⊕ ((List Int) × (List Int) × Int))))
      (cond ((decide (v4 < 0)))
       (some (.inl true))
       (some (.inl ((decide (15 < v4))))))
      (fun (s32 : Bool) =>
       cond (s32)
        (some (.inr (.inr (([], [], 1)))))
        ((some (IntKind.i64.wrap (s18 + 1))).bind fun v10 =>
        some (.inl v10))) some)
     (some (.inr (.inl ()))))
    BIG 0)
   (fun (() : Unit) =>
    bindS (S := ((List Int) × (List Int))) (A := ((List Int) × (List Int) × Int))
     (loopF (S := ((List Int) × (List Int) × Int)) (O := ((List Int) × (List Int)) ⊕ ((List Int) × (List Int) × Int)) (fun ((s46, s47, s48) : (List Int) × (List Int) × Int) =>
      cond ((decide (s48 < (lengths.length : Int))))
       ((shrink_rowStep lengths s48).bind fun v38 =>
       (appO 8 s46 [v38.1]).bind fun v39 =>
       (appO 8 s47 [v38.2.1]).bind fun v40 =>
       (some (IntKind.i64.wrap (s48 + v38.2.2))).bind fun v41 =>
       some (.inl (v39, v40, v41)))
       (some (.inr (.inl (s46, s47)))))
      BIG ([], [], 0))
     (fun ((s50, s51) : (List Int) × (List Int)) =>
      some ((s50, s51, 0))) some) some)

set_option maxRecDepth 100000 in
def shrink_rowOrder : List Int := (16 :: 17 :: 18 :: 0 :: 8 :: 7 :: 9 :: 6 :: 10 :: 5 :: 11 :: 4 :: 12 :: 3 :: 13 :: 2 :: 14 :: 1 :: 15 :: [])

def shrink_rowMore (s : Int) : Option Int :=
 cond ((s == 16))
  (some (2))
  (cond ((s == 17))
   (some (3))
   (cond ((s == 18))
    (some (7))
    (some (0))))

def shrink_writer_putLengths (w : T_shrink_writer) (lits : (List Int)) (dists : (List Int)) : Option T_shrink_writer :=
 (appO 8 ([] : List Int) lits).bind fun v1 =>
 (appO 8 v1 dists).bind fun v2 =>
 (shrink_Row v2).bind fun v3 =>
 (mkO 8 19 (0 : Int)).bind fun v4 =>
 bindS (S := ((List Int))) (A := T_shrink_writer)
  (loopF (S := ((List Int) × Int)) (O := ((List Int)) ⊕ T_shrink_writer) (fun ((s17, s18) : (List Int) × Int) =>
   cond ((decide (s18 < (v3.1.length : Int))))
    ((ixO s18 v3.1.length).bind fun v6 =>
    (getO v3.1 v6).bind fun v7 =>
    (ixO v7 s17.length).bind fun v8 =>
    (getO s17 v8).bind fun v9 =>
    (some (IntKind.i64.wrap (v9 + 1))).bind fun v10 =>
    (ixO v7 s17.length).bind fun v11 =>
    (some (s17.set v11 v10)).bind fun v12 =>
    (some (IntKind.i64.wrap (s18 + 1))).bind fun v13 =>
    some (.inl (v12, v13)))
    (some (.inr (.inl s17))))
   BIG (v4, 0))
  (fun (s20 : (List Int)) =>
   (tree_Lengths s20 7).bind fun v28 =>
   (mkO 8 19 (0 : Int)).bind fun v29 =>
   bindS (S := ((List Int))) (A := T_shrink_writer)
    (loopF (S := ((List Int) × Int)) (O := ((List Int)) ⊕ T_shrink_writer) (fun ((s41, s42) : (List Int) × Int) =>
     cond ((decide (s42 < 19)))
      ((ixO s42 19).bind fun v31 =>
      (getO shrink_rowOrder v31).bind fun v32 =>
      (ixO v32 v28.1.length).bind fun v33 =>
      (getO v28.1 v33).bind fun v34 =>
      (ixO s42 s41.length).bind fun v35 =>
      (some (s41.set v35 v34)).bind fun v36 =>
      (some (IntKind.i64.wrap (s42 + 1))).bind fun v37 =>
      some (.inl (v36, v37)))
      (some (.inr (.inl s41))))
     BIG (v29, 0))
    (fun (s44 : (List Int)) =>
     (shrink_trim_ro s44 4).bind fun v52 =>
     (some (IntKind.i64.wrap ((lits.length : Int) - 257))).bind fun v53 =>
     (shrink_writer_put w v53 5).bind fun v54 =>
     (some (IntKind.i64.wrap ((dists.length : Int) - 1))).bind fun v55 =>
     (shrink_writer_put v54 v55 5).bind fun v56 =>
     (some (IntKind.i64.wrap ((v52.length : Int) - 4))).bind fun v57 =>
     (shrink_writer_put v56 v57 4).bind fun v58 =>
     bindS (S := ((List Int) × Int)) (A := T_shrink_writer)
      (loopF (S := ((List Int) × Int × Int)) (O := ((List Int) × Int) ⊕ T_shrink_writer) (fun ((s68, s69, s70) : (List Int) × Int × Int) =>
       cond ((decide (s70 < (v52.length : Int))))
        ((ixO s70 v52.length).bind fun v60 =>
        (getO v52 v60).bind fun v61 =>
        (shrink_writer_put (T_shrink_writer.mk s68 s69) v61 3).bind fun v62 =>
        (some (IntKind.i64.wrap (s70 + 1))).bind fun v63 =>
        some (.inl (v62.b, v62.n, v63)))
        (some (.inr (.inl (s68, s69)))))
       BIG (v58.b, v58.n, 0))
      (fun ((s72, s73) : (List Int) × Int) =>
       (shrink_newCode_ro v28.1).bind fun v81 =>
       bindS (S := ((List Int) × Int)) (A := T_shrink_writer)
        (loopF (S := ((List Int) × Int × Int)) (O := ((List Int) × Int) ⊕ T_shrink_writer) (fun ((s95, s96, s97) : (List Int) × Int × Int) =>
         cond ((decide (s97 < (v3.1.length : Int))))
          ((ixO s97 v3.1.length).bind fun v83 =>
          (getO v3.1 v83).bind fun v84 =>
          (shrink_writer_putSym (T_shrink_writer.mk s95 s96) v81 v84).bind fun v85 =>
          (ixO s97 v3.2.1.length).bind fun v86 =>
          (getO v3.2.1 v86).bind fun v87 =>
          (shrink_rowMore v84).bind fun v88 =>
          (shrink_writer_put v85 v87 v88).bind fun v89 =>
          (some (IntKind.i64.wrap (s97 + 1))).bind fun v90 =>
          some (.inl (v89.b, v89.n, v90)))
          (some (.inr (.inl (s95, s96)))))
         BIG (s72, s73, 0))
        (fun ((s99, s100) : (List Int) × Int) =>
         some ((T_shrink_writer.mk s99 s100))) some) some) some) some

def shrink_dynamicBlock (l : (List T_Tok)) : Option (Option T_shrink_writer) :=
 (sym_Weights l).bind fun v1 =>
 (tree_Lengths v1.1 15).bind fun v2 =>
 (tree_Lengths v1.2.1 15).bind fun v3 =>
 (shrink_newBlock 2).bind fun v4 =>
 obS v4 (fun (v5 : T_shrink_writer) =>
  (shrink_trim_ro v2.1 257).bind fun v7 =>
  (shrink_trim_ro v3.1 1).bind fun v8 =>
  (shrink_writer_putLengths v5 v7 v8).bind fun v9 =>
  (shrink_newCode_ro v2.1).bind fun v10 =>
  (shrink_newCode_ro v3.1).bind fun v11 =>
  (shrink_writer_putTokens v9 l v10 v11).bind fun v12 =>
  some (some v12))
  (none)

def shrink_Shrink (b : (List Int)) : Option ((List Int) × Int) :=
 (match_Tokens b).bind fun v1 =>
 cond ((v1.2 != 0))
  (some (([], v1.2)))
  ((shrink_storedBlock b).bind fun v2 =>
  (shrink_fixedBlock v1.1).bind fun v3 =>
  (shrink_dynamicBlock v1.1).bind fun v4 =>
  obS v2 (fun s =>
   obS v3 (fun f =>
    obS v4 (fun d =>
     some (((if d.n < (if f.n < s.n then f.n else s.n) then d.b else if f.n < s.n then f.b else s.b), 0)))
     none)
    none)
   none)

def shrink_Stored (b : (List Int)) : Option ((List Int) × Int) :=
 cond ((decide (4096 < (b.length : Int))))
  (some (([], 2)))
  ((shrink_storedBlock b).bind fun v2 =>
  (v2).bind fun v3 =>
  some ((v3.b, 0)))

def wherrykeep_Bytes (a : (List Int)) (b : (List Int)) : Option Bool :=
 cond (((a.length : Int) != (b.length : Int)))
  (some (false))
  (bindS (S := (Unit)) (A := Bool)
   (loopF (S := (Int)) (O := (Unit) ⊕ Bool) (fun (s12 : Int) =>
    cond ((decide (s12 < (a.length : Int))))
     ((ixO s12 a.length).bind fun v3 =>
     (getO a v3).bind fun v4 =>
     (ixO s12 b.length).bind fun v5 =>
     (getO b v5).bind fun v6 =>
     cond ((v4 != v6))
      (some (.inr (.inr (false))))
      ((some (IntKind.i64.wrap (s12 + 1))).bind fun v8 =>
      some (.inl v8)))
     (some (.inr (.inl ()))))
    BIG 0)
   (fun (() : Unit) =>
    some (true)) some)

def wherrykeep_Ints (a : (List Int)) (b : (List Int)) : Option Bool :=
 cond (((a.length : Int) != (b.length : Int)))
  (some (false))
  (bindS (S := (Unit)) (A := Bool)
   (loopF (S := (Int)) (O := (Unit) ⊕ Bool) (fun (s12 : Int) =>
    cond ((decide (s12 < (a.length : Int))))
     ((ixO s12 a.length).bind fun v3 =>
     (getO a v3).bind fun v4 =>
     (ixO s12 b.length).bind fun v5 =>
     (getO b v5).bind fun v6 =>
     cond ((v4 != v6))
      (some (.inr (.inr (false))))
      ((some (IntKind.i64.wrap (s12 + 1))).bind fun v8 =>
      some (.inl v8)))
     (some (.inr (.inl ()))))
    BIG 0)
   (fun (() : Unit) =>
    some (true)) some)

def wherrylaw06_wakes : Option Bool :=
 (shrink_Shrink []).bind fun v1 =>
 (shrink_Stored [7]).bind fun v2 =>
 (shrink_Row [0, 0, 0, 4]).bind fun v3 =>
 bindS (S := Bool) (A := Bool)
  (cond ((v1.2 == 0))
   (cond ((v2.2 == 0))
    (cond ((v3.2.2 == 0))
     ((wherrykeep_Bytes v1.1 [3, 0]).bind fun v4 =>
     cond (v4)
      ((wherrykeep_Bytes v2.1 [1, 1, 0, 254, 255, 7]).bind fun v5 =>
      cond (v5)
       ((wherrykeep_Ints v3.1 [17, 4]).bind fun v6 =>
       cond (v6)
        ((wherrykeep_Ints v3.2.1 [0, 0]).bind fun v7 =>
        some (.inl v7))
        (some (.inl false)))
       (some (.inl false)))
      (some (.inl false)))
     (some (.inl false)))
    (some (.inl false)))
   (some (.inl false)))
  (fun (s8 : Bool) =>
   some (s8)) some

def wherrylaw06_ShrinkBits (b : (List Int)) : Option Bool :=
 cond ((decide (1200 < (b.length : Int))))
  (some (true))
  ((wherryref01_Tokens b).bind fun v2 =>
  (wherryref01_Weights v2.1).bind fun v3 =>
  (wherryref01_Fixed ).bind fun v4 =>
  bindS (S := Bool) (A := Bool)
   (cond ((v2.2 != 0))
    (some (.inl true))
    (some (.inl (v3.2.2 != 0))))
   (fun (s5 : Bool) =>
    cond (s5)
     (some (true))
     ((sliO v4.1 0 286).bind fun v10 =>
     (tree_Cost v3.1 v10).bind fun v11 =>
     (sliO v4.2 0 30).bind fun v12 =>
     (tree_Cost v3.2.1 v12).bind fun v13 =>
     bindS (S := Bool) (A := Bool)
      (cond ((v11.2 != 0))
       (some (.inl true))
       (some (.inl (v13.2 != 0))))
      (fun (s14 : Bool) =>
       cond (s14)
        (some (false))
        ((some (IntKind.i64.wrap (3 + v11.1))).bind fun v19 =>
        (some (IntKind.i64.wrap (v19 + v13.1))).bind fun v20 =>
        bindS (S := (Int)) (A := Bool)
         (loopF (S := (Int × Int)) (O := (Int) ⊕ Bool) (fun ((s48, s49) : Int × Int) =>
          cond ((decide (s49 < (v2.1.length : Int))))
           (bindS (S := Int) (A := ((Int × Int) ⊕ ((Int) ⊕ Bool)))
            ((ixO s49 v2.1.length).bind fun v22 =>
            (getO v2.1 v22).bind fun v23 =>
            cond ((decide (0 < v23.Len)))
             ((ixO s49 v2.1.length).bind fun v25 =>
             (getO v2.1 v25).bind fun v26 =>
             (wherryref01_Len v26.Len).bind fun v27 =>
             (ixO s49 v2.1.length).bind fun v28 =>
             (getO v2.1 v28).bind fun v29 =>
             (wherryref01_Dist v29.Dist).bind fun v30 =>
             (some (IntKind.i64.wrap (s48 + v27.2.1))).bind fun v31 =>
             (some (IntKind.i64.wrap (v31 + v30.2.1))).bind fun v32 =>
             some (.inl v32))
             (some (.inl s48)))
            (fun (s66 : Int) =>
             (some (IntKind.i64.wrap (s49 + 1))).bind fun v38 =>
             some (.inl (s66, v38))) some)
           (some (.inr (.inl s48))))
          BIG (v20, 0))
         (fun (s57 : Int) =>
          (shrink_Fixed b).bind fun v71 =>
          bindS (S := Bool) (A := Bool)
           (cond ((v71.2 == 0))
            ((some (IntKind.i64.wrap (s57 + 7))).bind fun v72 =>
            (quoO .i64 v72 8).bind fun v73 =>
            cond (((v71.1.length : Int) == v73))
             ((wherrylaw06_wakes ).bind fun v74 =>
             some (.inl v74))
             (some (.inl false)))
            (some (.inl false)))
           (fun (s75 : Bool) =>
            some (s75)) some) some)) some)) some)

def wherryref01_RightLengths (l : (List Int)) : Option Bool :=
 cond ((decide (300 < (l.length : Int))))
  (some (false))
  (bindS (S := (Unit)) (A := Bool)
   (loopF (S := (Int)) (O := (Unit) ⊕ Bool) (fun (s11 : Int) =>
    cond ((decide (s11 < (l.length : Int))))
     ((ixO s11 l.length).bind fun v3 =>
     (getO l v3).bind fun v4 =>
     (wherryref01_in v4 0 15).bind fun v5 =>
     cond ((!v5))
      (some (.inr (.inr (false))))
      ((some (IntKind.i64.wrap (s11 + 1))).bind fun v7 =>
      some (.inl v7)))
     (some (.inr (.inl ()))))
    BIG 0)
   (fun (() : Unit) =>
    some (true)) some)

def wherryref01_Weigh (l : (List Int)) : Option Int :=
 (wherryref01_RightLengths l).bind fun v1 =>
 cond ((!v1))
  (some (0))
  (bindS (S := (Int)) (A := Int)
   (loopF (S := (Int × Int)) (O := (Int) ⊕ Int) (fun ((s28, s29) : Int × Int) =>
    cond ((decide (s29 < (l.length : Int))))
     (bindS (S := Int) (A := ((Int × Int) ⊕ ((Int) ⊕ Int)))
      ((ixO s29 l.length).bind fun v4 =>
      (getO l v4).bind fun v5 =>
      cond ((decide (0 < v5)))
       ((ixO s29 l.length).bind fun v7 =>
       (getO l v7).bind fun v8 =>
       (some (IntKind.i64.wrap (15 - v8))).bind fun v9 =>
       (some (IntKind.u64.wrap v9)).bind fun v10 =>
       (shlO .i64 1 v10).bind fun v11 =>
       (some (IntKind.i64.wrap (s28 + v11))).bind fun v12 =>
       some (.inl v12))
       (some (.inl s28)))
      (fun (s46 : Int) =>
       (some (IntKind.i64.wrap (s29 + 1))).bind fun v18 =>
       some (.inl (s46, v18))) some)
     (some (.inr (.inl s28))))
    BIG (0, 0))
   (fun (s37 : Int) =>
    some (s37)) some)

def wherryref01_makes (l : (List Int)) : Option Bool :=
 bindS (S := (Int × Int)) (A := Bool)
  (loopF (S := (Int × Int × Int)) (O := (Int × Int) ⊕ Bool) (fun ((s26, s27, s28) : Int × Int × Int) =>
   cond ((decide (s28 < (l.length : Int))))
    (bindS (S := Int × Int) (A := ((Int × Int × Int) ⊕ ((Int × Int) ⊕ Bool)))
     ((ixO s28 l.length).bind fun v2 =>
     (getO l v2).bind fun v3 =>
     cond ((decide (0 < v3)))
      ((some (IntKind.i64.wrap (s26 + 1))).bind fun v5 =>
      (ixO s28 l.length).bind fun v6 =>
      (getO l v6).bind fun v7 =>
      some (.inl (v5, v7)))
      (some (.inl (s26, s27))))
     (fun ((s47, s48) : Int × Int) =>
      (some (IntKind.i64.wrap (s28 + 1))).bind fun v14 =>
      some (.inl (s47, s48, v14))) some)
    (some (.inr (.inl (s26, s27)))))
   BIG (0, 0, 0))
  (fun ((s37, s38) : Int × Int) =>
   bindS (S := Bool) (A := Bool)
    (cond ((s37 == 0))
     (some (.inl true))
     (cond ((s37 == 1))
      (cond ((s38 == 1))
       (some (.inl true))
       ((wherryref01_Weigh l).bind fun v53 =>
       some (.inl (v53 == 32768))))
      ((wherryref01_Weigh l).bind fun v54 =>
      some (.inl (v54 == 32768)))))
    (fun (s55 : Bool) =>
     some (s55)) some) some

def wherryref01_codes (l : (List Int)) : Option (List Int) :=
 (mkO 8 (l.length : Int) (0 : Int)).bind fun v1 =>
 bindS (S := ((List Int))) (A := (List Int))
  (loopF (S := ((List Int) × Int × Int)) (O := ((List Int)) ⊕ (List Int)) (fun ((s107, s108, s109) : (List Int) × Int × Int) =>
   cond ((decide (s109 ≤ 15)))
    ((some (IntKind.i64.wrap (2 * s108))).bind fun v3 =>
    bindS (S := ((List Int) × Int)) (A := (((List Int) × Int × Int) ⊕ (((List Int)) ⊕ (List Int))))
     (loopF (S := ((List Int) × Int × Int)) (O := ((List Int) × Int) ⊕ (((List Int) × Int × Int) ⊕ (((List Int)) ⊕ (List Int)))) (fun ((s184, s185, s186) : (List Int) × Int × Int) =>
      cond ((decide (s186 < (l.length : Int))))
       (bindS (S := (List Int) × Int) (A := (((List Int) × Int × Int) ⊕ (((List Int) × Int) ⊕ (((List Int) × Int × Int) ⊕ (((List Int)) ⊕ (List Int))))))
        ((ixO s186 l.length).bind fun v5 =>
        (getO l v5).bind fun v6 =>
        cond ((v6 == s109))
         ((ixO s186 s184.length).bind fun v8 =>
         (some (s184.set v8 s185)).bind fun v9 =>
         (some (IntKind.i64.wrap (s185 + 1))).bind fun v10 =>
         some (.inl (v9, v10)))
         (some (.inl (s184, s185))))
        (fun ((s205, s206) : (List Int) × Int) =>
         (some (IntKind.i64.wrap (s186 + 1))).bind fun v17 =>
         some (.inl (s205, s206, v17))) some)
       (some (.inr (.inl (s184, s185)))))
      BIG (s107, v3, 0))
     (fun ((s195, s196) : (List Int) × Int) =>
      (some (IntKind.i64.wrap (s109 + 1))).bind fun v56 =>
      some (.inl (s195, s196, v56))) some)
    (some (.inr (.inl s107))))
   BIG (v1, 0, 1))
  (fun (s157 : (List Int)) =>
   some (s157)) some

end Go.Abs.Sh
