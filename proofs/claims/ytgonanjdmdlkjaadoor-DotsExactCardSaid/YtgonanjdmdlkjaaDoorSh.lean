/-
 The program told in Lean: plain functions; none where Go would panic or a slice outgrow its room.
-/
import Derived.Test.YtgonanjdmdlkjaaDoorAN
set_option linter.unusedVariables false
namespace Go.Abs.Sh

def Row_int_u8.ienc (x : List Int) : List IC := [.row 1 (List.map IC.v (List.map (Value.int .u8) x))]
theorem Row_int_u8.ilen (x : List Int) : (Row_int_u8.ienc x).length = 1 := rfl

def wherrykeep_Twin (l : (List Int)) : Option (List Int) :=
 (appO 1 ([] : List Int) l).bind fun v1 =>
 some (v1)

def dots_lines (b : (List Int)) : Option (List Int) :=
 some (b)

def bytes_Cut_sh (s : (List Int)) (sep : (List Int)) : Option ((List Int) × (List Int) × Bool) :=
 (bytes_Index s sep).bind fun v1 =>
 cond ((decide (0 ≤ v1)))
  ((sliO s 0 v1).bind fun v3 =>
  (some (IntKind.i64.wrap (v1 + (sep.length : Int)))).bind fun v4 =>
  (sliO s v4 (s.length : Int)).bind fun v5 =>
  some ((v3, v5, true)))
  (some ((s, [], false)))

def dots_lines_1 {S : Type} (Y : (List Int) → S → Option (S × Bool)) (c0 : (List Int)) (st : S) : Option S :=
 bindS (S := (Unit)) (A := S)
  (loopF (S := ((List Int) × S)) (O := (Unit) ⊕ S) (fun ((s17, s18) : (List Int) × S) =>
   (bytes_Cut_sh s17 [13, 10]).bind fun v1 =>
   bindS (S := S × Bool) (A := (((List Int) × S) ⊕ ((Unit) ⊕ S)))
    (cond ((!v1.2.2))
     (some (.inl (s18, true)))
     ((Y v1.1 s18).bind fun v2 =>
     some (.inl ((v2.1, (!v2.2))))))
    (fun ((s31, s32) : S × Bool) =>
     cond (s32)
      (some (.inr (.inr (s31))))
      (some (.inl (v1.2.1, s31)))) some)
   BIG (c0, st))
  (fun (() : Unit) =>
   none) some

set_option maxRecDepth 100000 in
def utf8_first : List Int := (240 :: 240 :: 240 :: 240 :: 240 :: 240 :: 240 :: 240 :: 240 :: 240 :: 240 :: 240 :: 240 :: 240 :: 240 :: 240 :: 240 :: 240 :: 240 :: 240 :: 240 :: 240 :: 240 :: 240 :: 240 :: 240 :: 240 :: 240 :: 240 :: 240 :: 240 :: 240 :: 240 :: 240 :: 240 :: 240 :: 240 :: 240 :: 240 :: 240 :: 240 :: 240 :: 240 :: 240 :: 240 :: 240 :: 240 :: 240 :: 240 :: 240 :: 240 :: 240 :: 240 :: 240 :: 240 :: 240 :: 240 :: 240 :: 240 :: 240 :: 240 :: 240 :: 240 :: 240 :: 240 :: 240 :: 240 :: 240 :: 240 :: 240 :: 240 :: 240 :: 240 :: 240 :: 240 :: 240 :: 240 :: 240 :: 240 :: 240 :: 240 :: 240 :: 240 :: 240 :: 240 :: 240 :: 240 :: 240 :: 240 :: 240 :: 240 :: 240 :: 240 :: 240 :: 240 :: 240 :: 240 :: 240 :: 240 :: 240 :: 240 :: 240 :: 240 :: 240 :: 240 :: 240 :: 240 :: 240 :: 240 :: 240 :: 240 :: 240 :: 240 :: 240 :: 240 :: 240 :: 240 :: 240 :: 240 :: 240 :: 240 :: 240 :: 240 :: 240 :: 240 :: 240 :: 240 :: 240 :: 241 :: 241 :: 241 :: 241 :: 241 :: 241 :: 241 :: 241 :: 241 :: 241 :: 241 :: 241 :: 241 :: 241 :: 241 :: 241 :: 241 :: 241 :: 241 :: 241 :: 241 :: 241 :: 241 :: 241 :: 241 :: 241 :: 241 :: 241 :: 241 :: 241 :: 241 :: 241 :: 241 :: 241 :: 241 :: 241 :: 241 :: 241 :: 241 :: 241 :: 241 :: 241 :: 241 :: 241 :: 241 :: 241 :: 241 :: 241 :: 241 :: 241 :: 241 :: 241 :: 241 :: 241 :: 241 :: 241 :: 241 :: 241 :: 241 :: 241 :: 241 :: 241 :: 241 :: 241 :: 241 :: 241 :: 2 :: 2 :: 2 :: 2 :: 2 :: 2 :: 2 :: 2 :: 2 :: 2 :: 2 :: 2 :: 2 :: 2 :: 2 :: 2 :: 2 :: 2 :: 2 :: 2 :: 2 :: 2 :: 2 :: 2 :: 2 :: 2 :: 2 :: 2 :: 2 :: 2 :: 19 :: 3 :: 3 :: 3 :: 3 :: 3 :: 3 :: 3 :: 3 :: 3 :: 3 :: 3 :: 3 :: 35 :: 3 :: 3 :: 52 :: 4 :: 4 :: 4 :: 68 :: 241 :: 241 :: 241 :: 241 :: 241 :: 241 :: 241 :: 241 :: 241 :: 241 :: 241 :: [])

set_option maxRecDepth 100000 in
def utf8_accept : List Int := (128 :: 191 :: 160 :: 191 :: 128 :: 159 :: 144 :: 191 :: 128 :: 143 :: 0 :: 0 :: 0 :: 0 :: 0 :: 0 :: 0 :: 0 :: 0 :: 0 :: 0 :: 0 :: 0 :: 0 :: 0 :: 0 :: 0 :: 0 :: 0 :: 0 :: 0 :: 0 :: [])

def bytes_ContainsAny (b : (List Int)) (chars : ByteArray) : Option Bool :=
 (bytes_IndexAny b chars).bind fun v1 =>
 some ((decide (0 ≤ v1)))

def dots_Check (b : (List Int)) : Option Int :=
 (dots_lines b).bind fun v1 =>
 bindS (S := (Int)) (A := (Int))
  (rangeS (S := (Int)) (O := (Int)) (fun Y st => Sh.dots_lines_1 Y v1 st) (fun (x : (List Int)) (s8 : Int) =>
   (bytes_ContainsAny x (⟨#[13, 10]⟩ : ByteArray)).bind fun v2 =>
   cond (v2)
    (some (.inr s8))
    ((some (IntKind.i64.wrap ((x.length : Int) + 2))).bind fun v4 =>
    (some (IntKind.i64.wrap (s8 + v4))).bind fun v5 =>
    some (.inl v5)))
   0)
  (fun (s8 : Int) =>
   cond ((s8 != (b.length : Int)))
    (some (5))
    (some (0)))
  (fun (s10 : Int) =>
   some (5))

def bytes_Equal (a : (List Int)) (b : (List Int)) : Option Bool :=
 (some (bstr a)).bind fun v1 =>
 (some (bstr b)).bind fun v2 =>
 some ((v1.toList == v2.toList))

def bytes_HasPrefix (s : (List Int)) (prefix_ : (List Int)) : Option Bool :=
 bindS (S := Bool) (A := Bool)
  (cond ((decide ((prefix_.length : Int) ≤ (s.length : Int))))
   ((sliO s 0 (prefix_.length : Int)).bind fun v1 =>
   (bytes_Equal v1 prefix_).bind fun v2 =>
   some (.inl v2))
   (some (.inl false)))
  (fun (s3 : Bool) =>
   some (s3)) some

def dots_Stuff (b : (List Int)) : Option ((List Int) × Int) :=
 (dots_Check b).bind fun v1 =>
 cond ((v1 != 0))
  (some (([], v1)))
  ((dots_lines b).bind fun v3 =>
  bindS (S := ((List Int))) (A := (Unit))
   (rangeS (S := ((List Int))) (O := (Unit)) (fun Y st => Sh.dots_lines_1 Y v3 st) (fun (x : (List Int)) (s21 : (List Int)) =>
    bindS (S := (List Int)) (A := (((List Int)) ⊕ (Unit)))
     ((bytes_HasPrefix x [46]).bind fun v4 =>
     cond (v4)
      ((appO 1 s21 (sbytes (⟨#[46]⟩ : ByteArray))).bind fun v6 =>
      some (.inl v6))
      (some (.inl s21)))
     (fun (s29 : (List Int)) =>
      (appO 1 s29 x).bind fun v12 =>
      (appO 1 v12 (sbytes (⟨#[13, 10]⟩ : ByteArray))).bind fun v13 =>
      some (.inl v13)) some)
    [])
   (fun (s21 : (List Int)) =>
    (appO 1 s21 (sbytes (⟨#[46, 13, 10]⟩ : ByteArray))).bind fun v34 =>
    some ((v34, 0)))
   (fun (() : Unit) =>
    none))

def dots_lastLine (b : (List Int)) : Option (Int × Bool) :=
 (dots_lines b).bind fun v1 =>
 bindS (S := (Int)) (A := (Int))
  (rangeS (S := (Int)) (O := (Int)) (fun Y st => Sh.dots_lines_1 Y v1 st) (fun (x : (List Int)) (s8 : Int) =>
   (some (bstr x)).bind fun v2 =>
   cond ((v2.toList == (⟨#[46]⟩ : ByteArray).toList))
    (some (.inr s8))
    ((some (IntKind.i64.wrap ((x.length : Int) + 2))).bind fun v4 =>
    (some (IntKind.i64.wrap (s8 + v4))).bind fun v5 =>
    some (.inl v5)))
   0)
  (fun (s8 : Int) =>
   some ((0, false)))
  (fun (s10 : Int) =>
   some ((s10, true)))

def bytes_TrimPrefix_sh (s : (List Int)) (prefix_ : (List Int)) : Option (List Int) :=
 (bytes_HasPrefix s prefix_).bind fun v1 =>
 cond (v1)
  ((sliO s (prefix_.length : Int) (s.length : Int)).bind fun v3 =>
  some (v3))
  (some (s))

def dots_Strip (b : (List Int)) : Option ((List Int) × Int × Int) :=
 (dots_lastLine b).bind fun v1 =>
 cond ((!v1.2))
  (some (([], 0, 9)))
  ((sliO b 0 v1.1).bind fun v3 =>
  (dots_Check v3).bind fun v4 =>
  cond ((v4 != 0))
   (some (([], 0, v4)))
   ((sliO b 0 v1.1).bind fun v6 =>
   (dots_lines v6).bind fun v7 =>
   bindS (S := ((List Int))) (A := (Unit))
    (rangeS (S := ((List Int))) (O := (Unit)) (fun Y st => Sh.dots_lines_1 Y v7 st) (fun (x : (List Int)) (s12 : (List Int)) =>
     (bytes_TrimPrefix_sh x [46]).bind fun v8 =>
     (appO 1 s12 v8).bind fun v9 =>
     (appO 1 v9 (sbytes (⟨#[13, 10]⟩ : ByteArray))).bind fun v10 =>
     some (.inl v10))
     [])
    (fun (s12 : (List Int)) =>
     (some (IntKind.i64.wrap (v1.1 + 3))).bind fun v13 =>
     some ((s12, v13, 0)))
    (fun (() : Unit) =>
     none)))

def wherryref11_dot (b : (List Int)) : Option Int :=
 bindS (S := (Unit)) (A := Int)
  (loopF (S := (Int)) (O := (Unit) ⊕ Int) (fun (s30 : Int) =>
   (some (IntKind.i64.wrap (s30 + 2))).bind fun v1 =>
   cond ((decide (v1 < (b.length : Int))))
    (bindS (S := Bool) (A := ((Int) ⊕ ((Unit) ⊕ Int)))
     ((ixO s30 b.length).bind fun v3 =>
     (getO b v3).bind fun v4 =>
     cond ((v4 == 46))
      ((some (IntKind.i64.wrap (s30 + 1))).bind fun v5 =>
      (ixO v5 b.length).bind fun v6 =>
      (getO b v6).bind fun v7 =>
      cond ((v7 == 13))
       ((some (IntKind.i64.wrap (s30 + 2))).bind fun v8 =>
       (ixO v8 b.length).bind fun v9 =>
       (getO b v9).bind fun v10 =>
       cond ((v10 == 10))
        (cond ((s30 == 0))
         (some (.inl true))
         (cond ((decide (1 < s30)))
          ((some (IntKind.i64.wrap (s30 - 2))).bind fun v11 =>
          (ixO v11 b.length).bind fun v12 =>
          (getO b v12).bind fun v13 =>
          cond ((v13 == 13))
           ((some (IntKind.i64.wrap (s30 - 1))).bind fun v14 =>
           (ixO v14 b.length).bind fun v15 =>
           (getO b v15).bind fun v16 =>
           some (.inl (v16 == 10)))
           (some (.inl false)))
          (some (.inl false))))
        (some (.inl false)))
       (some (.inl false)))
      (some (.inl false)))
     (fun (s44 : Bool) =>
      cond (s44)
       (some (.inr (.inr (s30))))
       ((some (IntKind.i64.wrap (s30 + 1))).bind fun v22 =>
       some (.inl v22))) some)
    (some (.inr (.inl ()))))
   BIG 0)
  (fun (() : Unit) =>
   some ((-1))) some

def wherryref11_Body (b : (List Int)) : Option Bool :=
 bindS (S := (Unit)) (A := Bool)
  (loopF (S := (Int)) (O := (Unit) ⊕ Bool) (fun (s31 : Int) =>
   cond ((decide (s31 < (b.length : Int))))
    (bindS (S := Bool) (A := ((Int) ⊕ ((Unit) ⊕ Bool)))
     ((ixO s31 b.length).bind fun v2 =>
     (getO b v2).bind fun v3 =>
     cond ((v3 == 13))
      ((some (IntKind.i64.wrap (s31 + 1))).bind fun v4 =>
      cond ((decide ((b.length : Int) ≤ v4)))
       (some (.inl true))
       ((some (IntKind.i64.wrap (s31 + 1))).bind fun v5 =>
       (ixO v5 b.length).bind fun v6 =>
       (getO b v6).bind fun v7 =>
       cond ((v7 != 10))
        (some (.inl true))
        ((ixO s31 b.length).bind fun v8 =>
        (getO b v8).bind fun v9 =>
        cond ((v9 == 10))
         (cond ((s31 == 0))
          (some (.inl true))
          ((some (IntKind.i64.wrap (s31 - 1))).bind fun v10 =>
          (ixO v10 b.length).bind fun v11 =>
          (getO b v11).bind fun v12 =>
          some (.inl (v12 != 13))))
         (some (.inl false)))))
      ((ixO s31 b.length).bind fun v13 =>
      (getO b v13).bind fun v14 =>
      cond ((v14 == 10))
       (cond ((s31 == 0))
        (some (.inl true))
        ((some (IntKind.i64.wrap (s31 - 1))).bind fun v15 =>
        (ixO v15 b.length).bind fun v16 =>
        (getO b v16).bind fun v17 =>
        some (.inl (v17 != 13))))
       (some (.inl false))))
     (fun (s45 : Bool) =>
      cond (s45)
       (some (.inr (.inr (false))))
       ((some (IntKind.i64.wrap (s31 + 1))).bind fun v23 =>
       some (.inl v23))) some)
    (some (.inr (.inl ()))))
   BIG 0)
  (fun (() : Unit) =>
   bindS (S := Bool) (A := Bool)
    (cond (((b.length : Int) == 0))
     (some (.inl true))
     ((some (IntKind.i64.wrap ((b.length : Int) - 1))).bind fun v50 =>
     (ixO v50 b.length).bind fun v51 =>
     (getO b v51).bind fun v52 =>
     some (.inl (v52 == 10))))
    (fun (s53 : Bool) =>
     some (s53)) some) some

def wherryref11_Strip (b : (List Int)) : Option ((List Int) × Int × Int) :=
 (wherryref11_dot b).bind fun v1 =>
 cond ((decide (v1 < 0)))
  (some (([], 0, 9)))
  ((sliO b 0 v1).bind fun v3 =>
  (wherryref11_Body v3).bind fun v4 =>
  cond ((!v4))
   (some (([], 0, 5)))
   (bindS (S := ((List Int))) (A := ((List Int) × Int × Int))
    (loopF (S := ((List Int) × Int)) (O := ((List Int)) ⊕ ((List Int) × Int × Int)) (fun ((s47, s48) : (List Int) × Int) =>
     cond ((decide (s48 < v1)))
      (bindS (S := (List Int)) (A := (((List Int) × Int) ⊕ (((List Int)) ⊕ ((List Int) × Int × Int))))
       (bindS (S := Bool) (A := (((List Int)) ⊕ (((List Int) × Int) ⊕ (((List Int)) ⊕ ((List Int) × Int × Int)))))
        ((ixO s48 b.length).bind fun v7 =>
        (getO b v7).bind fun v8 =>
        cond ((v8 != 46))
         (some (.inl true))
         (cond ((decide (0 < s48)))
          ((some (IntKind.i64.wrap (s48 - 1))).bind fun v9 =>
          (ixO v9 b.length).bind fun v10 =>
          (getO b v10).bind fun v11 =>
          some (.inl (v11 != 10)))
          (some (.inl false))))
        (fun (s81 : Bool) =>
         cond (s81)
          ((ixO s48 b.length).bind fun v17 =>
          (getO b v17).bind fun v18 =>
          (appO 1 s47 [v18]).bind fun v19 =>
          some (.inl v19))
          (some (.inl s47))) some)
       (fun (s77 : (List Int)) =>
        (some (IntKind.i64.wrap (s48 + 1))).bind fun v29 =>
        some (.inl (s77, v29))) some)
      (some (.inr (.inl s47))))
     BIG ([], 0))
    (fun (s64 : (List Int)) =>
     (some (IntKind.i64.wrap (v1 + 3))).bind fun v86 =>
     some ((s64, v86, 0))) some))

def dots_Lines (b : (List Int)) : Option (List (Option (List Int))) :=
 (dots_lines b).bind fun v1 =>
 bindS (S := ((List (Option (List Int))))) (A := (Unit))
  (rangeS (S := ((List (Option (List Int))))) (O := (Unit)) (fun Y st => Sh.dots_lines_1 Y v1 st) (fun (x : (List Int)) (s5 : (List (Option (List Int)))) =>
   (appO 1 ([] : List Int) x).bind fun v2 =>
   (appO 24 s5 [some v2]).bind fun v3 =>
   some (.inl v3))
   [])
  (fun (s5 : (List (Option (List Int)))) =>
   some (s5))
  (fun (() : Unit) =>
   none)

def wherryref11_end (b : (List Int)) (at_ : Int) : Option Int :=
 bindS (S := (Unit)) (A := Int)
  (loopF (S := (Int)) (O := (Unit) ⊕ Int) (fun (s21 : Int) =>
   (some (IntKind.i64.wrap (s21 + 1))).bind fun v1 =>
   cond ((decide (v1 < (b.length : Int))))
    (bindS (S := Bool) (A := ((Int) ⊕ ((Unit) ⊕ Int)))
     ((ixO s21 b.length).bind fun v3 =>
     (getO b v3).bind fun v4 =>
     cond ((v4 == 13))
      ((some (IntKind.i64.wrap (s21 + 1))).bind fun v5 =>
      (ixO v5 b.length).bind fun v6 =>
      (getO b v6).bind fun v7 =>
      some (.inl (v7 == 10)))
      (some (.inl false)))
     (fun (s35 : Bool) =>
      cond (s35)
       (some (.inr (.inr (s21))))
       ((some (IntKind.i64.wrap (s21 + 1))).bind fun v13 =>
       some (.inl v13))) some)
    (some (.inr (.inl ()))))
   BIG at_)
  (fun (() : Unit) =>
   some ((-1))) some

def wherryref11_Lines (b : (List Int)) : Option (List (List Int)) :=
 (wherryref11_end b 0).bind fun v1 =>
 bindS (S := ((List (List Int)))) (A := (List (List Int)))
  (loopF (S := ((List (List Int)) × Int × Int)) (O := ((List (List Int))) ⊕ (List (List Int))) (fun ((s14, s15, s16) : (List (List Int)) × Int × Int) =>
   cond ((decide (0 ≤ s16)))
    ((sliO b s15 s16).bind fun v3 =>
    (wherrykeep_Twin v3).bind fun v4 =>
    (appO 24 s14 [v4]).bind fun v7 =>
    (some (IntKind.i64.wrap (s16 + 2))).bind fun v8 =>
    (wherryref11_end b v8).bind fun v9 =>
    some (.inl (v7, v8, v9)))
    (some (.inr (.inl s14))))
   BIG ([], 0, v1))
  (fun (s18 : (List (List Int))) =>
   some (s18)) some

def wherryref11_Stuff (b : (List Int)) : Option (List Int) :=
 bindS (S := ((List Int))) (A := (List Int))
  (loopF (S := ((List Int) × Int)) (O := ((List Int)) ⊕ (List Int)) (fun ((s43, s44) : (List Int) × Int) =>
   cond ((decide (s44 < (b.length : Int))))
    (bindS (S := (List Int)) (A := (((List Int) × Int) ⊕ (((List Int)) ⊕ (List Int))))
     (bindS (S := Bool) (A := (((List Int)) ⊕ (((List Int) × Int) ⊕ (((List Int)) ⊕ (List Int)))))
      ((ixO s44 b.length).bind fun v2 =>
      (getO b v2).bind fun v3 =>
      cond ((v3 == 46))
       (cond ((s44 == 0))
        (some (.inl true))
        ((some (IntKind.i64.wrap (s44 - 1))).bind fun v4 =>
        (ixO v4 b.length).bind fun v5 =>
        (getO b v5).bind fun v6 =>
        some (.inl (v6 == 10))))
       (some (.inl false)))
      (fun (s77 : Bool) =>
       cond (s77)
        ((appO 1 s43 [46]).bind fun v12 =>
        some (.inl v12))
        (some (.inl s43))) some)
     (fun (s73 : (List Int)) =>
      (ixO s44 b.length).bind fun v22 =>
      (getO b v22).bind fun v23 =>
      (appO 1 s73 [v23]).bind fun v24 =>
      (some (IntKind.i64.wrap (s44 + 1))).bind fun v25 =>
      some (.inl (v24, v25))) some)
    (some (.inr (.inl s43))))
   BIG ([], 0))
  (fun (s60 : (List Int)) =>
   (appO 1 s60 [46, 13, 10]).bind fun v82 =>
   some (v82)) some

def wherrykeep_Bytes (a : (List Int)) (b : (List Int)) : Option Bool :=
 cond (((a.length : Int) != (b.length : Int)))
  (some (false))
  (bindS (S := (Unit)) (A := Bool)
   (loopF (S := (Int)) (O := (Unit) ⊕ Bool) (fun (s12 : Int) =>
    cond ((decide (s12 < (a.length : Int))))
     ((ixO s12 a.length).bind fun v3 =>
     (getO a v3).bind fun v4 =>
     (ixO s12 b.length).bind fun v5 =>
     (getO b v5).bind fun v6 =>
     cond ((v4 != v6))
      (some (.inr (.inr (false))))
      ((some (IntKind.i64.wrap (s12 + 1))).bind fun v8 =>
      some (.inl v8)))
     (some (.inr (.inl ()))))
    BIG 0)
   (fun (() : Unit) =>
    some (true)) some)

def wherrykeep_Over (b : (List Int)) : Option Unit :=
 bindS (S := (Unit)) (A := Unit)
  (loopF (S := ((List Int) × Int)) (O := (Unit) ⊕ Unit) (fun ((s11, s12) : (List Int) × Int) =>
   cond ((decide (s12 < (s11.length : Int))))
    ((ixO s12 s11.length).bind fun v2 =>
    (getO s11 v2).bind fun v3 =>
    (some (IntKind.u8.wrap (v3 + 91))).bind fun v4 =>
    (ixO s12 s11.length).bind fun v5 =>
    (some (s11.set v5 v4)).bind fun v6 =>
    (some (IntKind.i64.wrap (s12 + 1))).bind fun v7 =>
    some (.inl (v6, v7)))
    (some (.inr (.inl ()))))
   BIG (b, 0))
  (fun (() : Unit) =>
   some (())) some

def wherrylaw14_wakes : Option Bool :=
 (dots_Stuff [46, 13, 10]).bind fun v1 =>
 (dots_Strip v1.1).bind fun v2 =>
 bindS (S := Bool) (A := Bool)
  (cond ((v1.2 == 0))
   (cond ((v2.2.2 == 0))
    ((some (bstr v1.1)).bind fun v3 =>
    cond ((v3.toList == (⟨#[46, 46, 13, 10, 46, 13, 10]⟩ : ByteArray).toList))
     ((wherrykeep_Bytes v2.1 [46, 13, 10]).bind fun v4 =>
     cond (v4)
      (cond ((v2.2.1 == 7))
       ((dots_Check [97, 10]).bind fun v5 =>
       cond ((v5 == 5))
        ((dots_Lines [97, 13, 10, 98, 13, 10, 99]).bind fun v6 =>
        some (.inl (((v6.length : Int) == 2))))
        (some (.inl false)))
       (some (.inl false)))
      (some (.inl false)))
     (some (.inl false)))
    (some (.inl false)))
   (some (.inl false)))
  (fun (s7 : Bool) =>
   some (s7)) some

def wherrylaw14_DotsExact (b : (List Int)) : Option Bool :=
 cond ((decide (2000 < (b.length : Int))))
  (some (true))
  ((wherrykeep_Twin b).bind fun v2 =>
  (dots_Stuff v2).bind fun v3 =>
  (dots_Strip v2).bind fun v4 =>
  (wherryref11_Strip b).bind fun v5 =>
  (dots_Lines v2).bind fun v6 =>
  (wherryref11_Lines b).bind fun v7 =>
  (wherryref11_Body b).bind fun v8 =>
  bindS (S := Bool) (A := Bool)
   ((dots_Check v2).bind fun v9 =>
   (some (!((v9 == 0) == v8))).bind fun v10 =>
   cond ((!((v9 == 0) == v8)))
    (some (.inl true))
    (cond ((!v8))
     ((dots_Check v2).bind fun v11 =>
     cond ((v11 != 5))
      (some (.inl true))
      (cond ((v3.2 != 5))
       (some (.inl true))
       (cond ((decide (0 < (v3.1.length : Int))))
        (some (.inl true))
        (cond (v8)
         (cond ((v3.2 != 0))
          (some (.inl true))
          ((wherryref11_Stuff b).bind fun v12 =>
          (wherrykeep_Bytes v3.1 v12).bind fun v13 =>
          cond ((!v13))
           (some (.inl true))
           (cond ((v4.2.2 != v5.2.2))
            (some (.inl true))
            (cond ((v4.2.1 != v5.2.1))
             (some (.inl true))
             ((wherrykeep_Bytes v4.1 v5.1).bind fun v14 =>
             cond ((!v14))
              (some (.inl true))
              (some (.inl (((v6.length : Int) != (v7.length : Int))))))))))
         (cond ((v4.2.2 != v5.2.2))
          (some (.inl true))
          (cond ((v4.2.1 != v5.2.1))
           (some (.inl true))
           ((wherrykeep_Bytes v4.1 v5.1).bind fun v15 =>
           cond ((!v15))
            (some (.inl true))
            (some (.inl (((v6.length : Int) != (v7.length : Int))))))))))))
     (cond (v8)
      (cond ((v3.2 != 0))
       (some (.inl true))
       ((wherryref11_Stuff b).bind fun v16 =>
       (wherrykeep_Bytes v3.1 v16).bind fun v17 =>
       cond ((!v17))
        (some (.inl true))
        (cond ((v4.2.2 != v5.2.2))
         (some (.inl true))
         (cond ((v4.2.1 != v5.2.1))
          (some (.inl true))
          ((wherrykeep_Bytes v4.1 v5.1).bind fun v18 =>
          cond ((!v18))
           (some (.inl true))
           (some (.inl (((v6.length : Int) != (v7.length : Int))))))))))
      (cond ((v4.2.2 != v5.2.2))
       (some (.inl true))
       (cond ((v4.2.1 != v5.2.1))
        (some (.inl true))
        ((wherrykeep_Bytes v4.1 v5.1).bind fun v19 =>
        cond ((!v19))
         (some (.inl true))
         (some (.inl (((v6.length : Int) != (v7.length : Int)))))))))))
   (fun (s20 : Bool) =>
    cond (s20)
     (some (false))
     (bindS (S := (Unit)) (A := Bool)
      (loopF (S := ((List (Option (List Int))) × Int)) (O := (Unit) ⊕ Bool) (fun ((s40, s41) : (List (Option (List Int))) × Int) =>
       cond ((decide (s41 < (s40.length : Int))))
        ((ixO s41 s40.length).bind fun v26 =>
        ((getO s40 v26).bind id).bind fun v27 =>
        (ixO s41 v7.length).bind fun v28 =>
        (getO v7 v28).bind fun v29 =>
        (wherrykeep_Bytes v27 v29).bind fun v30 =>
        cond ((!v30))
         (some (.inr (.inr (false))))
         ((ixO s41 s40.length).bind fun v32 =>
         ((getO s40 v32).bind id).bind fun v33 =>
         (wherrykeep_Over v33).bind fun v34 =>
         (some (IntKind.i64.wrap (s41 + 1))).bind fun v35 =>
         some (.inl (((s40.set v32 none), v35)))))
        (some (.inr (.inl ()))))
       BIG (v6, 0))
      (fun (() : Unit) =>
       (wherrykeep_Over v4.1).bind fun v52 =>
       (wherrykeep_Over v3.1).bind fun v53 =>
       bindS (S := Bool) (A := Bool)
        ((wherrykeep_Bytes v2 b).bind fun v54 =>
        cond (v54)
         ((wherrylaw14_wakes ).bind fun v55 =>
         some (.inl v55))
         (some (.inl false)))
        (fun (s56 : Bool) =>
         some (s56)) some) some)) some)

end Go.Abs.Sh
