/-
 The program told in Lean: plain functions; none where Go would panic or a slice outgrow its room.
-/
import Derived.Test.YthfmdofkkkpbkaaGreatDoorAN
set_option linter.unusedVariables false
namespace Go.Abs.Sh

structure T_Path where
 Null : Bool
 Local : ByteArray
 Domain : ByteArray
 deriving DecidableEq, Inhabited
def T_Path.enc (x : T_Path) : List Value := [.bool x.Null, .string x.Local, .string x.Domain]
theorem T_Path.len (x : T_Path) : (T_Path.enc x).length = 3 := rfl
def T_Path.wf (x : T_Path) : Prop := True ∧ wfS x.Local ∧ wfS x.Domain
def T_Path.wz (x : T_Path) : Prop := True ∧ wzS x.Local ∧ wzS x.Domain

structure T_Param where
 Key : ByteArray
 Val : ByteArray
 deriving DecidableEq, Inhabited
def T_Param.enc (x : T_Param) : List Value := [.string x.Key, .string x.Val]
theorem T_Param.len (x : T_Param) : (T_Param.enc x).length = 2 := rfl
def T_Param.wf (x : T_Param) : Prop := wfS x.Key ∧ wfS x.Val
def T_Param.wz (x : T_Param) : Prop := wzS x.Key ∧ wzS x.Val

structure T_Cmd where
 Kind : Int
 Text : ByteArray
 Path : T_Path
 Params : (List T_Param)
 deriving DecidableEq, Inhabited
def T_Cmd.ienc (x : T_Cmd) : List IC := [.v (.int .i64 x.Kind), .v (.string x.Text), .v (.bool x.Path.Null), .v (.string x.Path.Local), .v (.string x.Path.Domain), .row 2 (List.map IC.v (List.flatten (List.map T_Param.enc x.Params)))]
theorem T_Cmd.ilen (x : T_Cmd) : (T_Cmd.ienc x).length = 6 := rfl
def T_Cmd.wf (x : T_Cmd) : Prop := wfI .i64 x.Kind ∧ wfS x.Text ∧ T_Path.wf x.Path ∧ wfL T_Param.wf x.Params
def T_Cmd.wz (x : T_Cmd) : Prop := (wfI .i64) x.Kind ∧ wzS x.Text ∧ T_Path.wz x.Path ∧ (wzL 32 T_Param.wz) x.Params

def wherrylaw12_heavy (c : T_Cmd) : Option Bool :=
 (some (IntKind.i64.wrap ((c.Text.size : Int) + (c.Path.Local.size : Int)))).bind fun v1 =>
 (some (IntKind.i64.wrap (v1 + (c.Path.Domain.size : Int)))).bind fun v2 =>
 bindS (S := (Int)) (A := Bool)
  (loopF (S := (Int × Int)) (O := (Int) ⊕ Bool) (fun ((s14, s15) : Int × Int) =>
   cond ((decide (s15 < (c.Params.length : Int))))
    ((ixO s15 c.Params.length).bind fun v4 =>
    (getO c.Params v4).bind fun v5 =>
    (some (IntKind.i64.wrap (s14 + (v5.Key.size : Int)))).bind fun v6 =>
    (ixO s15 c.Params.length).bind fun v7 =>
    (getO c.Params v7).bind fun v8 =>
    (some (IntKind.i64.wrap (v6 + (v8.Val.size : Int)))).bind fun v9 =>
    (some (IntKind.i64.wrap (s15 + 1))).bind fun v10 =>
    some (.inl (v9, v10)))
    (some (.inr (.inl s14))))
   BIG (v2, 0))
  (fun (s17 : Int) =>
   bindS (S := Bool) (A := Bool)
    (cond ((decide (3000 < s17)))
     (some (.inl true))
     (some (.inl ((decide (20 < (c.Params.length : Int)))))))
    (fun (s25 : Bool) =>
     some (s25)) some) some

def verb_printable (line : ByteArray) : Option Bool :=
 bindS (S := (Unit)) (A := Bool)
  (loopF (S := (Int)) (O := (Unit) ⊕ Bool) (fun (s17 : Int) =>
   cond ((decide (s17 < (line.size : Int))))
    (bindS (S := Bool) (A := ((Int) ⊕ ((Unit) ⊕ Bool)))
     ((chrO line s17).bind fun v2 =>
     cond ((decide (v2 < 32)))
      (some (.inl true))
      ((chrO line s17).bind fun v3 =>
      some (.inl ((decide (126 < v3))))))
     (fun (s31 : Bool) =>
      cond (s31)
       (some (.inr (.inr (false))))
       ((some (IntKind.i64.wrap (s17 + 1))).bind fun v9 =>
       some (.inl v9))) some)
    (some (.inr (.inl ()))))
   BIG 0)
  (fun (() : Unit) =>
   some (true)) some

def internal_stringslite_Cut (s : ByteArray) (sep : ByteArray) : Option (ByteArray × ByteArray × Bool) :=
 (internal_stringslite_Index s sep).bind fun v1 =>
 cond ((decide (0 ≤ v1)))
  ((subO s 0 v1).bind fun v3 =>
  (some (IntKind.i64.wrap (v1 + (sep.size : Int)))).bind fun v4 =>
  (subO s v4 (s.size : Int)).bind fun v5 =>
  some ((v3, v5, true)))
  (some ((s, (⟨#[]⟩ : ByteArray), false)))

def strings_Cut (s : ByteArray) (sep : ByteArray) : Option (ByteArray × ByteArray × Bool) :=
 (internal_stringslite_Cut s sep).bind fun v1 =>
 some ((v1.1, v1.2.1, v1.2.2))

def path_Fold (s : ByteArray) : Option ByteArray :=
 (some (sbytes s)).bind fun v1 =>
 bindS (S := ((List Int))) (A := ByteArray)
  (loopF (S := ((List Int) × Int)) (O := ((List Int)) ⊕ ByteArray) (fun ((s40, s41) : (List Int) × Int) =>
   cond ((decide (s41 < (v1.length : Int))))
    (bindS (S := (List Int)) (A := (((List Int) × Int) ⊕ (((List Int)) ⊕ ByteArray)))
     ((ixO s41 s40.length).bind fun v3 =>
     (getO s40 v3).bind fun v4 =>
     bindS (S := Bool) (A := (((List Int)) ⊕ (((List Int) × Int) ⊕ (((List Int)) ⊕ ByteArray))))
      (cond ((decide (65 ≤ v4)))
       (some (.inl ((decide (v4 ≤ 90)))))
       (some (.inl false)))
      (fun (s74 : Bool) =>
       cond (s74)
        ((some (IntKind.u8.wrap (v4 + 32))).bind fun v10 =>
        (ixO s41 s40.length).bind fun v11 =>
        (some (s40.set v11 v10)).bind fun v12 =>
        some (.inl v12))
        (some (.inl s40))) some)
     (fun (s70 : (List Int)) =>
      (some (IntKind.i64.wrap (s41 + 1))).bind fun v22 =>
      some (.inl (s70, v22))) some)
    (some (.inr (.inl s40))))
   BIG (v1, 0))
  (fun (s57 : (List Int)) =>
   (some (bstr s57)).bind fun v79 =>
   some (v79)) some

def verb_kindOf (line : ByteArray) : Option Int :=
 (strings_Cut line (⟨#[32]⟩ : ByteArray)).bind fun v1 =>
 (path_Fold v1.1).bind fun v2 =>
 bindS (S := Bool) (A := Int)
  (cond ((v2.toList == (⟨#[101, 104, 108, 111]⟩ : ByteArray).toList))
   (some (.inl ((v2.toList == (⟨#[101, 104, 108, 111]⟩ : ByteArray).toList))))
   (some (.inl ((v2.toList == (⟨#[104, 101, 108, 111]⟩ : ByteArray).toList)))))
  (fun (s4 : Bool) =>
   cond (s4)
    (some (1))
    (cond ((v2.toList == (⟨#[109, 97, 105, 108]⟩ : ByteArray).toList))
     (some (2))
     (cond ((v2.toList == (⟨#[114, 99, 112, 116]⟩ : ByteArray).toList))
      (some (3))
      (cond ((v2.toList == (⟨#[100, 97, 116, 97]⟩ : ByteArray).toList))
       (some (4))
       (cond ((v2.toList == (⟨#[114, 115, 101, 116]⟩ : ByteArray).toList))
        (some (5))
        (cond ((v2.toList == (⟨#[113, 117, 105, 116]⟩ : ByteArray).toList))
         (some (8))
         (cond ((v2.toList == (⟨#[110, 111, 111, 112]⟩ : ByteArray).toList))
          (some (7))
          (cond ((v2.toList == (⟨#[118, 114, 102, 121]⟩ : ByteArray).toList))
           (some (6))
           (cond ((v2.toList == (⟨#[101, 116, 114, 110]⟩ : ByteArray).toList))
            (some (9))
            (cond ((v2.toList == (⟨#[97, 117, 116, 104]⟩ : ByteArray).toList))
             (some (10))
             (cond ((v2.toList == (⟨#[97, 116, 114, 110]⟩ : ByteArray).toList))
              (some (11))
              (some (0))))))))))))) some

def verb_equalFold (a : ByteArray) (b : ByteArray) : Option Bool :=
 (path_Fold a).bind fun v1 =>
 (path_Fold b).bind fun v2 =>
 some ((v1.toList == v2.toList))

def verb_cutFold (s : ByteArray) (prefix_ : ByteArray) : Option (ByteArray × Bool) :=
 bindS (S := Bool) (A := (ByteArray × Bool))
  (cond ((decide ((s.size : Int) < (prefix_.size : Int))))
   (some (.inl true))
   ((subO s 0 (prefix_.size : Int)).bind fun v1 =>
   (verb_equalFold v1 prefix_).bind fun v2 =>
   some (.inl (!v2))))
  (fun (s3 : Bool) =>
   cond (s3)
    (some (((⟨#[]⟩ : ByteArray), false)))
    ((subO s (prefix_.size : Int) (s.size : Int)).bind fun v8 =>
    some ((v8, true)))) some

def strings_splitSeq (s : ByteArray) (sep : ByteArray) (sepSave : Int) : Option (ByteArray × ByteArray × Int) :=
 some ((sep, s, sepSave))

def strings_SplitSeq (s : ByteArray) (sep : ByteArray) : Option (ByteArray × ByteArray × Int) :=
 (strings_splitSeq s sep 0).bind fun v1 =>
 some ((v1.1, v1.2.1, v1.2.2))

set_option maxRecDepth 100000 in
def utf8_first : List Int := (240 :: 240 :: 240 :: 240 :: 240 :: 240 :: 240 :: 240 :: 240 :: 240 :: 240 :: 240 :: 240 :: 240 :: 240 :: 240 :: 240 :: 240 :: 240 :: 240 :: 240 :: 240 :: 240 :: 240 :: 240 :: 240 :: 240 :: 240 :: 240 :: 240 :: 240 :: 240 :: 240 :: 240 :: 240 :: 240 :: 240 :: 240 :: 240 :: 240 :: 240 :: 240 :: 240 :: 240 :: 240 :: 240 :: 240 :: 240 :: 240 :: 240 :: 240 :: 240 :: 240 :: 240 :: 240 :: 240 :: 240 :: 240 :: 240 :: 240 :: 240 :: 240 :: 240 :: 240 :: 240 :: 240 :: 240 :: 240 :: 240 :: 240 :: 240 :: 240 :: 240 :: 240 :: 240 :: 240 :: 240 :: 240 :: 240 :: 240 :: 240 :: 240 :: 240 :: 240 :: 240 :: 240 :: 240 :: 240 :: 240 :: 240 :: 240 :: 240 :: 240 :: 240 :: 240 :: 240 :: 240 :: 240 :: 240 :: 240 :: 240 :: 240 :: 240 :: 240 :: 240 :: 240 :: 240 :: 240 :: 240 :: 240 :: 240 :: 240 :: 240 :: 240 :: 240 :: 240 :: 240 :: 240 :: 240 :: 240 :: 240 :: 240 :: 240 :: 240 :: 240 :: 240 :: 240 :: 240 :: 241 :: 241 :: 241 :: 241 :: 241 :: 241 :: 241 :: 241 :: 241 :: 241 :: 241 :: 241 :: 241 :: 241 :: 241 :: 241 :: 241 :: 241 :: 241 :: 241 :: 241 :: 241 :: 241 :: 241 :: 241 :: 241 :: 241 :: 241 :: 241 :: 241 :: 241 :: 241 :: 241 :: 241 :: 241 :: 241 :: 241 :: 241 :: 241 :: 241 :: 241 :: 241 :: 241 :: 241 :: 241 :: 241 :: 241 :: 241 :: 241 :: 241 :: 241 :: 241 :: 241 :: 241 :: 241 :: 241 :: 241 :: 241 :: 241 :: 241 :: 241 :: 241 :: 241 :: 241 :: 241 :: 241 :: 2 :: 2 :: 2 :: 2 :: 2 :: 2 :: 2 :: 2 :: 2 :: 2 :: 2 :: 2 :: 2 :: 2 :: 2 :: 2 :: 2 :: 2 :: 2 :: 2 :: 2 :: 2 :: 2 :: 2 :: 2 :: 2 :: 2 :: 2 :: 2 :: 2 :: 19 :: 3 :: 3 :: 3 :: 3 :: 3 :: 3 :: 3 :: 3 :: 3 :: 3 :: 3 :: 3 :: 35 :: 3 :: 3 :: 52 :: 4 :: 4 :: 4 :: 68 :: 241 :: 241 :: 241 :: 241 :: 241 :: 241 :: 241 :: 241 :: 241 :: 241 :: 241 :: [])

set_option maxRecDepth 100000 in
def utf8_accept : List Int := (128 :: 191 :: 160 :: 191 :: 128 :: 159 :: 144 :: 191 :: 128 :: 143 :: 0 :: 0 :: 0 :: 0 :: 0 :: 0 :: 0 :: 0 :: 0 :: 0 :: 0 :: 0 :: 0 :: 0 :: 0 :: 0 :: 0 :: 0 :: 0 :: 0 :: 0 :: 0 :: [])

def unicode_utf8_decodeRuneInStringSlow (s : ByteArray) : Option (Int × Int) :=
 cond ((decide ((s.size : Int) < 1)))
  (some ((65533, 0)))
  ((chrO s 0).bind fun v2 =>
  (ixO v2 256).bind fun v3 =>
  (getO utf8_first (0 + v3 * 1)).bind fun v4 =>
  cond ((decide (240 ≤ v4)))
   ((some (IntKind.i32.wrap v4)).bind fun v6 =>
   (shlO .i32 v6 31).bind fun v7 =>
   (shrO .i32 v7 31).bind fun v8 =>
   (chrO s 0).bind fun v9 =>
   (some (IntKind.i32.wrap v9)).bind fun v10 =>
   (some (bits .andNot .i32 v10 v8)).bind fun v11 =>
   (some (bits .and .i32 65533 v8)).bind fun v12 =>
   (some (bits .or .i32 v11 v12)).bind fun v13 =>
   some ((v13, 1)))
   (none))

def unicode_utf8_DecodeRuneInString (s : ByteArray) : Option (Int × Int) :=
 bindS (S := Bool) (A := (Int × Int))
  (cond ((!(s.toList == (⟨#[]⟩ : ByteArray).toList)))
   ((chrO s 0).bind fun v1 =>
   some (.inl ((decide (v1 < 128)))))
   (some (.inl false)))
  (fun (s2 : Bool) =>
   cond (s2)
    ((chrO s 0).bind fun v7 =>
    (some (IntKind.i32.wrap v7)).bind fun v8 =>
    some ((v8, 1)))
    ((unicode_utf8_decodeRuneInStringSlow s).bind fun v9 =>
    some ((v9.1, v9.2)))) some

def strings_splitSeq_1 {S : Type} (Y : ByteArray → S → Option (S × Bool)) (c0 : ByteArray) (c1 : ByteArray) (c2 : Int) (st : S) : Option S :=
 cond (((c0.size : Int) == 0))
  (bindS (S := (S)) (A := S)
   (loopF (S := (ByteArray × S)) (O := (S) ⊕ S) (fun ((s12, s13) : ByteArray × S) =>
    cond ((decide (0 < (s12.size : Int))))
     ((unicode_utf8_DecodeRuneInString s12).bind fun v3 =>
     (subO s12 0 v3.2).bind fun v4 =>
     (Y v4 s13).bind fun v5 =>
     cond ((!v5.2))
      (some (.inr (.inr (v5.1))))
      ((subO s12 v3.2 (s12.size : Int)).bind fun v7 =>
      some (.inl (v7, v5.1))))
     (some (.inr (.inl s13))))
    BIG (c1, st))
   (fun (s16 : S) =>
    some (s16)) some)
  (bindS (S := (ByteArray × S)) (A := S)
   (loopF (S := (ByteArray × S)) (O := (ByteArray × S) ⊕ S) (fun ((s37, s38) : ByteArray × S) =>
    (strings_Index s37 c0).bind fun v25 =>
    cond ((decide (v25 < 0)))
     (some (.inr (.inl (s37, s38))))
     ((some (IntKind.i64.wrap (v25 + c2))).bind fun v27 =>
     (subO s37 0 v27).bind fun v28 =>
     (Y v28 s38).bind fun v29 =>
     cond ((!v29.2))
      (some (.inr (.inr (v29.1))))
      ((some (IntKind.i64.wrap (v25 + (c0.size : Int)))).bind fun v31 =>
      (subO s37 v31 (s37.size : Int)).bind fun v32 =>
      some (.inl (v32, v29.1)))))
    BIG (c1, st))
   (fun ((s41, s42) : ByteArray × S) =>
    (Y s41 s42).bind fun v51 =>
    some (v51.1)) some)

def path_alphanumeric (c : Int) : Option Bool :=
 bindS (S := Bool) (A := Bool)
  (cond ((decide (48 ≤ c)))
   (cond ((decide (c ≤ 57)))
    (some (.inl true))
    (cond ((decide (65 ≤ c)))
     (cond ((decide (c ≤ 90)))
      (some (.inl true))
      (cond ((decide (97 ≤ c)))
       (some (.inl ((decide (c ≤ 122)))))
       (some (.inl false))))
     (cond ((decide (97 ≤ c)))
      (some (.inl ((decide (c ≤ 122)))))
      (some (.inl false)))))
   (cond ((decide (65 ≤ c)))
    (cond ((decide (c ≤ 90)))
     (some (.inl true))
     (cond ((decide (97 ≤ c)))
      (some (.inl ((decide (c ≤ 122)))))
      (some (.inl false))))
    (cond ((decide (97 ≤ c)))
     (some (.inl ((decide (c ≤ 122)))))
     (some (.inl false)))))
  (fun (s1 : Bool) =>
   some (s1)) some

def path_label_1 (c : Int) : Option Bool :=
 bindS (S := Bool) (A := Bool)
  ((path_alphanumeric c).bind fun v1 =>
  cond (v1)
   (some (.inl true))
   (some (.inl (c == 45))))
  (fun (s2 : Bool) =>
   some (s2)) some

def path_all_of_path_label_1 (s : ByteArray) : Option Bool :=
 bindS (S := (Unit)) (A := Bool)
  (loopF (S := (Int)) (O := (Unit) ⊕ Bool) (fun (s9 : Int) =>
   cond ((decide (s9 < (s.size : Int))))
    ((chrO s s9).bind fun v2 =>
    (path_label_1 v2).bind fun v3 =>
    cond ((!v3))
     (some (.inr (.inr (false))))
     ((some (IntKind.i64.wrap (s9 + 1))).bind fun v5 =>
     some (.inl v5)))
    (some (.inr (.inl ()))))
   BIG 0)
  (fun (() : Unit) =>
   some (true)) some

def path_label (s : ByteArray) : Option Bool :=
 bindS (S := Bool) (A := Bool)
  (cond ((!(s.toList == (⟨#[]⟩ : ByteArray).toList)))
   (cond ((decide ((s.size : Int) ≤ 63)))
    ((chrO s 0).bind fun v1 =>
    cond ((v1 != 45))
     ((some (IntKind.i64.wrap ((s.size : Int) - 1))).bind fun v2 =>
     (chrO s v2).bind fun v3 =>
     cond ((v3 != 45))
      ((path_all_of_path_label_1 s).bind fun v4 =>
      some (.inl v4))
      (some (.inl false)))
     (some (.inl false)))
    (some (.inl false)))
   (some (.inl false)))
  (fun (s5 : Bool) =>
   some (s5)) some

def path_dotted_of_path_label (s : ByteArray) : Option Bool :=
 (strings_SplitSeq s (⟨#[46]⟩ : ByteArray)).bind fun v1 =>
 bindS (S := (Unit)) (A := (Unit))
  (rangeS (S := (Unit)) (O := (Unit)) (fun Y st => Sh.strings_splitSeq_1 Y v1.1 v1.2.1 v1.2.2 st) (fun (x : ByteArray) (() : Unit) =>
   (path_label x).bind fun v2 =>
   cond ((!v2))
    (some (.inr ()))
    (some (.inl ())))
   ())
  (fun (() : Unit) =>
   some (true))
  (fun (() : Unit) =>
   some (false))

def path_Domain (s : ByteArray) : Option Bool :=
 bindS (S := Bool) (A := Bool)
  (cond ((decide ((s.size : Int) ≤ 255)))
   ((path_dotted_of_path_label s).bind fun v1 =>
   some (.inl v1))
   (some (.inl false)))
  (fun (s2 : Bool) =>
   some (s2)) some

def verb_otherMechanism (line : ByteArray) : Option Bool :=
 (verb_cutFold line (⟨#[65, 85, 84, 72, 32]⟩ : ByteArray)).bind fun v1 =>
 bindS (S := Bool) (A := Bool)
  (cond ((!v1.2))
   (some (.inl true))
   (cond ((v1.1.toList == (⟨#[]⟩ : ByteArray).toList))
    (some (.inl true))
    ((verb_equalFold v1.1 (⟨#[67, 82, 65, 77, 45, 77, 68, 53]⟩ : ByteArray)).bind fun v2 =>
    some (.inl v2))))
  (fun (s3 : Bool) =>
   cond (s3)
    (some (false))
    (bindS (S := (Unit)) (A := Bool)
     (loopF (S := (Int)) (O := (Unit) ⊕ Bool) (fun (s26 : Int) =>
      cond ((decide (s26 < (v1.1.size : Int))))
       (bindS (S := Bool) (A := ((Int) ⊕ ((Unit) ⊕ Bool)))
        ((chrO v1.1 s26).bind fun v9 =>
        cond ((v9 != 45))
         ((some (IntKind.i64.wrap (s26 + 1))).bind fun v10 =>
         (subO v1.1 s26 v10).bind fun v11 =>
         (path_Domain v11).bind fun v12 =>
         some (.inl (!v12)))
         (some (.inl false)))
        (fun (s40 : Bool) =>
         cond (s40)
          (some (.inr (.inr (false))))
          ((some (IntKind.i64.wrap (s26 + 1))).bind fun v18 =>
          some (.inl v18))) some)
       (some (.inr (.inl ()))))
      BIG 0)
     (fun (() : Unit) =>
      some (true)) some)) some

def verb_opening (kind : Int) : Option ByteArray :=
 cond ((kind == 2))
  (some ((⟨#[77, 65, 73, 76, 32, 70, 82, 79, 77, 58]⟩ : ByteArray)))
  (some ((⟨#[82, 67, 80, 84, 32, 84, 79, 58]⟩ : ByteArray)))

def internal_stringslite_HasPrefix (s : ByteArray) (prefix_ : ByteArray) : Option Bool :=
 bindS (S := Bool) (A := Bool)
  (cond ((decide ((prefix_.size : Int) ≤ (s.size : Int))))
   ((subO s 0 (prefix_.size : Int)).bind fun v1 =>
   some (.inl (v1.toList == prefix_.toList)))
   (some (.inl false)))
  (fun (s2 : Bool) =>
   some (s2)) some

def internal_stringslite_CutPrefix (s : ByteArray) (prefix_ : ByteArray) : Option (ByteArray × Bool) :=
 (internal_stringslite_HasPrefix s prefix_).bind fun v1 =>
 cond ((!v1))
  (some ((s, false)))
  ((subO s (prefix_.size : Int) (s.size : Int)).bind fun v3 =>
  some ((v3, true)))

def strings_CutPrefix (s : ByteArray) (prefix_ : ByteArray) : Option (ByteArray × Bool) :=
 (internal_stringslite_CutPrefix s prefix_).bind fun v1 =>
 some ((v1.1, v1.2))

def internal_stringslite_HasSuffix (s : ByteArray) (suffix : ByteArray) : Option Bool :=
 bindS (S := Bool) (A := Bool)
  (cond ((decide ((suffix.size : Int) ≤ (s.size : Int))))
   ((some (IntKind.i64.wrap ((s.size : Int) - (suffix.size : Int)))).bind fun v1 =>
   (subO s v1 (s.size : Int)).bind fun v2 =>
   some (.inl (v2.toList == suffix.toList)))
   (some (.inl false)))
  (fun (s3 : Bool) =>
   some (s3)) some

def internal_stringslite_CutSuffix (s : ByteArray) (suffix : ByteArray) : Option (ByteArray × Bool) :=
 (internal_stringslite_HasSuffix s suffix).bind fun v1 =>
 cond ((!v1))
  (some ((s, false)))
  ((some (IntKind.i64.wrap ((s.size : Int) - (suffix.size : Int)))).bind fun v3 =>
  (subO s 0 v3).bind fun v4 =>
  some ((v4, true)))

def strings_CutSuffix (s : ByteArray) (suffix : ByteArray) : Option (ByteArray × Bool) :=
 (internal_stringslite_CutSuffix s suffix).bind fun v1 =>
 some ((v1.1, v1.2))

def path_atom_1 (c : Int) : Option Bool :=
 bindS (S := Bool) (A := Bool)
  ((path_alphanumeric c).bind fun v1 =>
  cond (v1)
   (some (.inl true))
   ((strings_IndexByte (⟨#[33, 35, 36, 37, 38, 39, 42, 43, 45, 47, 61, 63, 94, 95, 96, 123, 124, 125, 126]⟩ : ByteArray) c).bind fun v2 =>
   some (.inl ((decide (0 ≤ v2))))))
  (fun (s3 : Bool) =>
   some (s3)) some

def path_all_of_path_atom_1 (s : ByteArray) : Option Bool :=
 bindS (S := (Unit)) (A := Bool)
  (loopF (S := (Int)) (O := (Unit) ⊕ Bool) (fun (s9 : Int) =>
   cond ((decide (s9 < (s.size : Int))))
    ((chrO s s9).bind fun v2 =>
    (path_atom_1 v2).bind fun v3 =>
    cond ((!v3))
     (some (.inr (.inr (false))))
     ((some (IntKind.i64.wrap (s9 + 1))).bind fun v5 =>
     some (.inl v5)))
    (some (.inr (.inl ()))))
   BIG 0)
  (fun (() : Unit) =>
   some (true)) some

def path_atom (s : ByteArray) : Option Bool :=
 bindS (S := Bool) (A := Bool)
  (cond ((!(s.toList == (⟨#[]⟩ : ByteArray).toList)))
   ((path_all_of_path_atom_1 s).bind fun v1 =>
   some (.inl v1))
   (some (.inl false)))
  (fun (s2 : Bool) =>
   some (s2)) some

def path_dotted_of_path_atom (s : ByteArray) : Option Bool :=
 (strings_SplitSeq s (⟨#[46]⟩ : ByteArray)).bind fun v1 =>
 bindS (S := (Unit)) (A := (Unit))
  (rangeS (S := (Unit)) (O := (Unit)) (fun Y st => Sh.strings_splitSeq_1 Y v1.1 v1.2.1 v1.2.2 st) (fun (x : ByteArray) (() : Unit) =>
   (path_atom x).bind fun v2 =>
   cond ((!v2))
    (some (.inr ()))
    (some (.inl ())))
   ())
  (fun (() : Unit) =>
   some (true))
  (fun (() : Unit) =>
   some (false))

def path_local (s : ByteArray) : Option Bool :=
 bindS (S := Bool) (A := Bool)
  (cond ((decide ((s.size : Int) ≤ 64)))
   ((path_dotted_of_path_atom s).bind fun v1 =>
   some (.inl v1))
   (some (.inl false)))
  (fun (s2 : Bool) =>
   some (s2)) some

def path_Check (p : T_Path) : Option Int :=
 bindS (S := Bool) (A := Int)
  (cond ((!p.Null))
   ((path_local p.Local).bind fun v1 =>
   cond (v1)
    ((path_Domain p.Domain).bind fun v2 =>
    some (.inl v2))
    (some (.inl false)))
   (some (.inl false)))
  (fun (s3 : Bool) =>
   bindS (S := Bool) (A := Int)
    (cond ((!(((p.Null == true) && ((p.Local.toList == (⟨#[]⟩ : ByteArray).toList) && ((p.Domain.toList == (⟨#[]⟩ : ByteArray).toList) && true))))))
     (some (.inl (!s3)))
     (some (.inl false)))
    (fun (s7 : Bool) =>
     cond (s7)
      (some (5))
      (some (0))) some) some

def path_Parse (s : ByteArray) : Option (T_Path × Int) :=
 cond ((s.toList == (⟨#[60, 62]⟩ : ByteArray).toList))
  (some (((T_Path.mk true (⟨#[]⟩ : ByteArray) (⟨#[]⟩ : ByteArray)), 0)))
  ((strings_CutPrefix s (⟨#[60]⟩ : ByteArray)).bind fun v2 =>
  (strings_CutSuffix v2.1 (⟨#[62]⟩ : ByteArray)).bind fun v3 =>
  (strings_Cut v3.1 (⟨#[64]⟩ : ByteArray)).bind fun v4 =>
  bindS (S := Bool) (A := (T_Path × Int))
   (cond ((!v2.2))
    (some (.inl true))
    (cond ((!v3.2))
     (some (.inl true))
     (cond ((!v4.2.2))
      (some (.inl true))
      ((path_Check (T_Path.mk false v4.1 v4.2.1)).bind fun v5 =>
      some (.inl (v5 != 0))))))
   (fun (s6 : Bool) =>
    cond (s6)
     (some (((T_Path.mk false (⟨#[]⟩ : ByteArray) (⟨#[]⟩ : ByteArray)), 5)))
     (some (((T_Path.mk false v4.1 v4.2.1), 0)))) some)

def number_Parse (s : ByteArray) (digits : Int) : Option (Int × Bool) :=
 bindS (S := Bool) (A := (Int × Bool))
  (cond ((s.toList == (⟨#[]⟩ : ByteArray).toList))
   (some (.inl true))
   ((some (if 18 < digits then 18 else digits)).bind fun v1 =>
   cond ((decide (v1 < (s.size : Int))))
    (some (.inl true))
    ((chrO s 0).bind fun v2 =>
    cond ((v2 == 48))
     (some (.inl ((!(s.toList == (⟨#[48]⟩ : ByteArray).toList)))))
     (some (.inl false)))))
  (fun (s3 : Bool) =>
   cond (s3)
    (some ((0, false)))
    (bindS (S := (Unit)) (A := (Int × Bool))
     (loopF (S := (Int)) (O := (Unit) ⊕ (Int × Bool)) (fun (s24 : Int) =>
      cond ((decide (s24 < (s.size : Int))))
       (bindS (S := Bool) (A := ((Int) ⊕ ((Unit) ⊕ (Int × Bool))))
        ((chrO s s24).bind fun v9 =>
        cond ((decide (v9 < 48)))
         (some (.inl true))
         ((chrO s s24).bind fun v10 =>
         some (.inl ((decide (57 < v10))))))
        (fun (s38 : Bool) =>
         cond (s38)
          (some (.inr (.inr ((0, false)))))
          ((some (IntKind.i64.wrap (s24 + 1))).bind fun v16 =>
          some (.inl v16))) some)
       (some (.inr (.inl ()))))
      BIG 0)
     (fun (() : Unit) =>
      (strconv_Atoi s).bind fun v43 =>
      some ((v43.1, true))) some)) some

def verb_oneOf (s : ByteArray) (words : (List ByteArray)) : Option (ByteArray × Bool) :=
 bindS (S := (Unit)) (A := (ByteArray × Bool))
  (loopF (S := (Int)) (O := (Unit) ⊕ (ByteArray × Bool)) (fun (s10 : Int) =>
   cond ((decide (s10 < (words.length : Int))))
    ((ixO s10 words.length).bind fun v2 =>
    (getO words v2).bind fun v3 =>
    (verb_equalFold s v3).bind fun v4 =>
    cond (v4)
     (some (.inr (.inr ((v3, true)))))
     ((some (IntKind.i64.wrap (s10 + 1))).bind fun v6 =>
     some (.inl v6)))
    (some (.inr (.inl ()))))
   BIG 0)
  (fun (() : Unit) =>
   some (((⟨#[]⟩ : ByteArray), false))) some

def verb_parameter (kind : Int) (key : ByteArray) (val : ByteArray) : Option (T_Param × Bool) :=
 bindS (S := Bool) (A := (T_Param × Bool))
  (cond ((kind == 2))
   (some (.inl ((key.toList == (⟨#[115, 105, 122, 101]⟩ : ByteArray).toList))))
   (some (.inl false)))
  (fun (s1 : Bool) =>
   cond (s1)
    ((number_Parse val 9).bind fun v6 =>
    some (((T_Param.mk (⟨#[83, 73, 90, 69]⟩ : ByteArray) val), v6.2)))
    (bindS (S := Bool) (A := (T_Param × Bool))
     (cond ((kind == 2))
      (some (.inl ((key.toList == (⟨#[114, 101, 116]⟩ : ByteArray).toList))))
      (some (.inl false)))
     (fun (s7 : Bool) =>
      cond (s7)
       ((verb_oneOf val ([(⟨#[70, 85, 76, 76]⟩ : ByteArray), (⟨#[72, 68, 82, 83]⟩ : ByteArray)])).bind fun v12 =>
       some (((T_Param.mk (⟨#[82, 69, 84]⟩ : ByteArray) v12.1), v12.2)))
       (bindS (S := Bool) (A := (T_Param × Bool))
        (cond ((kind == 3))
         (some (.inl ((key.toList == (⟨#[110, 111, 116, 105, 102, 121]⟩ : ByteArray).toList))))
         (some (.inl false)))
        (fun (s13 : Bool) =>
         cond (s13)
          ((verb_oneOf val ([(⟨#[78, 69, 86, 69, 82]⟩ : ByteArray), (⟨#[70, 65, 73, 76, 85, 82, 69]⟩ : ByteArray)])).bind fun v18 =>
          some (((T_Param.mk (⟨#[78, 79, 84, 73, 70, 89]⟩ : ByteArray) v18.1), v18.2)))
          (some (((T_Param.mk (⟨#[]⟩ : ByteArray) (⟨#[]⟩ : ByteArray)), false)))) some)) some)) some

def verb_parameters_1_cap (q : T_Param) (cap : T_Param) : Option Bool :=
 some ((q.Key.toList == cap.Key.toList))

def slices_IndexFunc_api_Param_api_Param_of_verb_parameters_1 (s : (List T_Param)) (cap : T_Param) : Option Int :=
 bindS (S := (Unit)) (A := Int)
  (loopF (S := (Int)) (O := (Unit) ⊕ Int) (fun (s10 : Int) =>
   cond ((decide (s10 < (s.length : Int))))
    ((ixO s10 s.length).bind fun v2 =>
    (getO s v2).bind fun v3 =>
    (verb_parameters_1_cap v3 cap).bind fun v4 =>
    cond (v4)
     (some (.inr (.inr (s10))))
     ((some (IntKind.i64.wrap (s10 + 1))).bind fun v6 =>
     some (.inl v6)))
    (some (.inr (.inl ()))))
   BIG 0)
  (fun (() : Unit) =>
   some ((-1))) some

def slices_ContainsFunc_api_Param_api_Param_of_verb_parameters_1 (s : (List T_Param)) (cap : T_Param) : Option Bool :=
 (slices_IndexFunc_api_Param_api_Param_of_verb_parameters_1 s cap).bind fun v1 =>
 some ((decide (0 ≤ v1)))

def verb_parameters (kind : Int) (s : ByteArray) : Option ((List T_Param) × Bool) :=
 cond ((s.toList == (⟨#[]⟩ : ByteArray).toList))
  (some (([], true)))
  ((strings_CutPrefix s (⟨#[32]⟩ : ByteArray)).bind fun v2 =>
  cond ((!v2.2))
   (some (([], false)))
   ((strings_SplitSeq v2.1 (⟨#[32]⟩ : ByteArray)).bind fun v4 =>
   bindS (S := ((List T_Param))) (A := ((List T_Param)))
    (rangeS (S := ((List T_Param))) (O := ((List T_Param))) (fun Y st => Sh.strings_splitSeq_1 Y v4.1 v4.2.1 v4.2.2 st) (fun (x : ByteArray) (s46 : (List T_Param)) =>
     (strings_Cut x (⟨#[61]⟩ : ByteArray)).bind fun v5 =>
     (path_Fold v5.1).bind fun v6 =>
     (verb_parameter kind v6 v5.2.1).bind fun v7 =>
     bindS (S := Bool) (A := (((List T_Param)) ⊕ ((List T_Param))))
      (cond ((!v7.2))
       (some (.inl true))
       ((slices_ContainsFunc_api_Param_api_Param_of_verb_parameters_1 s46 v7.1).bind fun v8 =>
       some (.inl v8)))
      (fun (s53 : Bool) =>
       cond (s53)
        (some (.inr s46))
        ((appO 32 s46 [v7.1]).bind fun v14 =>
        some (.inl v14))) some)
     [])
    (fun (s46 : (List T_Param)) =>
     some ((s46, true)))
    (fun (s52 : (List T_Param)) =>
     some (([], false)))))

def verb_pathCommand (kind : Int) (line : ByteArray) : Option (T_Cmd × Bool) :=
 (verb_opening kind).bind fun v1 =>
 (verb_cutFold line v1).bind fun v2 =>
 cond ((!v2.2))
  (some (((T_Cmd.mk 0 (⟨#[]⟩ : ByteArray) ((T_Path.mk false (⟨#[]⟩ : ByteArray) (⟨#[]⟩ : ByteArray))) []), false)))
  ((strings_Index v2.1 (⟨#[62]⟩ : ByteArray)).bind fun v4 =>
  (some (IntKind.i64.wrap (v4 + 1))).bind fun v5 =>
  (subO v2.1 0 v5).bind fun v6 =>
  (path_Parse v6).bind fun v7 =>
  bindS (S := Bool) (A := (T_Cmd × Bool))
   (cond ((v7.2 != 0))
    (some (.inl true))
    (cond ((kind == 3))
     (some (.inl v7.1.Null))
     (some (.inl false))))
   (fun (s16 : Bool) =>
    cond (s16)
     (some (((T_Cmd.mk 0 (⟨#[]⟩ : ByteArray) ((T_Path.mk false (⟨#[]⟩ : ByteArray) (⟨#[]⟩ : ByteArray))) []), false)))
     ((subO v2.1 v5 (v2.1.size : Int)).bind fun v13 =>
     (verb_parameters kind v13).bind fun v14 =>
     some (((T_Cmd.mk kind (⟨#[]⟩ : ByteArray) v7.1 v14.1), v14.2)))) some)

def verb_command (line : ByteArray) : Option (T_Cmd × Bool) :=
 (strings_Cut line (⟨#[32]⟩ : ByteArray)).bind fun v1 =>
 (verb_kindOf line).bind fun v2 =>
 bindS (S := Bool) (A := (T_Cmd × Bool))
  (cond ((v2 == 2))
   (some (.inl (v2 == 2)))
   (some (.inl (v2 == 3))))
  (fun (s30 : Bool) =>
   cond (s30)
    ((verb_pathCommand v2 line).bind fun v10 =>
    some (((T_Cmd.mk v10.1.Kind v10.1.Text (T_Path.mk v10.1.Path.Null v10.1.Path.Local v10.1.Path.Domain) v10.1.Params), v10.2)))
    (bindS (S := Bool) (A := (T_Cmd × Bool))
     (cond ((v2 == 1))
      (some (.inl (v2 == 1)))
      (some (.inl (v2 == 9))))
     (fun (s37 : Bool) =>
      cond (s37)
       ((path_Domain v1.2.1).bind fun v18 =>
       some (((T_Cmd.mk v2 v1.2.1 ((T_Path.mk false (⟨#[]⟩ : ByteArray) (⟨#[]⟩ : ByteArray))) []), v18)))
       (cond ((v2 == 6))
        (some (((T_Cmd.mk v2 v1.2.1 ((T_Path.mk false (⟨#[]⟩ : ByteArray) (⟨#[]⟩ : ByteArray))) []), (!(v1.2.1.toList == (⟨#[]⟩ : ByteArray).toList)))))
        (cond ((v2 == 11))
         (bindS (S := Bool) (A := (T_Cmd × Bool))
          (cond ((!v1.2.2))
           (some (.inl true))
           ((path_Domain v1.2.1).bind fun v21 =>
           some (.inl v21)))
          (fun (s45 : Bool) =>
           some (((T_Cmd.mk v2 v1.2.1 ((T_Path.mk false (⟨#[]⟩ : ByteArray) (⟨#[]⟩ : ByteArray))) []), s45))) some)
         (cond ((v2 == 10))
          ((verb_equalFold v1.2.1 (⟨#[67, 82, 65, 77, 45, 77, 68, 53]⟩ : ByteArray)).bind fun v27 =>
          some (((T_Cmd.mk v2 (⟨#[]⟩ : ByteArray) ((T_Path.mk false (⟨#[]⟩ : ByteArray) (⟨#[]⟩ : ByteArray))) []), v27)))
          (cond ((v2 == 7))
           (some (((T_Cmd.mk v2 (⟨#[]⟩ : ByteArray) ((T_Path.mk false (⟨#[]⟩ : ByteArray) (⟨#[]⟩ : ByteArray))) []), true)))
           (some (((T_Cmd.mk v2 (⟨#[]⟩ : ByteArray) ((T_Path.mk false (⟨#[]⟩ : ByteArray) (⟨#[]⟩ : ByteArray))) []), (!v1.2.2))))))))) some)) some

def verb_Parse (line : ByteArray) : Option (T_Cmd × Int) :=
 bindS (S := Bool) (A := (T_Cmd × Int))
  (cond ((decide (510 < (line.size : Int))))
   (some (.inl true))
   ((verb_printable line).bind fun v1 =>
   cond ((!v1))
    (some (.inl true))
    ((verb_kindOf line).bind fun v2 =>
    some (.inl (v2 == 0)))))
  (fun (s12 : Bool) =>
   cond (s12)
    (some (((T_Cmd.mk 0 (⟨#[]⟩ : ByteArray) ((T_Path.mk false (⟨#[]⟩ : ByteArray) (⟨#[]⟩ : ByteArray))) []), 500)))
    ((verb_otherMechanism line).bind fun v8 =>
    cond (v8)
     (some (((T_Cmd.mk 0 (⟨#[]⟩ : ByteArray) ((T_Path.mk false (⟨#[]⟩ : ByteArray) (⟨#[]⟩ : ByteArray))) []), 504)))
     ((verb_command line).bind fun v10 =>
     cond ((!v10.2))
      (some (((T_Cmd.mk 0 (⟨#[]⟩ : ByteArray) ((T_Path.mk false (⟨#[]⟩ : ByteArray) (⟨#[]⟩ : ByteArray))) []), 501)))
      (some (((T_Cmd.mk v10.1.Kind v10.1.Text (T_Path.mk v10.1.Path.Null v10.1.Path.Local v10.1.Path.Domain) v10.1.Params), 0)))))) some

def wherryref11_Fold (s : ByteArray) : Option ByteArray :=
 bindS (S := ((List Int))) (A := ByteArray)
  (loopF (S := ((List Int) × Int)) (O := ((List Int)) ⊕ ByteArray) (fun ((s37, s38) : (List Int) × Int) =>
   cond ((decide (s38 < (s.size : Int))))
    ((chrO s s38).bind fun v2 =>
    bindS (S := Int) (A := (((List Int) × Int) ⊕ (((List Int)) ⊕ ByteArray)))
     (bindS (S := Bool) (A := (Int ⊕ (((List Int) × Int) ⊕ (((List Int)) ⊕ ByteArray))))
      (cond ((decide (65 ≤ v2)))
       (some (.inl ((decide (v2 ≤ 90)))))
       (some (.inl false)))
      (fun (s71 : Bool) =>
       cond (s71)
        ((some (IntKind.u8.wrap (v2 + 32))).bind fun v8 =>
        some (.inl v8))
        (some (.inl v2))) some)
     (fun (s67 : Int) =>
      (appO 1 s37 [s67]).bind fun v18 =>
      (some (IntKind.i64.wrap (s38 + 1))).bind fun v19 =>
      some (.inl (v18, v19))) some)
    (some (.inr (.inl s37))))
   BIG ([], 0))
  (fun (s54 : (List Int)) =>
   (some (bstr s54)).bind fun v76 =>
   some (v76)) some

def wherryref11_first (s : ByteArray) : Option ByteArray :=
 bindS (S := (Unit)) (A := ByteArray)
  (loopF (S := (Int)) (O := (Unit) ⊕ ByteArray) (fun (s10 : Int) =>
   cond ((decide (s10 < (s.size : Int))))
    ((chrO s s10).bind fun v2 =>
    cond ((v2 == 32))
     ((subO s 0 s10).bind fun v4 =>
     (wherryref11_Fold v4).bind fun v5 =>
     some (.inr (.inr (v5))))
     ((some (IntKind.i64.wrap (s10 + 1))).bind fun v6 =>
     some (.inl v6)))
    (some (.inr (.inl ()))))
   BIG 0)
  (fun (() : Unit) =>
   (wherryref11_Fold s).bind fun v21 =>
   some (v21)) some

def wherryref11_among (s : ByteArray) (l : (List ByteArray)) : Option Bool :=
 bindS (S := (Unit)) (A := Bool)
  (loopF (S := (Int)) (O := (Unit) ⊕ Bool) (fun (s9 : Int) =>
   cond ((decide (s9 < (l.length : Int))))
    ((ixO s9 l.length).bind fun v2 =>
    (getO l v2).bind fun v3 =>
    cond ((v3.toList == s.toList))
     (some (.inr (.inr (true))))
     ((some (IntKind.i64.wrap (s9 + 1))).bind fun v5 =>
     some (.inl v5)))
    (some (.inr (.inl ()))))
   BIG 0)
  (fun (() : Unit) =>
   some (false)) some

def wherryref11_in (n : Int) (lo : Int) (hi : Int) : Option Bool :=
 bindS (S := Bool) (A := Bool)
  (cond ((decide (lo ≤ n)))
   (some (.inl ((decide (n ≤ hi)))))
   (some (.inl false)))
  (fun (s1 : Bool) =>
   some (s1)) some

def wherryref11_letter (c : Int) : Option Bool :=
 bindS (S := Bool) (A := Bool)
  (cond ((decide (97 ≤ c)))
   (cond ((decide (c ≤ 122)))
    (some (.inl true))
    (cond ((decide (65 ≤ c)))
     (some (.inl ((decide (c ≤ 90)))))
     (some (.inl false))))
   (cond ((decide (65 ≤ c)))
    (some (.inl ((decide (c ≤ 90)))))
    (some (.inl false))))
  (fun (s1 : Bool) =>
   some (s1)) some

def wherryref11_digit (c : Int) : Option Bool :=
 bindS (S := Bool) (A := Bool)
  (cond ((decide (48 ≤ c)))
   (some (.inl ((decide (c ≤ 57)))))
   (some (.inl false)))
  (fun (s1 : Bool) =>
   some (s1)) some

def wherryref11_Domain (s : ByteArray) : Option Bool :=
 (wherryref11_in (s.size : Int) 1 255).bind fun v1 =>
 cond ((!v1))
  (some (false))
  (bindS (S := (Unit)) (A := Bool)
   (loopF (S := (Int × Int)) (O := (Unit) ⊕ Bool) (fun ((s88, s89) : Int × Int) =>
    cond ((decide (s89 ≤ (s.size : Int))))
     (bindS (S := Int) (A := ((Int × Int) ⊕ ((Unit) ⊕ Bool)))
      (bindS (S := Bool) (A := (Int ⊕ ((Int × Int) ⊕ ((Unit) ⊕ Bool))))
       (cond ((decide (s89 < (s.size : Int))))
        ((chrO s s89).bind fun v4 =>
        some (.inl (v4 != 46)))
        (some (.inl false)))
       (fun (s151 : Bool) =>
        cond (s151)
         (bindS (S := Bool) (A := (Int ⊕ ((Int × Int) ⊕ ((Unit) ⊕ Bool))))
          ((chrO s s89).bind fun v10 =>
          (wherryref11_letter v10).bind fun v11 =>
          cond ((!v11))
           ((chrO s s89).bind fun v12 =>
           (wherryref11_digit v12).bind fun v13 =>
           cond ((!v13))
            ((chrO s s89).bind fun v14 =>
            some (.inl (v14 != 45)))
            (some (.inl false)))
           (some (.inl false)))
          (fun (s156 : Bool) =>
           cond (s156)
            (some (.inr (.inr (.inr (false)))))
            (some (.inl s88))) some)
         (bindS (S := Bool) (A := (Int ⊕ ((Int × Int) ⊕ ((Unit) ⊕ Bool))))
          ((some (IntKind.i64.wrap (s89 - s88))).bind fun v20 =>
          (wherryref11_in v20 1 63).bind fun v21 =>
          cond ((!v21))
           (some (.inl true))
           ((chrO s s88).bind fun v22 =>
           cond ((v22 == 45))
            (some (.inl true))
            ((some (IntKind.i64.wrap (s89 - 1))).bind fun v23 =>
            (chrO s v23).bind fun v24 =>
            some (.inl (v24 == 45)))))
          (fun (s161 : Bool) =>
           cond (s161)
            (some (.inr (.inr (.inr (false)))))
            ((some (IntKind.i64.wrap (s89 + 1))).bind fun v30 =>
            some (.inl v30))) some)) some)
      (fun (s147 : Int) =>
       (some (IntKind.i64.wrap (s89 + 1))).bind fun v50 =>
       some (.inl (s147, v50))) some)
     (some (.inr (.inl ()))))
    BIG (0, 0))
   (fun (() : Unit) =>
    some (true)) some)

def wherryref11_begins (s : ByteArray) (with_ : ByteArray) : Option (ByteArray × Bool) :=
 bindS (S := Bool) (A := (ByteArray × Bool))
  (cond ((decide ((s.size : Int) < (with_.size : Int))))
   (some (.inl true))
   ((subO s 0 (with_.size : Int)).bind fun v1 =>
   (wherryref11_Fold v1).bind fun v2 =>
   some (.inl ((!(v2.toList == with_.toList))))))
  (fun (s3 : Bool) =>
   cond (s3)
    (some (((⟨#[]⟩ : ByteArray), false)))
    ((subO s (with_.size : Int) (s.size : Int)).bind fun v8 =>
    some ((v8, true)))) some

def wherryref11_sign (c : Int) : Option Bool :=
 bindS (S := Bool) (A := Bool)
  ((wherryref11_letter c).bind fun v1 =>
  cond (v1)
   (some (.inl true))
   ((wherryref11_digit c).bind fun v2 =>
   some (.inl v2)))
  (fun (s3 : Bool) =>
   cond (s3)
    (some (true))
    (bindS (S := (Unit)) (A := Bool)
     (loopF (S := (Int)) (O := (Unit) ⊕ Bool) (fun (s15 : Int) =>
      cond ((decide (s15 < (((⟨#[33, 35, 36, 37, 38, 39, 42, 43, 45, 47, 61, 63, 94, 95, 123, 124, 125, 126]⟩ : ByteArray).size : Int)))))
       ((chrO (⟨#[33, 35, 36, 37, 38, 39, 42, 43, 45, 47, 61, 63, 94, 95, 123, 124, 125, 126]⟩ : ByteArray) s15).bind fun v9 =>
       cond ((v9 == c))
        (some (.inr (.inr (true))))
        ((some (IntKind.i64.wrap (s15 + 1))).bind fun v11 =>
        some (.inl v11)))
       (some (.inr (.inl ()))))
      BIG 0)
     (fun (() : Unit) =>
      some ((c == 96))) some)) some

def wherryref11_Local (s : ByteArray) : Option Bool :=
 bindS (S := Bool) (A := Bool)
  ((wherryref11_in (s.size : Int) 1 64).bind fun v1 =>
  cond ((!v1))
   (some (.inl true))
   ((chrO s 0).bind fun v2 =>
   cond ((v2 == 46))
    (some (.inl true))
    ((some (IntKind.i64.wrap ((s.size : Int) - 1))).bind fun v3 =>
    (chrO s v3).bind fun v4 =>
    some (.inl (v4 == 46)))))
  (fun (s5 : Bool) =>
   cond (s5)
    (some (false))
    (bindS (S := (Unit)) (A := Bool)
     (loopF (S := (Int)) (O := (Unit) ⊕ Bool) (fun (s33 : Int) =>
      cond ((decide (s33 < (s.size : Int))))
       (bindS (S := Bool) (A := ((Int) ⊕ ((Unit) ⊕ Bool)))
        ((chrO s s33).bind fun v11 =>
        cond ((v11 == 46))
         ((some (IntKind.i64.wrap (s33 - 1))).bind fun v12 =>
         (chrO s v12).bind fun v13 =>
         cond ((v13 == 46))
          (some (.inl true))
          ((chrO s s33).bind fun v14 =>
          cond ((v14 != 46))
           ((chrO s s33).bind fun v15 =>
           (wherryref11_sign v15).bind fun v16 =>
           some (.inl (!v16)))
           (some (.inl false))))
         ((chrO s s33).bind fun v17 =>
         cond ((v17 != 46))
          ((chrO s s33).bind fun v18 =>
          (wherryref11_sign v18).bind fun v19 =>
          some (.inl (!v19)))
          (some (.inl false))))
        (fun (s47 : Bool) =>
         cond (s47)
          (some (.inr (.inr (false))))
          ((some (IntKind.i64.wrap (s33 + 1))).bind fun v25 =>
          some (.inl v25))) some)
       (some (.inr (.inl ()))))
      BIG 0)
     (fun (() : Unit) =>
      some (true)) some)) some

def wherryref11_Path (p : T_Path) : Option Bool :=
 cond (p.Null)
  (bindS (S := Bool) (A := Bool)
   (cond ((p.Local.toList == (⟨#[]⟩ : ByteArray).toList))
    (some (.inl ((p.Domain.toList == (⟨#[]⟩ : ByteArray).toList))))
    (some (.inl false)))
   (fun (s2 : Bool) =>
    some (s2)) some)
  (bindS (S := Bool) (A := Bool)
   ((wherryref11_Local p.Local).bind fun v6 =>
   cond (v6)
    ((wherryref11_Domain p.Domain).bind fun v7 =>
    some (.inl v7))
    (some (.inl false)))
   (fun (s8 : Bool) =>
    some (s8)) some)

def wherryref11_keep (p : T_Path) (ok : Bool) : Option (T_Path × Bool) :=
 cond ((!ok))
  (some (((T_Path.mk false (⟨#[]⟩ : ByteArray) (⟨#[]⟩ : ByteArray)), false)))
  (some ((p, true)))

def wherryref11_Parse (s : ByteArray) : Option (T_Path × Bool) :=
 cond ((s.toList == (⟨#[60, 62]⟩ : ByteArray).toList))
  (some (((T_Path.mk true (⟨#[]⟩ : ByteArray) (⟨#[]⟩ : ByteArray)), true)))
  (bindS (S := Bool) (A := (T_Path × Bool))
   (cond ((decide ((s.size : Int) < 2)))
    (some (.inl true))
    ((chrO s 0).bind fun v2 =>
    cond ((v2 != 60))
     (some (.inl true))
     ((some (IntKind.i64.wrap ((s.size : Int) - 1))).bind fun v3 =>
     (chrO s v3).bind fun v4 =>
     some (.inl (v4 != 62)))))
   (fun (s5 : Bool) =>
    cond (s5)
     (some (((T_Path.mk false (⟨#[]⟩ : ByteArray) (⟨#[]⟩ : ByteArray)), false)))
     ((some (IntKind.i64.wrap ((s.size : Int) - 1))).bind fun v10 =>
     (subO s 1 v10).bind fun v11 =>
     bindS (S := (Unit)) (A := (T_Path × Bool))
      (loopF (S := (Int)) (O := (Unit) ⊕ (T_Path × Bool)) (fun (s24 : Int) =>
       cond ((decide (s24 < (v11.size : Int))))
        ((chrO v11 s24).bind fun v13 =>
        cond ((v13 == 64))
         ((subO v11 0 s24).bind fun v15 =>
         (some (IntKind.i64.wrap (s24 + 1))).bind fun v16 =>
         (subO v11 v16 (v11.size : Int)).bind fun v17 =>
         (wherryref11_Path (T_Path.mk false v15 v17)).bind fun v18 =>
         (wherryref11_keep (T_Path.mk false v15 v17) v18).bind fun v19 =>
         some (.inr (.inr ((v19.1, v19.2)))))
         ((some (IntKind.i64.wrap (s24 + 1))).bind fun v20 =>
         some (.inl v20)))
        (some (.inr (.inl ()))))
       BIG 0)
      (fun (() : Unit) =>
       some (((T_Path.mk false (⟨#[]⟩ : ByteArray) (⟨#[]⟩ : ByteArray)), false))) some)) some)

def wherryref11_number (s : ByteArray) (most : Int) : Option Int :=
 bindS (S := Bool) (A := Int)
  ((wherryref11_in (s.size : Int) 1 most).bind fun v1 =>
  cond ((!v1))
   (some (.inl true))
   (cond ((decide (1 < (s.size : Int))))
    ((chrO s 0).bind fun v2 =>
    some (.inl (v2 == 48)))
    (some (.inl false))))
  (fun (s3 : Bool) =>
   cond (s3)
    (some ((-1)))
    (bindS (S := (Int)) (A := Int)
     (loopF (S := (Int × Int)) (O := (Int) ⊕ Int) (fun ((s22, s23) : Int × Int) =>
      cond ((decide (s23 < (s.size : Int))))
       ((chrO s s23).bind fun v9 =>
       (wherryref11_digit v9).bind fun v10 =>
       cond ((!v10))
        (some (.inr (.inr ((-1)))))
        ((some (IntKind.i64.wrap (10 * s22))).bind fun v12 =>
        (chrO s s23).bind fun v13 =>
        (some (IntKind.u8.wrap (v13 - 48))).bind fun v14 =>
        (some (IntKind.i64.wrap v14)).bind fun v15 =>
        (some (IntKind.i64.wrap (v12 + v15))).bind fun v16 =>
        (some (IntKind.i64.wrap (s23 + 1))).bind fun v17 =>
        some (.inl (v16, v17))))
       (some (.inr (.inl s22))))
      BIG (0, 0))
     (fun (s26 : Int) =>
      some (s26)) some)) some

def wherryref11_param (s : ByteArray) (kind : Int) : Option (T_Param × Bool) :=
 (wherryref11_begins s (⟨#[115, 105, 122, 101, 61]⟩ : ByteArray)).bind fun v1 =>
 bindS (S := Bool) (A := (T_Param × Bool))
  (cond (v1.2)
   (cond ((kind == 2))
    ((wherryref11_number v1.1 9).bind fun v2 =>
    some (.inl ((decide (0 ≤ v2)))))
    (some (.inl false)))
   (some (.inl false)))
  (fun (s3 : Bool) =>
   cond (s3)
    (some (((T_Param.mk (⟨#[83, 73, 90, 69]⟩ : ByteArray) v1.1), true)))
    ((wherryref11_begins s (⟨#[114, 101, 116, 61]⟩ : ByteArray)).bind fun v8 =>
    bindS (S := Bool) (A := (T_Param × Bool))
     (cond (v8.2)
      (cond ((kind == 2))
       ((wherryref11_Fold v8.1).bind fun v9 =>
       some (.inl ((v9.toList == (⟨#[102, 117, 108, 108]⟩ : ByteArray).toList))))
       (some (.inl false)))
      (some (.inl false)))
     (fun (s10 : Bool) =>
      cond (s10)
       (some (((T_Param.mk (⟨#[82, 69, 84]⟩ : ByteArray) (⟨#[70, 85, 76, 76]⟩ : ByteArray)), true)))
       ((wherryref11_begins s (⟨#[114, 101, 116, 61]⟩ : ByteArray)).bind fun v15 =>
       bindS (S := Bool) (A := (T_Param × Bool))
        (cond (v15.2)
         (cond ((kind == 2))
          ((wherryref11_Fold v15.1).bind fun v16 =>
          some (.inl ((v16.toList == (⟨#[104, 100, 114, 115]⟩ : ByteArray).toList))))
          (some (.inl false)))
         (some (.inl false)))
        (fun (s17 : Bool) =>
         cond (s17)
          (some (((T_Param.mk (⟨#[82, 69, 84]⟩ : ByteArray) (⟨#[72, 68, 82, 83]⟩ : ByteArray)), true)))
          ((wherryref11_begins s (⟨#[110, 111, 116, 105, 102, 121, 61]⟩ : ByteArray)).bind fun v22 =>
          bindS (S := Bool) (A := (T_Param × Bool))
           (cond (v22.2)
            (cond ((kind == 3))
             ((wherryref11_Fold v22.1).bind fun v23 =>
             some (.inl ((v23.toList == (⟨#[110, 101, 118, 101, 114]⟩ : ByteArray).toList))))
             (some (.inl false)))
            (some (.inl false)))
           (fun (s24 : Bool) =>
            cond (s24)
             (some (((T_Param.mk (⟨#[78, 79, 84, 73, 70, 89]⟩ : ByteArray) (⟨#[78, 69, 86, 69, 82]⟩ : ByteArray)), true)))
             ((wherryref11_begins s (⟨#[110, 111, 116, 105, 102, 121, 61]⟩ : ByteArray)).bind fun v29 =>
             bindS (S := Bool) (A := (T_Param × Bool))
              (cond (v29.2)
               (cond ((kind == 3))
                ((wherryref11_Fold v29.1).bind fun v30 =>
                some (.inl ((v30.toList == (⟨#[102, 97, 105, 108, 117, 114, 101]⟩ : ByteArray).toList))))
                (some (.inl false)))
               (some (.inl false)))
              (fun (s31 : Bool) =>
               cond (s31)
                (some (((T_Param.mk (⟨#[78, 79, 84, 73, 70, 89]⟩ : ByteArray) (⟨#[70, 65, 73, 76, 85, 82, 69]⟩ : ByteArray)), true)))
                (some (((T_Param.mk (⟨#[]⟩ : ByteArray) (⟨#[]⟩ : ByteArray)), false)))) some)) some)) some)) some)) some

def wherryref11_params (s : ByteArray) (kind : Int) : Option ((List T_Param) × Bool) :=
 bindS (S := ((List T_Param))) (A := ((List T_Param) × Bool))
  (loopF (S := (ByteArray × (List T_Param))) (O := ((List T_Param)) ⊕ ((List T_Param) × Bool)) (fun ((s103, s104) : ByteArray × (List T_Param)) =>
   cond ((decide (0 < (s103.size : Int))))
    ((chrO s103 0).bind fun v2 =>
    cond ((v2 != 32))
     (some (.inr (.inr (([], false)))))
     ((subO s103 1 (s103.size : Int)).bind fun v4 =>
     bindS (S := (Int)) (A := ((ByteArray × (List T_Param)) ⊕ (((List T_Param)) ⊕ ((List T_Param) × Bool))))
      (loopF (S := (Int)) (O := (Int) ⊕ ((ByteArray × (List T_Param)) ⊕ (((List T_Param)) ⊕ ((List T_Param) × Bool)))) (fun (s173 : Int) =>
       bindS (S := Bool) (A := ((Int) ⊕ ((Int) ⊕ ((ByteArray × (List T_Param)) ⊕ (((List T_Param)) ⊕ ((List T_Param) × Bool))))))
        (cond ((decide (s173 < (v4.size : Int))))
         ((chrO v4 s173).bind fun v5 =>
         some (.inl (v5 != 32)))
         (some (.inl false)))
        (fun (s186 : Bool) =>
         cond (s186)
          ((some (IntKind.i64.wrap (s173 + 1))).bind fun v11 =>
          some (.inl v11))
          (some (.inr (.inl s173)))) some)
       BIG 0)
      (fun (s179 : Int) =>
       (subO v4 0 s179).bind fun v36 =>
       (wherryref11_param v36 kind).bind fun v37 =>
       cond ((!v37.2))
        (some (.inr (.inr (([], false)))))
        (bindS (S := (Unit)) (A := ((ByteArray × (List T_Param)) ⊕ (((List T_Param)) ⊕ ((List T_Param) × Bool))))
         (loopF (S := (Int)) (O := (Unit) ⊕ ((ByteArray × (List T_Param)) ⊕ (((List T_Param)) ⊕ ((List T_Param) × Bool)))) (fun (s197 : Int) =>
          cond ((decide (s197 < (s104.length : Int))))
           ((ixO s197 s104.length).bind fun v85 =>
           (getO s104 v85).bind fun v86 =>
           cond ((v86.Key.toList == v37.1.Key.toList))
            (some (.inr (.inr (.inr (.inr (([], false)))))))
            ((some (IntKind.i64.wrap (s197 + 1))).bind fun v88 =>
            some (.inl v88)))
           (some (.inr (.inl ()))))
          BIG 0)
         (fun (() : Unit) =>
          (appO 32 s104 [v37.1]).bind fun v48 =>
          (subO v4 s179 (v4.size : Int)).bind fun v49 =>
          some (.inl (v49, v48))) some)) some))
    (some (.inr (.inl s104))))
   BIG (s, []))
  (fun (s153 : (List T_Param)) =>
   some ((s153, true))) some

def wherryref11_pathed (s : ByteArray) (kind : Int) : Option (T_Cmd × Int) :=
 bindS (S := (Int)) (A := (T_Cmd × Int))
  (loopF (S := (Int)) (O := (Int) ⊕ (T_Cmd × Int)) (fun (s14 : Int) =>
   bindS (S := Bool) (A := ((Int) ⊕ ((Int) ⊕ (T_Cmd × Int))))
    (cond ((decide (s14 < (s.size : Int))))
     ((chrO s s14).bind fun v1 =>
     some (.inl (v1 != 62)))
     (some (.inl false)))
    (fun (s27 : Bool) =>
     cond (s27)
      ((some (IntKind.i64.wrap (s14 + 1))).bind fun v7 =>
      some (.inl v7))
      (some (.inr (.inl s14)))) some)
   BIG 0)
  (fun (s20 : Int) =>
   cond ((s20 == (s.size : Int)))
    (some (((T_Cmd.mk 0 (⟨#[]⟩ : ByteArray) ((T_Path.mk false (⟨#[]⟩ : ByteArray) (⟨#[]⟩ : ByteArray))) []), 501)))
    ((some (IntKind.i64.wrap (s20 + 1))).bind fun v33 =>
    (subO s 0 v33).bind fun v34 =>
    (wherryref11_Parse v34).bind fun v35 =>
    (some (IntKind.i64.wrap (s20 + 1))).bind fun v36 =>
    (subO s v36 (s.size : Int)).bind fun v37 =>
    (wherryref11_params v37 kind).bind fun v38 =>
    bindS (S := Bool) (A := (T_Cmd × Int))
     (cond ((!v35.2))
      (some (.inl true))
      (cond ((!v38.2))
       (some (.inl true))
       (cond ((kind == 3))
        (some (.inl v35.1.Null))
        (some (.inl false)))))
     (fun (s39 : Bool) =>
      cond (s39)
       (some (((T_Cmd.mk 0 (⟨#[]⟩ : ByteArray) ((T_Path.mk false (⟨#[]⟩ : ByteArray) (⟨#[]⟩ : ByteArray))) []), 501)))
       (some (((T_Cmd.mk kind (⟨#[]⟩ : ByteArray) v35.1 v38.1), 0)))) some)) some

def wherryref11_mechanism (s : ByteArray) : Option Bool :=
 bindS (S := (Unit)) (A := Bool)
  (loopF (S := (Int)) (O := (Unit) ⊕ Bool) (fun (s20 : Int) =>
   cond ((decide (s20 < (s.size : Int))))
    (bindS (S := Bool) (A := ((Int) ⊕ ((Unit) ⊕ Bool)))
     ((chrO s s20).bind fun v2 =>
     (wherryref11_letter v2).bind fun v3 =>
     cond ((!v3))
      ((chrO s s20).bind fun v4 =>
      (wherryref11_digit v4).bind fun v5 =>
      cond ((!v5))
       ((chrO s s20).bind fun v6 =>
       some (.inl (v6 != 45)))
       (some (.inl false)))
      (some (.inl false)))
     (fun (s34 : Bool) =>
      cond (s34)
       (some (.inr (.inr (false))))
       ((some (IntKind.i64.wrap (s20 + 1))).bind fun v12 =>
       some (.inl v12))) some)
    (some (.inr (.inl ()))))
   BIG 0)
  (fun (() : Unit) =>
   some ((decide (0 < (s.size : Int))))) some

def wherryref11_Verb (s : ByteArray) : Option (T_Cmd × Int) :=
 cond ((decide (510 < (s.size : Int))))
  (some (((T_Cmd.mk 0 (⟨#[]⟩ : ByteArray) ((T_Path.mk false (⟨#[]⟩ : ByteArray) (⟨#[]⟩ : ByteArray))) []), 500)))
  (bindS (S := (Unit)) (A := (T_Cmd × Int))
   (loopF (S := (Int)) (O := (Unit) ⊕ (T_Cmd × Int)) (fun (s18 : Int) =>
    cond ((decide (s18 < (s.size : Int))))
     (bindS (S := Bool) (A := ((Int) ⊕ ((Unit) ⊕ (T_Cmd × Int))))
      ((chrO s s18).bind fun v3 =>
      cond ((decide (v3 < 32)))
       (some (.inl true))
       ((chrO s s18).bind fun v4 =>
       some (.inl ((decide (126 < v4))))))
      (fun (s32 : Bool) =>
       cond (s32)
        (some (.inr (.inr (((T_Cmd.mk 0 (⟨#[]⟩ : ByteArray) ((T_Path.mk false (⟨#[]⟩ : ByteArray) (⟨#[]⟩ : ByteArray))) []), 500)))))
        ((some (IntKind.i64.wrap (s18 + 1))).bind fun v10 =>
        some (.inl v10))) some)
     (some (.inr (.inl ()))))
    BIG 0)
   (fun (() : Unit) =>
    (wherryref11_first s).bind fun v37 =>
    (wherryref11_among v37 ([(⟨#[101, 104, 108, 111]⟩ : ByteArray), (⟨#[104, 101, 108, 111]⟩ : ByteArray), (⟨#[109, 97, 105, 108]⟩ : ByteArray), (⟨#[114, 99, 112, 116]⟩ : ByteArray), (⟨#[100, 97, 116, 97]⟩ : ByteArray), (⟨#[114, 115, 101, 116]⟩ : ByteArray), (⟨#[113, 117, 105, 116]⟩ : ByteArray), (⟨#[110, 111, 111, 112]⟩ : ByteArray), (⟨#[118, 114, 102, 121]⟩ : ByteArray), (⟨#[101, 116, 114, 110]⟩ : ByteArray), (⟨#[97, 117, 116, 104]⟩ : ByteArray), (⟨#[97, 116, 114, 110]⟩ : ByteArray)])).bind fun v38 =>
    cond ((!v38))
     (some (((T_Cmd.mk 0 (⟨#[]⟩ : ByteArray) ((T_Path.mk false (⟨#[]⟩ : ByteArray) (⟨#[]⟩ : ByteArray))) []), 500)))
     (bindS (S := ByteArray) (A := (T_Cmd × Int))
      (cond ((!(((v37.size : Int) == (s.size : Int)))))
       ((some (IntKind.i64.wrap ((v37.size : Int) + 1))).bind fun v41 =>
       (subO s v41 (s.size : Int)).bind fun v42 =>
       some (.inl v42))
       (some (.inl (⟨#[]⟩ : ByteArray))))
      (fun (s43 : ByteArray) =>
       bindS (S := Unit) (A := (T_Cmd × Int))
        (bindS (S := Unit) (A := (Unit ⊕ (T_Cmd × Int)))
         (bindS (S := Bool) (A := (Unit ⊕ (Unit ⊕ (T_Cmd × Int))))
          (cond ((v37.toList == (⟨#[101, 104, 108, 111]⟩ : ByteArray).toList))
           (some (.inl ((v37.toList == (⟨#[101, 104, 108, 111]⟩ : ByteArray).toList))))
           (some (.inl ((v37.toList == (⟨#[104, 101, 108, 111]⟩ : ByteArray).toList)))))
          (fun (s250 : Bool) =>
           cond (s250)
            (bindS (S := Bool) (A := (Unit ⊕ (Unit ⊕ (T_Cmd × Int))))
             (cond ((!(((v37.size : Int) == (s.size : Int)))))
              ((wherryref11_Domain s43).bind fun v55 =>
              some (.inl v55))
              (some (.inl false)))
             (fun (s256 : Bool) =>
              cond (s256)
               (some (.inr (.inr (((T_Cmd.mk 1 s43 ((T_Path.mk false (⟨#[]⟩ : ByteArray) (⟨#[]⟩ : ByteArray))) []), 0)))))
               (some (.inl ()))) some)
            (cond ((v37.toList == (⟨#[109, 97, 105, 108]⟩ : ByteArray).toList))
             ((wherryref11_begins s43 (⟨#[102, 114, 111, 109, 58]⟩ : ByteArray)).bind fun v62 =>
             bindS (S := Bool) (A := (Unit ⊕ (Unit ⊕ (T_Cmd × Int))))
              (cond ((!(((v37.size : Int) == (s.size : Int)))))
               (some (.inl v62.2))
               (some (.inl false)))
              (fun (s262 : Bool) =>
               cond (s262)
                ((wherryref11_pathed v62.1 2).bind fun v68 =>
                some (.inr (.inr (((T_Cmd.mk v68.1.Kind v68.1.Text (T_Path.mk v68.1.Path.Null v68.1.Path.Local v68.1.Path.Domain) v68.1.Params), v68.2)))))
                (some (.inl ()))) some)
             (cond ((v37.toList == (⟨#[114, 99, 112, 116]⟩ : ByteArray).toList))
              ((wherryref11_begins s43 (⟨#[116, 111, 58]⟩ : ByteArray)).bind fun v70 =>
              bindS (S := Bool) (A := (Unit ⊕ (Unit ⊕ (T_Cmd × Int))))
               (cond ((!(((v37.size : Int) == (s.size : Int)))))
                (some (.inl v70.2))
                (some (.inl false)))
               (fun (s268 : Bool) =>
                cond (s268)
                 ((wherryref11_pathed v70.1 3).bind fun v76 =>
                 some (.inr (.inr (((T_Cmd.mk v76.1.Kind v76.1.Text (T_Path.mk v76.1.Path.Null v76.1.Path.Local v76.1.Path.Domain) v76.1.Params), v76.2)))))
                 (some (.inl ()))) some)
              (bindS (S := Bool) (A := (Unit ⊕ (Unit ⊕ (T_Cmd × Int))))
               (cond ((v37.toList == (⟨#[100, 97, 116, 97]⟩ : ByteArray).toList))
                (some (.inl ((v37.toList == (⟨#[100, 97, 116, 97]⟩ : ByteArray).toList))))
                (cond ((v37.toList == (⟨#[114, 115, 101, 116]⟩ : ByteArray).toList))
                 (some (.inl ((v37.toList == (⟨#[114, 115, 101, 116]⟩ : ByteArray).toList))))
                 (some (.inl ((v37.toList == (⟨#[113, 117, 105, 116]⟩ : ByteArray).toList))))))
               (fun (s275 : Bool) =>
                cond (s275)
                 (cond (((v37.size : Int) == (s.size : Int)))
                  (bindS (S := Int) (A := (Unit ⊕ (Unit ⊕ (T_Cmd × Int))))
                   (cond ((v37.toList == (⟨#[114, 115, 101, 116]⟩ : ByteArray).toList))
                    (some (.inl 5))
                    (cond ((v37.toList == (⟨#[113, 117, 105, 116]⟩ : ByteArray).toList))
                     (some (.inl 8))
                     (some (.inl 4))))
                   (fun (s285 : Int) =>
                    some (.inr (.inr (((T_Cmd.mk s285 (⟨#[]⟩ : ByteArray) ((T_Path.mk false (⟨#[]⟩ : ByteArray) (⟨#[]⟩ : ByteArray))) []), 0))))) some)
                  (some (.inl ())))
                 (cond ((v37.toList == (⟨#[110, 111, 111, 112]⟩ : ByteArray).toList))
                  (some (.inr (.inr (((T_Cmd.mk 7 (⟨#[]⟩ : ByteArray) ((T_Path.mk false (⟨#[]⟩ : ByteArray) (⟨#[]⟩ : ByteArray))) []), 0)))))
                  (cond ((v37.toList == (⟨#[118, 114, 102, 121]⟩ : ByteArray).toList))
                   (bindS (S := Bool) (A := (Unit ⊕ (Unit ⊕ (T_Cmd × Int))))
                    (cond ((!(((v37.size : Int) == (s.size : Int)))))
                     (some (.inl ((!(s43.toList == (⟨#[]⟩ : ByteArray).toList)))))
                     (some (.inl false)))
                    (fun (s293 : Bool) =>
                     cond (s293)
                      (some (.inr (.inr (((T_Cmd.mk 6 s43 ((T_Path.mk false (⟨#[]⟩ : ByteArray) (⟨#[]⟩ : ByteArray))) []), 0)))))
                      (some (.inl ()))) some)
                   (cond ((v37.toList == (⟨#[101, 116, 114, 110]⟩ : ByteArray).toList))
                    (bindS (S := Bool) (A := (Unit ⊕ (Unit ⊕ (T_Cmd × Int))))
                     (cond ((!(((v37.size : Int) == (s.size : Int)))))
                      ((wherryref11_Domain s43).bind fun v103 =>
                      some (.inl v103))
                      (some (.inl false)))
                     (fun (s299 : Bool) =>
                      cond (s299)
                       (some (.inr (.inr (((T_Cmd.mk 9 s43 ((T_Path.mk false (⟨#[]⟩ : ByteArray) (⟨#[]⟩ : ByteArray))) []), 0)))))
                       (some (.inl ()))) some)
                    (cond ((v37.toList == (⟨#[97, 117, 116, 104]⟩ : ByteArray).toList))
                     ((wherryref11_Fold s43).bind fun v110 =>
                     cond ((v110.toList == (⟨#[99, 114, 97, 109, 45, 109, 100, 53]⟩ : ByteArray).toList))
                      (some (.inr (.inr (((T_Cmd.mk 10 (⟨#[]⟩ : ByteArray) ((T_Path.mk false (⟨#[]⟩ : ByteArray) (⟨#[]⟩ : ByteArray))) []), 0)))))
                      ((wherryref11_mechanism s43).bind fun v112 =>
                      cond (v112)
                       (some (.inr (.inr (((T_Cmd.mk 0 (⟨#[]⟩ : ByteArray) ((T_Path.mk false (⟨#[]⟩ : ByteArray) (⟨#[]⟩ : ByteArray))) []), 504)))))
                       (some (.inl ()))))
                     (cond ((v37.toList == (⟨#[97, 116, 114, 110]⟩ : ByteArray).toList))
                      (cond (((v37.size : Int) == (s.size : Int)))
                       (some (.inr (.inr (((T_Cmd.mk 11 (⟨#[]⟩ : ByteArray) ((T_Path.mk false (⟨#[]⟩ : ByteArray) (⟨#[]⟩ : ByteArray))) []), 0)))))
                       ((wherryref11_Domain s43).bind fun v116 =>
                       cond (v116)
                        (some (.inr (.inr (((T_Cmd.mk 11 s43 ((T_Path.mk false (⟨#[]⟩ : ByteArray) (⟨#[]⟩ : ByteArray))) []), 0)))))
                        (some (.inl ()))))
                      (some (.inl ())))))))) some)))) some)
         (fun (() : Unit) =>
          some (.inl ())) some)
        (fun (() : Unit) =>
         some (((T_Cmd.mk 0 (⟨#[]⟩ : ByteArray) ((T_Path.mk false (⟨#[]⟩ : ByteArray) (⟨#[]⟩ : ByteArray))) []), 501))) some) some)) some)

def path_Text (p : T_Path) : Option (ByteArray × Int) :=
 (path_Check p).bind fun v1 =>
 cond ((v1 != 0))
  (some (((⟨#[]⟩ : ByteArray), v1)))
  (cond (p.Null)
   (some (((⟨#[60, 62]⟩ : ByteArray), 0)))
   ((catO (⟨#[60]⟩ : ByteArray) p.Local).bind fun v4 =>
   (catO v4 (⟨#[64]⟩ : ByteArray)).bind fun v5 =>
   (catO v5 p.Domain).bind fun v6 =>
   (catO v6 (⟨#[62]⟩ : ByteArray)).bind fun v7 =>
   some ((v7, 0))))

def verb_format (c : T_Cmd) : Option ByteArray :=
 cond ((c.Kind == 1))
  ((catO (⟨#[69, 72, 76, 79, 32]⟩ : ByteArray) c.Text).bind fun v2 =>
  some (v2))
  (bindS (S := Bool) (A := ByteArray)
   (cond ((c.Kind == 2))
    (some (.inl (c.Kind == 2)))
    (some (.inl (c.Kind == 3))))
   (fun (s4 : Bool) =>
    cond (s4)
     ((path_Text (T_Path.mk c.Path.Null c.Path.Local c.Path.Domain)).bind fun v10 =>
     (verb_opening c.Kind).bind fun v11 =>
     (catO v11 v10.1).bind fun v12 =>
     (appO 1 ([] : List Int) (sbytes v12)).bind fun v13 =>
     bindS (S := ((List Int))) (A := ByteArray)
      (loopF (S := ((List Int) × Int)) (O := ((List Int)) ⊕ ByteArray) (fun ((s25, s26) : (List Int) × Int) =>
       cond ((decide (s26 < (c.Params.length : Int))))
        ((ixO s26 c.Params.length).bind fun v15 =>
        (getO c.Params v15).bind fun v16 =>
        (catO (⟨#[32]⟩ : ByteArray) v16.Key).bind fun v17 =>
        (catO v17 (⟨#[61]⟩ : ByteArray)).bind fun v18 =>
        (catO v18 v16.Val).bind fun v19 =>
        (appO 1 s25 (sbytes v19)).bind fun v20 =>
        (some (IntKind.i64.wrap (s26 + 1))).bind fun v21 =>
        some (.inl (v20, v21)))
        (some (.inr (.inl s25))))
       BIG (v13, 0))
      (fun (s28 : (List Int)) =>
       (strO s28).bind fun v36 =>
       some (v36)) some)
     (cond ((c.Kind == 4))
      (some ((⟨#[68, 65, 84, 65]⟩ : ByteArray)))
      (cond ((c.Kind == 5))
       (some ((⟨#[82, 83, 69, 84]⟩ : ByteArray)))
       (cond ((c.Kind == 6))
        ((catO (⟨#[86, 82, 70, 89, 32]⟩ : ByteArray) c.Text).bind fun v40 =>
        some (v40))
        (cond ((c.Kind == 7))
         (some ((⟨#[78, 79, 79, 80]⟩ : ByteArray)))
         (cond ((c.Kind == 8))
          (some ((⟨#[81, 85, 73, 84]⟩ : ByteArray)))
          (cond ((c.Kind == 9))
           ((catO (⟨#[69, 84, 82, 78, 32]⟩ : ByteArray) c.Text).bind fun v44 =>
           some (v44))
           (cond ((c.Kind == 10))
            (some ((⟨#[65, 85, 84, 72, 32, 67, 82, 65, 77, 45, 77, 68, 53]⟩ : ByteArray)))
            (cond ((c.Kind == 11))
             (cond ((c.Text.toList == (⟨#[]⟩ : ByteArray).toList))
              (some ((⟨#[65, 84, 82, 78]⟩ : ByteArray)))
              ((catO (⟨#[65, 84, 82, 78, 32]⟩ : ByteArray) c.Text).bind fun v48 =>
              some (v48)))
             (some ((⟨#[]⟩ : ByteArray)))))))))))) some)

def slices_Equal_api_Param_api_Param (p_s1 : (List T_Param)) (p_s2 : (List T_Param)) : Option Bool :=
 cond (((p_s1.length : Int) != (p_s2.length : Int)))
  (some (false))
  (bindS (S := (Unit)) (A := Bool)
   (loopF (S := (Int)) (O := (Unit) ⊕ Bool) (fun (s12 : Int) =>
    cond ((decide (s12 < (p_s1.length : Int))))
     ((ixO s12 p_s1.length).bind fun v3 =>
     (getO p_s1 v3).bind fun v4 =>
     (ixO s12 p_s2.length).bind fun v5 =>
     (getO p_s2 v5).bind fun v6 =>
     cond ((!((v4.Key.toList == v6.Key.toList) && ((v4.Val.toList == v6.Val.toList) && true))))
      (some (.inr (.inr (false))))
      ((some (IntKind.i64.wrap (s12 + 1))).bind fun v8 =>
      some (.inl v8)))
     (some (.inr (.inl ()))))
    BIG 0)
   (fun (() : Unit) =>
    some (true)) some)

def verb_same (a : T_Cmd) (b : T_Cmd) : Option Bool :=
 bindS (S := Bool) (A := Bool)
  (cond ((a.Kind == b.Kind))
   (cond ((a.Text.toList == b.Text.toList))
    (cond (((a.Path.Null == b.Path.Null) && ((a.Path.Local.toList == b.Path.Local.toList) && ((a.Path.Domain.toList == b.Path.Domain.toList) && true))))
     ((slices_Equal_api_Param_api_Param a.Params b.Params).bind fun v1 =>
     some (.inl v1))
     (some (.inl false)))
    (some (.inl false)))
   (some (.inl false)))
  (fun (s2 : Bool) =>
   some (s2)) some

def verb_Text (c : T_Cmd) : Option (ByteArray × Int) :=
 (verb_format ((T_Cmd.mk c.Kind c.Text (T_Path.mk c.Path.Null c.Path.Local c.Path.Domain) c.Params))).bind fun v1 =>
 (verb_Parse v1).bind fun v2 =>
 bindS (S := Bool) (A := (ByteArray × Int))
  (cond ((v2.2 != 0))
   (some (.inl true))
   ((verb_same ((T_Cmd.mk c.Kind c.Text (T_Path.mk c.Path.Null c.Path.Local c.Path.Domain) c.Params)) ((T_Cmd.mk v2.1.Kind v2.1.Text (T_Path.mk v2.1.Path.Null v2.1.Path.Local v2.1.Path.Domain) v2.1.Params))).bind fun v3 =>
   some (.inl (!v3))))
  (fun (s4 : Bool) =>
   cond (s4)
    (some (((⟨#[]⟩ : ByteArray), 5)))
    (some ((v1, 0)))) some

def wherryref11_Text (p : T_Path) : Option ByteArray :=
 cond (p.Null)
  (some ((⟨#[60, 62]⟩ : ByteArray)))
  ((catO (⟨#[60]⟩ : ByteArray) p.Local).bind fun v2 =>
  (catO v2 (⟨#[64]⟩ : ByteArray)).bind fun v3 =>
  (catO v3 p.Domain).bind fun v4 =>
  (catO v4 (⟨#[62]⟩ : ByteArray)).bind fun v5 =>
  some (v5))

def wherryref11_line (c : T_Cmd) : Option ByteArray :=
 bindS (S := ByteArray) (A := ByteArray)
  (bindS (S := ByteArray) (A := (ByteArray ⊕ ByteArray))
   (cond ((c.Kind == 1))
    ((catO (⟨#[69, 72, 76, 79, 32]⟩ : ByteArray) c.Text).bind fun v2 =>
    some (.inr (.inr (v2))))
    (cond ((c.Kind == 2))
     ((wherryref11_Text (T_Path.mk c.Path.Null c.Path.Local c.Path.Domain)).bind fun v4 =>
     (catO (⟨#[77, 65, 73, 76, 32, 70, 82, 79, 77, 58]⟩ : ByteArray) v4).bind fun v5 =>
     some (.inl v5))
     (cond ((c.Kind == 3))
      ((wherryref11_Text (T_Path.mk c.Path.Null c.Path.Local c.Path.Domain)).bind fun v7 =>
      (catO (⟨#[82, 67, 80, 84, 32, 84, 79, 58]⟩ : ByteArray) v7).bind fun v8 =>
      some (.inl v8))
      (cond ((c.Kind == 4))
       (some (.inr (.inr ((⟨#[68, 65, 84, 65]⟩ : ByteArray)))))
       (cond ((c.Kind == 5))
        (some (.inr (.inr ((⟨#[82, 83, 69, 84]⟩ : ByteArray)))))
        (cond ((c.Kind == 6))
         ((catO (⟨#[86, 82, 70, 89, 32]⟩ : ByteArray) c.Text).bind fun v12 =>
         some (.inr (.inr (v12))))
         (cond ((c.Kind == 7))
          (some (.inr (.inr ((⟨#[78, 79, 79, 80]⟩ : ByteArray)))))
          (cond ((c.Kind == 8))
           (some (.inr (.inr ((⟨#[81, 85, 73, 84]⟩ : ByteArray)))))
           (cond ((c.Kind == 9))
            ((catO (⟨#[69, 84, 82, 78, 32]⟩ : ByteArray) c.Text).bind fun v16 =>
            some (.inr (.inr (v16))))
            (cond ((c.Kind == 10))
             (some (.inr (.inr ((⟨#[65, 85, 84, 72, 32, 67, 82, 65, 77, 45, 77, 68, 53]⟩ : ByteArray)))))
             (cond ((c.Kind == 11))
              (cond ((c.Text.toList == (⟨#[]⟩ : ByteArray).toList))
               (some (.inr (.inr ((⟨#[65, 84, 82, 78]⟩ : ByteArray)))))
               ((catO (⟨#[65, 84, 82, 78, 32]⟩ : ByteArray) c.Text).bind fun v20 =>
               some (.inr (.inr (v20)))))
              (some (.inl (⟨#[]⟩ : ByteArray))))))))))))))
   (fun (s53 : ByteArray) =>
    some (.inl s53)) some)
  (fun (s37 : ByteArray) =>
   bindS (S := (ByteArray)) (A := ByteArray)
    (loopF (S := (ByteArray × Int)) (O := (ByteArray) ⊕ ByteArray) (fun ((s82, s83) : ByteArray × Int) =>
     cond ((decide (s83 < (c.Params.length : Int))))
      ((catO s82 (⟨#[32]⟩ : ByteArray)).bind fun v70 =>
      (ixO s83 c.Params.length).bind fun v71 =>
      (getO c.Params v71).bind fun v72 =>
      (catO v70 v72.Key).bind fun v73 =>
      (catO v73 (⟨#[61]⟩ : ByteArray)).bind fun v74 =>
      (ixO s83 c.Params.length).bind fun v75 =>
      (getO c.Params v75).bind fun v76 =>
      (catO v74 v76.Val).bind fun v77 =>
      (some (IntKind.i64.wrap (s83 + 1))).bind fun v78 =>
      some (.inl (v77, v78)))
      (some (.inr (.inl s82))))
     BIG (s37, 0))
    (fun (s85 : ByteArray) =>
     some (s85)) some) some

def wherrykeep_Path (a : T_Path) (b : T_Path) : Option Bool :=
 bindS (S := Bool) (A := Bool)
  ((some (a.Null == b.Null)).bind fun v1 =>
  cond ((a.Null == b.Null))
   (cond ((a.Local.toList == b.Local.toList))
    (some (.inl (a.Domain.toList == b.Domain.toList)))
    (some (.inl false)))
   (some (.inl false)))
  (fun (s2 : Bool) =>
   some (s2)) some

def wherrykeep_Cmd (a : T_Cmd) (b : T_Cmd) : Option Bool :=
 bindS (S := Bool) (A := Bool)
  (cond ((a.Kind != b.Kind))
   (some (.inl true))
   (cond ((!(a.Text.toList == b.Text.toList)))
    (some (.inl true))
    ((wherrykeep_Path (T_Path.mk a.Path.Null a.Path.Local a.Path.Domain) (T_Path.mk b.Path.Null b.Path.Local b.Path.Domain)).bind fun v1 =>
    cond ((!v1))
     (some (.inl true))
     (some (.inl (((a.Params.length : Int) != (b.Params.length : Int))))))))
  (fun (s2 : Bool) =>
   cond (s2)
    (some (false))
    (bindS (S := (Unit)) (A := Bool)
     (loopF (S := (Int)) (O := (Unit) ⊕ Bool) (fun (s29 : Int) =>
      cond ((decide (s29 < (a.Params.length : Int))))
       (bindS (S := Bool) (A := ((Int) ⊕ ((Unit) ⊕ Bool)))
        ((ixO s29 a.Params.length).bind fun v8 =>
        (getO a.Params v8).bind fun v9 =>
        (ixO s29 b.Params.length).bind fun v10 =>
        (getO b.Params v10).bind fun v11 =>
        cond ((!(v9.Key.toList == v11.Key.toList)))
         (some (.inl true))
         ((ixO s29 a.Params.length).bind fun v12 =>
         (getO a.Params v12).bind fun v13 =>
         (ixO s29 b.Params.length).bind fun v14 =>
         (getO b.Params v14).bind fun v15 =>
         some (.inl ((!(v13.Val.toList == v15.Val.toList))))))
        (fun (s43 : Bool) =>
         cond (s43)
          (some (.inr (.inr (false))))
          ((some (IntKind.i64.wrap (s29 + 1))).bind fun v21 =>
          some (.inl v21))) some)
       (some (.inr (.inl ()))))
      BIG 0)
     (fun (() : Unit) =>
      some (true)) some)) some

def wherryref11_Line (c : T_Cmd) : Option (ByteArray × Bool) :=
 (wherryref11_line ((T_Cmd.mk c.Kind c.Text (T_Path.mk c.Path.Null c.Path.Local c.Path.Domain) c.Params))).bind fun v1 =>
 (wherryref11_Verb v1).bind fun v2 =>
 bindS (S := Bool) (A := (ByteArray × Bool))
  (cond ((v2.2 != 0))
   (some (.inl true))
   ((wherrykeep_Cmd ((T_Cmd.mk v2.1.Kind v2.1.Text (T_Path.mk v2.1.Path.Null v2.1.Path.Local v2.1.Path.Domain) v2.1.Params)) ((T_Cmd.mk c.Kind c.Text (T_Path.mk c.Path.Null c.Path.Local c.Path.Domain) c.Params))).bind fun v3 =>
   some (.inl (!v3))))
  (fun (s4 : Bool) =>
   cond (s4)
    (some (((⟨#[]⟩ : ByteArray), false)))
    (some ((v1, true)))) some

def verb_Param (c : T_Cmd) (key : ByteArray) : Option (ByteArray × Bool) :=
 bindS (S := (Unit)) (A := (ByteArray × Bool))
  (loopF (S := (Int)) (O := (Unit) ⊕ (ByteArray × Bool)) (fun (s9 : Int) =>
   cond ((decide (s9 < (c.Params.length : Int))))
    ((ixO s9 c.Params.length).bind fun v2 =>
    (getO c.Params v2).bind fun v3 =>
    cond ((v3.Key.toList == key.toList))
     (some (.inr (.inr ((v3.Val, true)))))
     ((some (IntKind.i64.wrap (s9 + 1))).bind fun v5 =>
     some (.inl v5)))
    (some (.inr (.inl ()))))
   BIG 0)
  (fun (() : Unit) =>
   some (((⟨#[]⟩ : ByteArray), false))) some

def wherryref11_Param (c : T_Cmd) (key : ByteArray) : Option (ByteArray × Bool) :=
 bindS (S := (Unit)) (A := (ByteArray × Bool))
  (loopF (S := (Int)) (O := (Unit) ⊕ (ByteArray × Bool)) (fun (s11 : Int) =>
   cond ((decide (s11 < (c.Params.length : Int))))
    ((ixO s11 c.Params.length).bind fun v2 =>
    (getO c.Params v2).bind fun v3 =>
    cond ((v3.Key.toList == key.toList))
     ((ixO s11 c.Params.length).bind fun v5 =>
     (getO c.Params v5).bind fun v6 =>
     some (.inr (.inr ((v6.Val, true)))))
     ((some (IntKind.i64.wrap (s11 + 1))).bind fun v7 =>
     some (.inl v7)))
    (some (.inr (.inl ()))))
   BIG 0)
  (fun (() : Unit) =>
   some (((⟨#[]⟩ : ByteArray), false))) some

def wherrylaw12_wakes : Option Bool :=
 (verb_Parse (⟨#[109, 97, 105, 108, 32, 102, 114, 111, 109, 58, 60, 62, 32, 115, 105, 122, 101, 61, 53]⟩ : ByteArray)).bind fun v1 =>
 (verb_Text ((T_Cmd.mk v1.1.Kind v1.1.Text (T_Path.mk v1.1.Path.Null v1.1.Path.Local v1.1.Path.Domain) v1.1.Params))).bind fun v2 =>
 (verb_Param ((T_Cmd.mk v1.1.Kind v1.1.Text (T_Path.mk v1.1.Path.Null v1.1.Path.Local v1.1.Path.Domain) v1.1.Params)) (⟨#[83, 73, 90, 69]⟩ : ByteArray)).bind fun v3 =>
 (verb_Parse (⟨#[70, 82, 79, 66]⟩ : ByteArray)).bind fun v4 =>
 bindS (S := Bool) (A := Bool)
  (cond ((v1.2 == 0))
   (cond ((v2.2 == 0))
    (cond ((v1.1.Kind == 2))
     (cond (v1.1.Path.Null)
      (cond ((v2.1.toList == (⟨#[77, 65, 73, 76, 32, 70, 82, 79, 77, 58, 60, 62, 32, 83, 73, 90, 69, 61, 53]⟩ : ByteArray).toList))
       (cond (v3.2)
        (cond ((v3.1.toList == (⟨#[53]⟩ : ByteArray).toList))
         (some (.inl (v4.2 == 500)))
         (some (.inl false)))
        (some (.inl false)))
       (some (.inl false)))
      (some (.inl false)))
     (some (.inl false)))
    (some (.inl false)))
   (some (.inl false)))
  (fun (s5 : Bool) =>
   some (s5)) some

def wherrylaw12_VerbExact (s : ByteArray) (c : T_Cmd) (key : ByteArray) : Option Bool :=
 bindS (S := Bool) (A := Bool)
  (cond ((decide (1000 < (s.size : Int))))
   (some (.inl true))
   ((wherrylaw12_heavy ((T_Cmd.mk c.Kind c.Text (T_Path.mk c.Path.Null c.Path.Local c.Path.Domain) c.Params))).bind fun v1 =>
   some (.inl v1)))
  (fun (s2 : Bool) =>
   cond (s2)
    (some (true))
    ((verb_Parse s).bind fun v7 =>
    (wherryref11_Verb s).bind fun v8 =>
    (verb_Text ((T_Cmd.mk c.Kind c.Text (T_Path.mk c.Path.Null c.Path.Local c.Path.Domain) c.Params))).bind fun v9 =>
    (wherryref11_Line ((T_Cmd.mk c.Kind c.Text (T_Path.mk c.Path.Null c.Path.Local c.Path.Domain) c.Params))).bind fun v10 =>
    (verb_Param ((T_Cmd.mk c.Kind c.Text (T_Path.mk c.Path.Null c.Path.Local c.Path.Domain) c.Params)) key).bind fun v11 =>
    (wherryref11_Param ((T_Cmd.mk c.Kind c.Text (T_Path.mk c.Path.Null c.Path.Local c.Path.Domain) c.Params)) key).bind fun v12 =>
    bindS (S := Bool) (A := Bool)
     (cond ((v7.2 == v8.2))
      ((wherrykeep_Cmd ((T_Cmd.mk v7.1.Kind v7.1.Text (T_Path.mk v7.1.Path.Null v7.1.Path.Local v7.1.Path.Domain) v7.1.Params)) ((T_Cmd.mk v8.1.Kind v8.1.Text (T_Path.mk v8.1.Path.Null v8.1.Path.Local v8.1.Path.Domain) v8.1.Params))).bind fun v13 =>
      cond (v13)
       ((some ((v9.2 == 0) == v10.2)).bind fun v14 =>
       cond (((v9.2 == 0) == v10.2))
        (cond (v10.2)
         (cond ((v9.1.toList == v10.1.toList))
          (cond ((v11.1.toList == v12.1.toList))
           ((some (v11.2 == v12.2)).bind fun v15 =>
           cond ((v11.2 == v12.2))
            ((wherrylaw12_wakes ).bind fun v16 =>
            some (.inl v16))
            (some (.inl false)))
           (some (.inl false)))
          (some (.inl false)))
         (cond ((v9.2 == 5))
          (cond ((v9.1.toList == v10.1.toList))
           (cond ((v11.1.toList == v12.1.toList))
            ((some (v11.2 == v12.2)).bind fun v17 =>
            cond ((v11.2 == v12.2))
             ((wherrylaw12_wakes ).bind fun v18 =>
             some (.inl v18))
             (some (.inl false)))
            (some (.inl false)))
           (some (.inl false)))
          (some (.inl false))))
        (some (.inl false)))
       (some (.inl false)))
      (some (.inl false)))
     (fun (s19 : Bool) =>
      some (s19)) some)) some

end Go.Abs.Sh
