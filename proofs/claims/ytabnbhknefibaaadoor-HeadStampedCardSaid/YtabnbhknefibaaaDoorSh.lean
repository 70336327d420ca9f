/-
 The program told in Lean: plain functions; none where Go would panic or a slice outgrow its room.
-/
import Derived.Test.YtabnbhknefibaaaDoorAN
set_option linter.unusedVariables false
namespace Go.Abs.Sh

structure T_Field where
 Name : ByteArray
 Body : ByteArray
 deriving DecidableEq, Inhabited
def T_Field.enc (x : T_Field) : List Value := [.string x.Name, .string x.Body]
theorem T_Field.len (x : T_Field) : (T_Field.enc x).length = 2 := rfl
def T_Field.wf (x : T_Field) : Prop := wfS x.Name ∧ wfS x.Body
def T_Field.wz (x : T_Field) : Prop := wzS x.Name ∧ wzS x.Body

def Row_int_u8.ienc (x : List Int) : List IC := [.row 1 (List.map IC.v (List.map (Value.int .u8) x))]
theorem Row_int_u8.ilen (x : List Int) : (Row_int_u8.ienc x).length = 1 := rfl

def dots_lines (b : (List Int)) : Option (List Int) :=
 some (b)

def bytes_Cut_sh (s : (List Int)) (sep : (List Int)) : Option ((List Int) × (List Int) × Bool) :=
 (bytes_Index s sep).bind fun v1 =>
 cond ((decide (0 ≤ v1)))
  ((sliO s 0 v1).bind fun v3 =>
  (some (IntKind.i64.wrap (v1 + (sep.length : Int)))).bind fun v4 =>
  (sliO s v4 (s.length : Int)).bind fun v5 =>
  some ((v3, v5, true)))
  (some ((s, [], false)))

def dots_lines_1 {S : Type} (Y : (List Int) → S → Option (S × Bool)) (c0 : (List Int)) (st : S) : Option S :=
 bindS (S := (Unit)) (A := S)
  (loopF (S := ((List Int) × S)) (O := (Unit) ⊕ S) (fun ((s17, s18) : (List Int) × S) =>
   (bytes_Cut_sh s17 [13, 10]).bind fun v1 =>
   bindS (S := S × Bool) (A := (((List Int) × S) ⊕ ((Unit) ⊕ S)))
    (cond ((!v1.2.2))
     (some (.inl (s18, true)))
     ((Y v1.1 s18).bind fun v2 =>
     some (.inl ((v2.1, (!v2.2))))))
    (fun ((s31, s32) : S × Bool) =>
     cond (s32)
      (some (.inr (.inr (s31))))
      (some (.inl (v1.2.1, s31)))) some)
   BIG (c0, st))
  (fun (() : Unit) =>
   none) some

set_option maxRecDepth 100000 in
def utf8_first : List Int := (240 :: 240 :: 240 :: 240 :: 240 :: 240 :: 240 :: 240 :: 240 :: 240 :: 240 :: 240 :: 240 :: 240 :: 240 :: 240 :: 240 :: 240 :: 240 :: 240 :: 240 :: 240 :: 240 :: 240 :: 240 :: 240 :: 240 :: 240 :: 240 :: 240 :: 240 :: 240 :: 240 :: 240 :: 240 :: 240 :: 240 :: 240 :: 240 :: 240 :: 240 :: 240 :: 240 :: 240 :: 240 :: 240 :: 240 :: 240 :: 240 :: 240 :: 240 :: 240 :: 240 :: 240 :: 240 :: 240 :: 240 :: 240 :: 240 :: 240 :: 240 :: 240 :: 240 :: 240 :: 240 :: 240 :: 240 :: 240 :: 240 :: 240 :: 240 :: 240 :: 240 :: 240 :: 240 :: 240 :: 240 :: 240 :: 240 :: 240 :: 240 :: 240 :: 240 :: 240 :: 240 :: 240 :: 240 :: 240 :: 240 :: 240 :: 240 :: 240 :: 240 :: 240 :: 240 :: 240 :: 240 :: 240 :: 240 :: 240 :: 240 :: 240 :: 240 :: 240 :: 240 :: 240 :: 240 :: 240 :: 240 :: 240 :: 240 :: 240 :: 240 :: 240 :: 240 :: 240 :: 240 :: 240 :: 240 :: 240 :: 240 :: 240 :: 240 :: 240 :: 240 :: 240 :: 240 :: 240 :: 241 :: 241 :: 241 :: 241 :: 241 :: 241 :: 241 :: 241 :: 241 :: 241 :: 241 :: 241 :: 241 :: 241 :: 241 :: 241 :: 241 :: 241 :: 241 :: 241 :: 241 :: 241 :: 241 :: 241 :: 241 :: 241 :: 241 :: 241 :: 241 :: 241 :: 241 :: 241 :: 241 :: 241 :: 241 :: 241 :: 241 :: 241 :: 241 :: 241 :: 241 :: 241 :: 241 :: 241 :: 241 :: 241 :: 241 :: 241 :: 241 :: 241 :: 241 :: 241 :: 241 :: 241 :: 241 :: 241 :: 241 :: 241 :: 241 :: 241 :: 241 :: 241 :: 241 :: 241 :: 241 :: 241 :: 2 :: 2 :: 2 :: 2 :: 2 :: 2 :: 2 :: 2 :: 2 :: 2 :: 2 :: 2 :: 2 :: 2 :: 2 :: 2 :: 2 :: 2 :: 2 :: 2 :: 2 :: 2 :: 2 :: 2 :: 2 :: 2 :: 2 :: 2 :: 2 :: 2 :: 19 :: 3 :: 3 :: 3 :: 3 :: 3 :: 3 :: 3 :: 3 :: 3 :: 3 :: 3 :: 3 :: 35 :: 3 :: 3 :: 52 :: 4 :: 4 :: 4 :: 68 :: 241 :: 241 :: 241 :: 241 :: 241 :: 241 :: 241 :: 241 :: 241 :: 241 :: 241 :: [])

set_option maxRecDepth 100000 in
def utf8_accept : List Int := (128 :: 191 :: 160 :: 191 :: 128 :: 159 :: 144 :: 191 :: 128 :: 143 :: 0 :: 0 :: 0 :: 0 :: 0 :: 0 :: 0 :: 0 :: 0 :: 0 :: 0 :: 0 :: 0 :: 0 :: 0 :: 0 :: 0 :: 0 :: 0 :: 0 :: 0 :: 0 :: [])

def bytes_ContainsAny (b : (List Int)) (chars : ByteArray) : Option Bool :=
 (bytes_IndexAny b chars).bind fun v1 =>
 some ((decide (0 ≤ v1)))

def dots_Check (b : (List Int)) : Option Int :=
 (dots_lines b).bind fun v1 =>
 bindS (S := (Int)) (A := (Int))
  (rangeS (S := (Int)) (O := (Int)) (fun Y st => Sh.dots_lines_1 Y v1 st) (fun (x : (List Int)) (s8 : Int) =>
   (bytes_ContainsAny x (⟨#[13, 10]⟩ : ByteArray)).bind fun v2 =>
   cond (v2)
    (some (.inr s8))
    ((some (IntKind.i64.wrap ((x.length : Int) + 2))).bind fun v4 =>
    (some (IntKind.i64.wrap (s8 + v4))).bind fun v5 =>
    some (.inl v5)))
   0)
  (fun (s8 : Int) =>
   cond ((s8 != (b.length : Int)))
    (some (5))
    (some (0)))
  (fun (s10 : Int) =>
   some (5))

def strings_splitSeq (s : ByteArray) (sep : ByteArray) (sepSave : Int) : Option (ByteArray × ByteArray × Int) :=
 some ((sep, s, sepSave))

def strings_SplitSeq (s : ByteArray) (sep : ByteArray) : Option (ByteArray × ByteArray × Int) :=
 (strings_splitSeq s sep 0).bind fun v1 =>
 some ((v1.1, v1.2.1, v1.2.2))

def unicode_utf8_decodeRuneInStringSlow (s : ByteArray) : Option (Int × Int) :=
 cond ((decide ((s.size : Int) < 1)))
  (some ((65533, 0)))
  ((chrO s 0).bind fun v2 =>
  (ixO v2 256).bind fun v3 =>
  (getO utf8_first (0 + v3 * 1)).bind fun v4 =>
  cond ((decide (240 ≤ v4)))
   ((some (IntKind.i32.wrap v4)).bind fun v6 =>
   (shlO .i32 v6 31).bind fun v7 =>
   (shrO .i32 v7 31).bind fun v8 =>
   (chrO s 0).bind fun v9 =>
   (some (IntKind.i32.wrap v9)).bind fun v10 =>
   (some (bits .andNot .i32 v10 v8)).bind fun v11 =>
   (some (bits .and .i32 65533 v8)).bind fun v12 =>
   (some (bits .or .i32 v11 v12)).bind fun v13 =>
   some ((v13, 1)))
   (none))

def unicode_utf8_DecodeRuneInString (s : ByteArray) : Option (Int × Int) :=
 bindS (S := Bool) (A := (Int × Int))
  (cond ((!(s.toList == (⟨#[]⟩ : ByteArray).toList)))
   ((chrO s 0).bind fun v1 =>
   some (.inl ((decide (v1 < 128)))))
   (some (.inl false)))
  (fun (s2 : Bool) =>
   cond (s2)
    ((chrO s 0).bind fun v7 =>
    (some (IntKind.i32.wrap v7)).bind fun v8 =>
    some ((v8, 1)))
    ((unicode_utf8_decodeRuneInStringSlow s).bind fun v9 =>
    some ((v9.1, v9.2)))) some

def strings_splitSeq_1 {S : Type} (Y : ByteArray → S → Option (S × Bool)) (c0 : ByteArray) (c1 : ByteArray) (c2 : Int) (st : S) : Option S :=
 cond (((c0.size : Int) == 0))
  (bindS (S := (S)) (A := S)
   (loopF (S := (ByteArray × S)) (O := (S) ⊕ S) (fun ((s12, s13) : ByteArray × S) =>
    cond ((decide (0 < (s12.size : Int))))
     ((unicode_utf8_DecodeRuneInString s12).bind fun v3 =>
     (subO s12 0 v3.2).bind fun v4 =>
     (Y v4 s13).bind fun v5 =>
     cond ((!v5.2))
      (some (.inr (.inr (v5.1))))
      ((subO s12 v3.2 (s12.size : Int)).bind fun v7 =>
      some (.inl (v7, v5.1))))
     (some (.inr (.inl s13))))
    BIG (c1, st))
   (fun (s16 : S) =>
    some (s16)) some)
  (bindS (S := (ByteArray × S)) (A := S)
   (loopF (S := (ByteArray × S)) (O := (ByteArray × S) ⊕ S) (fun ((s37, s38) : ByteArray × S) =>
    (strings_Index s37 c0).bind fun v25 =>
    cond ((decide (v25 < 0)))
     (some (.inr (.inl (s37, s38))))
     ((some (IntKind.i64.wrap (v25 + c2))).bind fun v27 =>
     (subO s37 0 v27).bind fun v28 =>
     (Y v28 s38).bind fun v29 =>
     cond ((!v29.2))
      (some (.inr (.inr (v29.1))))
      ((some (IntKind.i64.wrap (v25 + (c0.size : Int)))).bind fun v31 =>
      (subO s37 v31 (s37.size : Int)).bind fun v32 =>
      some (.inl (v32, v29.1)))))
    BIG (c1, st))
   (fun ((s41, s42) : ByteArray × S) =>
    (Y s41 s42).bind fun v51 =>
    some (v51.1)) some)

def path_alphanumeric (c : Int) : Option Bool :=
 bindS (S := Bool) (A := Bool)
  (cond ((decide (48 ≤ c)))
   (cond ((decide (c ≤ 57)))
    (some (.inl true))
    (cond ((decide (65 ≤ c)))
     (cond ((decide (c ≤ 90)))
      (some (.inl true))
      (cond ((decide (97 ≤ c)))
       (some (.inl ((decide (c ≤ 122)))))
       (some (.inl false))))
     (cond ((decide (97 ≤ c)))
      (some (.inl ((decide (c ≤ 122)))))
      (some (.inl false)))))
   (cond ((decide (65 ≤ c)))
    (cond ((decide (c ≤ 90)))
     (some (.inl true))
     (cond ((decide (97 ≤ c)))
      (some (.inl ((decide (c ≤ 122)))))
      (some (.inl false))))
    (cond ((decide (97 ≤ c)))
     (some (.inl ((decide (c ≤ 122)))))
     (some (.inl false)))))
  (fun (s1 : Bool) =>
   some (s1)) some

def path_label_1 (c : Int) : Option Bool :=
 bindS (S := Bool) (A := Bool)
  ((path_alphanumeric c).bind fun v1 =>
  cond (v1)
   (some (.inl true))
   (some (.inl (c == 45))))
  (fun (s2 : Bool) =>
   some (s2)) some

def path_all_of_path_label_1 (s : ByteArray) : Option Bool :=
 bindS (S := (Unit)) (A := Bool)
  (loopF (S := (Int)) (O := (Unit) ⊕ Bool) (fun (s9 : Int) =>
   cond ((decide (s9 < (s.size : Int))))
    ((chrO s s9).bind fun v2 =>
    (path_label_1 v2).bind fun v3 =>
    cond ((!v3))
     (some (.inr (.inr (false))))
     ((some (IntKind.i64.wrap (s9 + 1))).bind fun v5 =>
     some (.inl v5)))
    (some (.inr (.inl ()))))
   BIG 0)
  (fun (() : Unit) =>
   some (true)) some

def path_label (s : ByteArray) : Option Bool :=
 bindS (S := Bool) (A := Bool)
  (cond ((!(s.toList == (⟨#[]⟩ : ByteArray).toList)))
   (cond ((decide ((s.size : Int) ≤ 63)))
    ((chrO s 0).bind fun v1 =>
    cond ((v1 != 45))
     ((some (IntKind.i64.wrap ((s.size : Int) - 1))).bind fun v2 =>
     (chrO s v2).bind fun v3 =>
     cond ((v3 != 45))
      ((path_all_of_path_label_1 s).bind fun v4 =>
      some (.inl v4))
      (some (.inl false)))
     (some (.inl false)))
    (some (.inl false)))
   (some (.inl false)))
  (fun (s5 : Bool) =>
   some (s5)) some

def path_dotted_of_path_label (s : ByteArray) : Option Bool :=
 (strings_SplitSeq s (⟨#[46]⟩ : ByteArray)).bind fun v1 =>
 bindS (S := (Unit)) (A := (Unit))
  (rangeS (S := (Unit)) (O := (Unit)) (fun Y st => Sh.strings_splitSeq_1 Y v1.1 v1.2.1 v1.2.2 st) (fun (x : ByteArray) (() : Unit) =>
   (path_label x).bind fun v2 =>
   cond ((!v2))
    (some (.inr ()))
    (some (.inl ())))
   ())
  (fun (() : Unit) =>
   some (true))
  (fun (() : Unit) =>
   some (false))

def path_Domain (s : ByteArray) : Option Bool :=
 bindS (S := Bool) (A := Bool)
  (cond ((decide ((s.size : Int) ≤ 255)))
   ((path_dotted_of_path_label s).bind fun v1 =>
   some (.inl v1))
   (some (.inl false)))
  (fun (s2 : Bool) =>
   some (s2)) some

set_option maxRecDepth 100000 in
def strconv_pow10 : List Int := (1 :: 10 :: 100 :: 1000 :: 10000 :: 100000 :: 1000000 :: 10000000 :: 100000000 :: 1000000000 :: 10000000000 :: 100000000000 :: 1000000000000 :: 10000000000000 :: 100000000000000 :: 1000000000000000 :: 10000000000000000 :: 100000000000000000 :: 1000000000000000000 :: 10000000000000000000 :: [])

def head_Stamp (helo : ByteArray) (site : ByteArray) (at_ : Int) : Option ((List Int) × Int) :=
 bindS (S := Bool) (A := ((List Int) × Int))
  ((path_Domain helo).bind fun v1 =>
  cond ((!v1))
   (some (.inl true))
   ((path_Domain site).bind fun v2 =>
   some (.inl (!v2))))
  (fun (s21 : Bool) =>
   cond (s21)
    (some (([], 5)))
    (bindS (S := Bool) (A := ((List Int) × Int))
     (cond ((decide (at_ < 0)))
      (some (.inl true))
      (some (.inl ((decide (1099511627776 < at_))))))
     (fun (s26 : Bool) =>
      cond (s26)
       (some (([], 1)))
       ((catO (⟨#[82, 101, 99, 101, 105, 118, 101, 100, 58, 32, 102, 114, 111, 109, 32]⟩ : ByteArray) helo).bind fun v13 =>
       (catO v13 (⟨#[32, 98, 121, 32]⟩ : ByteArray)).bind fun v14 =>
       (catO v14 site).bind fun v15 =>
       (catO v15 (⟨#[32, 119, 105, 116, 104, 32, 69, 83, 77, 84, 80, 59, 32]⟩ : ByteArray)).bind fun v16 =>
       (strconv_Itoa at_).bind fun v17 =>
       (catO v16 v17).bind fun v18 =>
       (catO v18 (⟨#[13, 10]⟩ : ByteArray)).bind fun v19 =>
       (some (sbytes v19)).bind fun v20 =>
       some ((v20, 0)))) some)) some

def head_Put (b : (List Int)) (helo : ByteArray) (site : ByteArray) (at_ : Int) : Option ((List Int) × Int) :=
 (dots_Check b).bind fun v1 =>
 cond ((v1 != 0))
  (some (([], v1)))
  ((head_Stamp helo site at_).bind fun v3 =>
  cond ((v3.2 != 0))
   (some (([], v3.2)))
   ((appO 1 v3.1 b).bind fun v5 =>
   some ((v5, 0))))

def dots_Lines (b : (List Int)) : Option (List (List Int)) :=
 (dots_lines b).bind fun v1 =>
 bindS (S := ((List (List Int)))) (A := (Unit))
  (rangeS (S := ((List (List Int)))) (O := (Unit)) (fun Y st => Sh.dots_lines_1 Y v1 st) (fun (x : (List Int)) (s7 : (List (List Int))) =>
   (appO 1 ([] : List Int) x).bind fun v2 =>
   (appO 24 s7 [v2]).bind fun v3 =>
   some (.inl v3))
   [])
  (fun (s7 : (List (List Int))) =>
   some (s7))
  (fun (() : Unit) =>
   none)

def internal_stringslite_Cut (s : ByteArray) (sep : ByteArray) : Option (ByteArray × ByteArray × Bool) :=
 (internal_stringslite_Index s sep).bind fun v1 =>
 cond ((decide (0 ≤ v1)))
  ((subO s 0 v1).bind fun v3 =>
  (some (IntKind.i64.wrap (v1 + (sep.size : Int)))).bind fun v4 =>
  (subO s v4 (s.size : Int)).bind fun v5 =>
  some ((v3, v5, true)))
  (some ((s, (⟨#[]⟩ : ByteArray), false)))

def strings_Cut (s : ByteArray) (sep : ByteArray) : Option (ByteArray × ByteArray × Bool) :=
 (internal_stringslite_Cut s sep).bind fun v1 =>
 some ((v1.1, v1.2.1, v1.2.2))

def head_first (s : ByteArray) : Option (ByteArray × ByteArray × Bool) :=
 (strings_Cut s (⟨#[58]⟩ : ByteArray)).bind fun v1 =>
 bindS (S := Bool) (A := (ByteArray × ByteArray × Bool))
  (cond ((!v1.2.2))
   (some (.inl true))
   (some (.inl ((v1.1.toList == (⟨#[]⟩ : ByteArray).toList)))))
  (fun (s2 : Bool) =>
   cond (s2)
    (some (((⟨#[]⟩ : ByteArray), (⟨#[]⟩ : ByteArray), false)))
    (bindS (S := (Unit)) (A := (ByteArray × ByteArray × Bool))
     (loopF (S := (Int)) (O := (Unit) ⊕ (ByteArray × ByteArray × Bool)) (fun (s23 : Int) =>
      cond ((decide (s23 < (v1.1.size : Int))))
       (bindS (S := Bool) (A := ((Int) ⊕ ((Unit) ⊕ (ByteArray × ByteArray × Bool))))
        ((chrO v1.1 s23).bind fun v8 =>
        cond ((decide (v8 < 33)))
         (some (.inl true))
         ((chrO v1.1 s23).bind fun v9 =>
         some (.inl ((decide (126 < v9))))))
        (fun (s37 : Bool) =>
         cond (s37)
          (some (.inr (.inr (((⟨#[]⟩ : ByteArray), (⟨#[]⟩ : ByteArray), false)))))
          ((some (IntKind.i64.wrap (s23 + 1))).bind fun v15 =>
          some (.inl v15))) some)
       (some (.inr (.inl ()))))
      BIG 0)
     (fun (() : Unit) =>
      some ((v1.1, v1.2.1, true))) some)) some

def internal_stringslite_HasPrefix (s : ByteArray) (prefix_ : ByteArray) : Option Bool :=
 bindS (S := Bool) (A := Bool)
  (cond ((decide ((prefix_.size : Int) ≤ (s.size : Int))))
   ((subO s 0 (prefix_.size : Int)).bind fun v1 =>
   some (.inl (v1.toList == prefix_.toList)))
   (some (.inl false)))
  (fun (s2 : Bool) =>
   some (s2)) some

def strings_HasPrefix (s : ByteArray) (prefix_ : ByteArray) : Option Bool :=
 (internal_stringslite_HasPrefix s prefix_).bind fun v1 =>
 some (v1)

def head_continues (s : ByteArray) : Option Bool :=
 bindS (S := Bool) (A := Bool)
  ((strings_HasPrefix s (⟨#[32]⟩ : ByteArray)).bind fun v1 =>
  cond (v1)
   (some (.inl true))
   ((strings_HasPrefix s (⟨#[9]⟩ : ByteArray)).bind fun v2 =>
   some (.inl v2)))
  (fun (s3 : Bool) =>
   some (s3)) some

def head_Scan (b : (List Int)) : Option ((List T_Field) × Int × Int) :=
 (dots_Check b).bind fun v1 =>
 cond ((v1 != 0))
  (some (([], 0, v1)))
  ((dots_Lines b).bind fun v3 =>
  bindS (S := ((List T_Field) × Int)) (A := ((List T_Field) × Int × Int))
   (loopF (S := ((List T_Field) × Int × Int)) (O := ((List T_Field) × Int) ⊕ ((List T_Field) × Int × Int)) (fun ((s106, s107, s108) : (List T_Field) × Int × Int) =>
    cond ((decide (s108 < (v3.length : Int))))
     ((ixO s108 v3.length).bind fun v5 =>
     (getO v3 v5).bind fun v6 =>
     (some (bstr v6)).bind fun v7 =>
     bindS (S := (List T_Field)) (A := (((List T_Field) × Int × Int) ⊕ (((List T_Field) × Int) ⊕ ((List T_Field) × Int × Int))))
      ((head_first v7).bind fun v8 =>
      bindS (S := (List T_Field)) (A := (((List T_Field)) ⊕ (((List T_Field) × Int × Int) ⊕ (((List T_Field) × Int) ⊕ ((List T_Field) × Int × Int)))))
       (bindS (S := Bool) (A := (((List T_Field)) ⊕ (((List T_Field)) ⊕ (((List T_Field) × Int × Int) ⊕ (((List T_Field) × Int) ⊕ ((List T_Field) × Int × Int))))))
        ((head_continues v7).bind fun v9 =>
        cond (v9)
         (some (.inl ((decide (0 < (s106.length : Int))))))
         (some (.inl false)))
        (fun (s192 : Bool) =>
         cond (s192)
          ((some (IntKind.i64.wrap ((s106.length : Int) - 1))).bind fun v15 =>
          (ixO v15 s106.length).bind fun v65 =>
          (getO s106 v65).bind fun v66 =>
          (catO v66.Body v7).bind fun v67 =>
          (ixO v15 s106.length).bind fun v68 =>
          (getO s106 v68).bind fun v69 =>
          (some (s106.set v68 (T_Field.mk v69.Name v67))).bind fun v70 =>
          some (.inl v70))
          (cond (v8.2.2)
           ((appO 32 s106 [(T_Field.mk v8.1 v8.2.1)]).bind fun v17 =>
           some (.inl v17))
           (cond ((v7.toList == (⟨#[]⟩ : ByteArray).toList))
            ((some (IntKind.i64.wrap (s107 + 2))).bind fun v19 =>
            some (.inr (.inr (.inr (.inr ((s106, v19, 0)))))))
            (some (.inr (.inr (.inr (.inr ((s106, s107, 0)))))))))) some)
       (fun (s188 : (List T_Field)) =>
        some (.inl s188)) some)
      (fun (s177 : (List T_Field)) =>
       (some (IntKind.i64.wrap ((v7.size : Int) + 2))).bind fun v53 =>
       (some (IntKind.i64.wrap (s107 + v53))).bind fun v54 =>
       (some (IntKind.i64.wrap (s108 + 1))).bind fun v55 =>
       some (.inl (s177, v54, v55))) some)
     (some (.inr (.inl (s106, s107)))))
    BIG ([], 0, 0))
   (fun ((s150, s151) : (List T_Field) × Int) =>
    some ((s150, s151, 0))) some)

def wherrykeep_Fields (a : (List T_Field)) (b : (List T_Field)) : Option Bool :=
 cond (((a.length : Int) != (b.length : Int)))
  (some (false))
  (bindS (S := (Unit)) (A := Bool)
   (loopF (S := (Int)) (O := (Unit) ⊕ Bool) (fun (s24 : Int) =>
    cond ((decide (s24 < (a.length : Int))))
     (bindS (S := Bool) (A := ((Int) ⊕ ((Unit) ⊕ Bool)))
      ((ixO s24 a.length).bind fun v3 =>
      (getO a v3).bind fun v4 =>
      (ixO s24 b.length).bind fun v5 =>
      (getO b v5).bind fun v6 =>
      cond ((!(v4.Name.toList == v6.Name.toList)))
       (some (.inl true))
       ((ixO s24 a.length).bind fun v7 =>
       (getO a v7).bind fun v8 =>
       (ixO s24 b.length).bind fun v9 =>
       (getO b v9).bind fun v10 =>
       some (.inl ((!(v8.Body.toList == v10.Body.toList))))))
      (fun (s38 : Bool) =>
       cond (s38)
        (some (.inr (.inr (false))))
        ((some (IntKind.i64.wrap (s24 + 1))).bind fun v16 =>
        some (.inl v16))) some)
     (some (.inr (.inl ()))))
    BIG 0)
   (fun (() : Unit) =>
    some (true)) some)

def wherrylaw15_wakes : Option Bool :=
 (head_Scan [65, 58, 32, 98, 13, 10, 13, 10, 99, 13, 10]).bind fun v1 =>
 (head_Stamp (⟨#[104]⟩ : ByteArray) (⟨#[115]⟩ : ByteArray) 7).bind fun v2 =>
 bindS (S := Bool) (A := Bool)
  (cond ((v1.2.2 == 0))
   (cond ((v2.2 == 0))
    (cond ((v1.2.1 == 8))
     ((wherrykeep_Fields v1.1 ([(T_Field.mk (⟨#[65]⟩ : ByteArray) (⟨#[32, 98]⟩ : ByteArray))])).bind fun v3 =>
     cond (v3)
      ((some (bstr v2.1)).bind fun v4 =>
      some (.inl ((v4.toList == (⟨#[82, 101, 99, 101, 105, 118, 101, 100, 58, 32, 102, 114, 111, 109, 32, 104, 32, 98, 121, 32, 115, 32, 119, 105, 116, 104, 32, 69, 83, 77, 84, 80, 59, 32, 55, 13, 10]⟩ : ByteArray).toList))))
      (some (.inl false)))
     (some (.inl false)))
    (some (.inl false)))
   (some (.inl false)))
  (fun (s5 : Bool) =>
   some (s5)) some

def path_Fold (s : ByteArray) : Option ByteArray :=
 (some (sbytes s)).bind fun v1 =>
 bindS (S := ((List Int))) (A := ByteArray)
  (loopF (S := ((List Int) × Int)) (O := ((List Int)) ⊕ ByteArray) (fun ((s40, s41) : (List Int) × Int) =>
   cond ((decide (s41 < (v1.length : Int))))
    (bindS (S := (List Int)) (A := (((List Int) × Int) ⊕ (((List Int)) ⊕ ByteArray)))
     ((ixO s41 s40.length).bind fun v3 =>
     (getO s40 v3).bind fun v4 =>
     bindS (S := Bool) (A := (((List Int)) ⊕ (((List Int) × Int) ⊕ (((List Int)) ⊕ ByteArray))))
      (cond ((decide (65 ≤ v4)))
       (some (.inl ((decide (v4 ≤ 90)))))
       (some (.inl false)))
      (fun (s74 : Bool) =>
       cond (s74)
        ((some (IntKind.u8.wrap (v4 + 32))).bind fun v10 =>
        (ixO s41 s40.length).bind fun v11 =>
        (some (s40.set v11 v10)).bind fun v12 =>
        some (.inl v12))
        (some (.inl s40))) some)
     (fun (s70 : (List Int)) =>
      (some (IntKind.i64.wrap (s41 + 1))).bind fun v22 =>
      some (.inl (s70, v22))) some)
    (some (.inr (.inl s40))))
   BIG (v1, 0))
  (fun (s57 : (List Int)) =>
   (some (bstr s57)).bind fun v79 =>
   some (v79)) some

def head_Hops (b : (List Int)) : Option (Int × Int) :=
 (head_Scan b).bind fun v1 =>
 cond ((v1.2.2 != 0))
  (some ((0, v1.2.2)))
  (bindS (S := (Int)) (A := (Int × Int))
   (loopF (S := (Int × Int)) (O := (Int) ⊕ (Int × Int)) (fun ((s24, s25) : Int × Int) =>
    cond ((decide (s25 < (v1.1.length : Int))))
     (bindS (S := Int) (A := ((Int × Int) ⊕ ((Int) ⊕ (Int × Int))))
      ((ixO s25 v1.1.length).bind fun v4 =>
      (getO v1.1 v4).bind fun v5 =>
      (path_Fold v5.Name).bind fun v6 =>
      cond ((v6.toList == (⟨#[114, 101, 99, 101, 105, 118, 101, 100]⟩ : ByteArray).toList))
       ((some (IntKind.i64.wrap (s24 + 1))).bind fun v8 =>
       some (.inl v8))
       (some (.inl s24)))
      (fun (s42 : Int) =>
       (some (IntKind.i64.wrap (s25 + 1))).bind fun v14 =>
       some (.inl (s42, v14))) some)
     (some (.inr (.inl s24))))
    BIG (0, 0))
   (fun (s33 : Int) =>
    some ((s33, 0))) some)

def wherrylaw15_HeadStamped (b : (List Int)) (helo : ByteArray) (site : ByteArray) (at_ : Int) : Option Bool :=
 bindS (S := Bool) (A := Bool)
  (cond ((decide (2000 < (b.length : Int))))
   (some (.inl true))
   ((some (IntKind.i64.wrap ((helo.size : Int) + (site.size : Int)))).bind fun v1 =>
   some (.inl ((decide (800 < v1))))))
  (fun (s2 : Bool) =>
   cond (s2)
    (some (true))
    ((head_Put b helo site at_).bind fun v7 =>
    cond ((v7.2 != 0))
     (bindS (S := Bool) (A := Bool)
      (cond (((v7.1.length : Int) == 0))
       ((wherrylaw15_wakes ).bind fun v9 =>
       some (.inl v9))
       (some (.inl false)))
      (fun (s10 : Bool) =>
       some (s10)) some)
     ((head_Scan b).bind fun v14 =>
     (head_Scan v7.1).bind fun v15 =>
     (head_Hops b).bind fun v16 =>
     (head_Hops v7.1).bind fun v17 =>
     bindS (S := Bool) (A := Bool)
      (cond ((v14.2.2 != 0))
       (some (.inl true))
       (cond ((v15.2.2 != 0))
        (some (.inl true))
        (cond ((v16.2 != 0))
         (some (.inl true))
         (cond ((v17.2 != 0))
          (some (.inl true))
          (cond (((v15.1.length : Int) == 0))
           (some (.inl true))
           ((ixO 0 v15.1.length).bind fun v18 =>
           (getO v15.1 v18).bind fun v19 =>
           some (.inl ((!(v19.Name.toList == (⟨#[82, 101, 99, 101, 105, 118, 101, 100]⟩ : ByteArray).toList))))))))))
      (fun (s20 : Bool) =>
       cond (s20)
        (some (false))
        (bindS (S := Bool) (A := Bool)
         (cond ((decide (0 < (b.length : Int))))
          ((ixO 0 b.length).bind fun v25 =>
          (getO b v25).bind fun v26 =>
          cond ((v26 == 32))
           (some (.inl true))
           ((ixO 0 b.length).bind fun v27 =>
           (getO b v27).bind fun v28 =>
           some (.inl (v28 == 9))))
          (some (.inl false)))
         (fun (s29 : Bool) =>
          cond (s29)
           ((wherrylaw15_wakes ).bind fun v34 =>
           some (v34))
           (bindS (S := Bool) (A := Bool)
            ((some (IntKind.i64.wrap (v16.1 + 1))).bind fun v35 =>
            cond ((v17.1 == v35))
             ((some (IntKind.i64.wrap (v15.2.1 - v14.2.1))).bind fun v36 =>
             (some (IntKind.i64.wrap ((v7.1.length : Int) - (b.length : Int)))).bind fun v37 =>
             cond ((v36 == v37))
              ((sliO v15.1 1 (v15.1.length : Int)).bind fun v38 =>
              (wherrykeep_Fields v38 v14.1).bind fun v39 =>
              cond (v39)
               ((wherrylaw15_wakes ).bind fun v40 =>
               some (.inl v40))
               (some (.inl false)))
              (some (.inl false)))
             (some (.inl false)))
            (fun (s41 : Bool) =>
             some (s41)) some)) some)) some))) some

def wherrylaw15_HeadHops (n : Int) (flips : (List Bool)) (at_ : Int) : Option Bool :=
 (some (IntKind.u64.wrap n)).bind fun v1 =>
 (remO v1 12).bind fun v2 =>
 (some (IntKind.i64.wrap v2)).bind fun v3 =>
 bindS (S := ((List Int))) (A := Bool)
  (loopF (S := ((List Int) × Int)) (O := ((List Int)) ⊕ Bool) (fun ((s41, s42) : (List Int) × Int) =>
   cond ((decide (s42 < v3)))
    (bindS (S := ByteArray) (A := (((List Int) × Int) ⊕ (((List Int)) ⊕ Bool)))
     (bindS (S := Bool) (A := (ByteArray ⊕ (((List Int) × Int) ⊕ (((List Int)) ⊕ Bool))))
      (cond ((decide (s42 < (flips.length : Int))))
       ((ixO s42 flips.length).bind fun v5 =>
       (getO flips v5).bind fun v6 =>
       some (.inl v6))
       (some (.inl false)))
      (fun (s75 : Bool) =>
       cond (s75)
        (some (.inl (⟨#[114, 69, 99, 69, 73, 86, 69, 68]⟩ : ByteArray)))
        (some (.inl (⟨#[82, 101, 99, 101, 105, 118, 101, 100]⟩ : ByteArray)))) some)
     (fun (s71 : ByteArray) =>
      (catO s71 (⟨#[58, 32, 120, 13, 10, 88, 58, 32, 121, 13, 10]⟩ : ByteArray)).bind fun v21 =>
      (appO 1 s41 (sbytes v21)).bind fun v22 =>
      (some (IntKind.i64.wrap (s42 + 1))).bind fun v23 =>
      some (.inl (v22, v23))) some)
    (some (.inr (.inl s41))))
   BIG ([], 0))
  (fun (s58 : (List Int)) =>
   (appO 1 s58 (sbytes (⟨#[13, 10, 82, 101, 99, 101, 105, 118, 101, 100, 58, 32, 122, 13, 10]⟩ : ByteArray))).bind fun v80 =>
   (head_Hops v80).bind fun v81 =>
   (head_Stamp (⟨#[97, 32, 98]⟩ : ByteArray) (⟨#[120]⟩ : ByteArray) 1).bind fun v82 =>
   (head_Stamp (⟨#[97]⟩ : ByteArray) (⟨#[120]⟩ : ByteArray) 1099511627777).bind fun v83 =>
   (head_Stamp (⟨#[97]⟩ : ByteArray) (⟨#[120]⟩ : ByteArray) 1099511627776).bind fun v84 =>
   (head_Stamp (⟨#[97]⟩ : ByteArray) (⟨#[120]⟩ : ByteArray) (-1)).bind fun v85 =>
   bindS (S := Bool) (A := Bool)
    (cond ((v81.2 == 0))
     (cond ((v81.1 == v3))
      (cond ((v82.2 == 5))
       (cond ((v83.2 == 1))
        (cond ((v84.2 == 0))
         (cond ((v85.2 == 1))
          ((some (bstr v84.1)).bind fun v86 =>
          cond ((v86.toList == (⟨#[82, 101, 99, 101, 105, 118, 101, 100, 58, 32, 102, 114, 111, 109, 32, 97, 32, 98, 121, 32, 120, 32, 119, 105, 116, 104, 32, 69, 83, 77, 84, 80, 59, 32, 49, 48, 57, 57, 53, 49, 49, 54, 50, 55, 55, 55, 54, 13, 10]⟩ : ByteArray).toList))
           ((wherrylaw15_wakes ).bind fun v87 =>
           some (.inl v87))
           (some (.inl false)))
          (some (.inl false)))
         (some (.inl false)))
        (some (.inl false)))
       (some (.inl false)))
      (some (.inl false)))
     (some (.inl false)))
    (fun (s88 : Bool) =>
     some (s88)) some) some

def wherrylaw15_plain (s : ByteArray) : Option Bool :=
 bindS (S := (Unit)) (A := Bool)
  (loopF (S := (Int)) (O := (Unit) ⊕ Bool) (fun (s17 : Int) =>
   cond ((decide (s17 < (s.size : Int))))
    (bindS (S := Bool) (A := ((Int) ⊕ ((Unit) ⊕ Bool)))
     ((chrO s s17).bind fun v2 =>
     cond ((v2 == 13))
      (some (.inl true))
      ((chrO s s17).bind fun v3 =>
      some (.inl (v3 == 10))))
     (fun (s31 : Bool) =>
      cond (s31)
       (some (.inr (.inr (false))))
       ((some (IntKind.i64.wrap (s17 + 1))).bind fun v9 =>
       some (.inl v9))) some)
    (some (.inr (.inl ()))))
   BIG 0)
  (fun (() : Unit) =>
   some (true)) some

def wherryref11_Body (b : (List Int)) : Option Bool :=
 bindS (S := (Unit)) (A := Bool)
  (loopF (S := (Int)) (O := (Unit) ⊕ Bool) (fun (s31 : Int) =>
   cond ((decide (s31 < (b.length : Int))))
    (bindS (S := Bool) (A := ((Int) ⊕ ((Unit) ⊕ Bool)))
     ((ixO s31 b.length).bind fun v2 =>
     (getO b v2).bind fun v3 =>
     cond ((v3 == 13))
      ((some (IntKind.i64.wrap (s31 + 1))).bind fun v4 =>
      cond ((decide ((b.length : Int) ≤ v4)))
       (some (.inl true))
       ((some (IntKind.i64.wrap (s31 + 1))).bind fun v5 =>
       (ixO v5 b.length).bind fun v6 =>
       (getO b v6).bind fun v7 =>
       cond ((v7 != 10))
        (some (.inl true))
        ((ixO s31 b.length).bind fun v8 =>
        (getO b v8).bind fun v9 =>
        cond ((v9 == 10))
         (cond ((s31 == 0))
          (some (.inl true))
          ((some (IntKind.i64.wrap (s31 - 1))).bind fun v10 =>
          (ixO v10 b.length).bind fun v11 =>
          (getO b v11).bind fun v12 =>
          some (.inl (v12 != 13))))
         (some (.inl false)))))
      ((ixO s31 b.length).bind fun v13 =>
      (getO b v13).bind fun v14 =>
      cond ((v14 == 10))
       (cond ((s31 == 0))
        (some (.inl true))
        ((some (IntKind.i64.wrap (s31 - 1))).bind fun v15 =>
        (ixO v15 b.length).bind fun v16 =>
        (getO b v16).bind fun v17 =>
        some (.inl (v17 != 13))))
       (some (.inl false))))
     (fun (s45 : Bool) =>
      cond (s45)
       (some (.inr (.inr (false))))
       ((some (IntKind.i64.wrap (s31 + 1))).bind fun v23 =>
       some (.inl v23))) some)
    (some (.inr (.inl ()))))
   BIG 0)
  (fun (() : Unit) =>
   bindS (S := Bool) (A := Bool)
    (cond (((b.length : Int) == 0))
     (some (.inl true))
     ((some (IntKind.i64.wrap ((b.length : Int) - 1))).bind fun v50 =>
     (ixO v50 b.length).bind fun v51 =>
     (getO b v51).bind fun v52 =>
     some (.inl (v52 == 10))))
    (fun (s53 : Bool) =>
     some (s53)) some) some

def wherrylaw15_name (s : ByteArray) : Option Bool :=
 bindS (S := (Unit)) (A := Bool)
  (loopF (S := (Int)) (O := (Unit) ⊕ Bool) (fun (s18 : Int) =>
   cond ((decide (s18 < (s.size : Int))))
    (bindS (S := Bool) (A := ((Int) ⊕ ((Unit) ⊕ Bool)))
     ((chrO s s18).bind fun v2 =>
     cond ((decide (v2 < 33)))
      (some (.inl true))
      ((chrO s s18).bind fun v3 =>
      cond ((decide (126 < v3)))
       (some (.inl true))
       ((chrO s s18).bind fun v4 =>
       some (.inl (v4 == 58)))))
     (fun (s32 : Bool) =>
      cond (s32)
       (some (.inr (.inr (false))))
       ((some (IntKind.i64.wrap (s18 + 1))).bind fun v10 =>
       some (.inl v10))) some)
    (some (.inr (.inl ()))))
   BIG 0)
  (fun (() : Unit) =>
   some ((decide (0 < (s.size : Int))))) some

def wherrylaw15_HeadFields (names : (List ByteArray)) (bodies : (List ByteArray)) (rest : (List Int)) : Option Bool :=
 (some (if (bodies.length : Int) < (names.length : Int) then (bodies.length : Int) else (names.length : Int))).bind fun v1 =>
 bindS (S := Bool) (A := Bool)
  (cond ((decide (20 < v1)))
   (some (.inl true))
   (cond ((decide (2000 < (rest.length : Int))))
    (some (.inl true))
    ((wherryref11_Body rest).bind fun v2 =>
    some (.inl (!v2)))))
  (fun (s3 : Bool) =>
   cond (s3)
    (some (true))
    (bindS (S := ((List Int) × (List T_Field))) (A := Bool)
     (loopF (S := ((List Int) × (List T_Field) × Int)) (O := ((List Int) × (List T_Field)) ⊕ Bool) (fun ((s67, s68, s69) : (List Int) × (List T_Field) × Int) =>
      cond ((decide (s69 < v1)))
       (bindS (S := (List Int) × (List T_Field)) (A := (((List Int) × (List T_Field) × Int) ⊕ (((List Int) × (List T_Field)) ⊕ Bool)))
        (bindS (S := Bool) (A := (((List Int) × (List T_Field)) ⊕ (((List Int) × (List T_Field) × Int) ⊕ (((List Int) × (List T_Field)) ⊕ Bool))))
         ((ixO s69 names.length).bind fun v9 =>
         (getO names v9).bind fun v10 =>
         cond ((decide (30 < (v10.size : Int))))
          (some (.inl true))
          ((ixO s69 bodies.length).bind fun v11 =>
          (getO bodies v11).bind fun v12 =>
          cond ((decide (60 < (v12.size : Int))))
           (some (.inl true))
           ((ixO s69 names.length).bind fun v13 =>
           (getO names v13).bind fun v14 =>
           (wherrylaw15_name v14).bind fun v15 =>
           cond ((!v15))
            (some (.inl true))
            ((ixO s69 bodies.length).bind fun v16 =>
            (getO bodies v16).bind fun v17 =>
            (wherrylaw15_plain v17).bind fun v18 =>
            some (.inl (!v18))))))
         (fun (s105 : Bool) =>
          cond (s105)
           (some (.inl (s67, s68)))
           ((ixO s69 names.length).bind fun v24 =>
           (getO names v24).bind fun v25 =>
           (ixO s69 bodies.length).bind fun v26 =>
           (getO bodies v26).bind fun v27 =>
           (appO 32 s68 [(T_Field.mk v25 v27)]).bind fun v28 =>
           (ixO s69 names.length).bind fun v29 =>
           (getO names v29).bind fun v30 =>
           (catO v30 (⟨#[58]⟩ : ByteArray)).bind fun v31 =>
           (ixO s69 bodies.length).bind fun v32 =>
           (getO bodies v32).bind fun v33 =>
           (catO v31 v33).bind fun v34 =>
           (catO v34 (⟨#[13, 10]⟩ : ByteArray)).bind fun v35 =>
           (appO 1 s67 (sbytes v35)).bind fun v36 =>
           some (.inl (v36, v28)))) some)
        (fun ((s100, s101) : (List Int) × (List T_Field)) =>
         (some (IntKind.i64.wrap (s69 + 1))).bind fun v47 =>
         some (.inl (s100, s101, v47))) some)
       (some (.inr (.inl (s67, s68)))))
      BIG ([], [], 0))
     (fun ((s86, s87) : (List Int) × (List T_Field)) =>
      (some (IntKind.i64.wrap ((s86.length : Int) + 2))).bind fun v110 =>
      (appO 1 s86 [13, 10]).bind fun v111 =>
      (appO 1 v111 rest).bind fun v112 =>
      (head_Scan v112).bind fun v113 =>
      bindS (S := Bool) (A := Bool)
       (cond ((v113.2.2 == 0))
        (cond ((v113.2.1 == v110))
         ((wherrykeep_Fields v113.1 s87).bind fun v114 =>
         cond (v114)
          ((wherrylaw15_wakes ).bind fun v115 =>
          some (.inl v115))
          (some (.inl false)))
         (some (.inl false)))
        (some (.inl false)))
       (fun (s116 : Bool) =>
        some (s116)) some) some)) some

def wherrykeep_Twin (l : (List Int)) : Option (List Int) :=
 (appO 1 ([] : List Int) l).bind fun v1 =>
 some (v1)

def wherrykeep_Bytes (a : (List Int)) (b : (List Int)) : Option Bool :=
 cond (((a.length : Int) != (b.length : Int)))
  (some (false))
  (bindS (S := (Unit)) (A := Bool)
   (loopF (S := (Int)) (O := (Unit) ⊕ Bool) (fun (s12 : Int) =>
    cond ((decide (s12 < (a.length : Int))))
     ((ixO s12 a.length).bind fun v3 =>
     (getO a v3).bind fun v4 =>
     (ixO s12 b.length).bind fun v5 =>
     (getO b v5).bind fun v6 =>
     cond ((v4 != v6))
      (some (.inr (.inr (false))))
      ((some (IntKind.i64.wrap (s12 + 1))).bind fun v8 =>
      some (.inl v8)))
     (some (.inr (.inl ()))))
    BIG 0)
   (fun (() : Unit) =>
    some (true)) some)

def wherrylaw15_HeadEnds (b : (List Int)) (more : (List Int)) : Option Bool :=
 bindS (S := Bool) (A := Bool)
  (cond ((decide (2000 < (b.length : Int))))
   (some (.inl true))
   (cond ((decide (2000 < (more.length : Int))))
    (some (.inl true))
    ((wherryref11_Body b).bind fun v1 =>
    cond ((!v1))
     (some (.inl true))
     ((wherryref11_Body more).bind fun v2 =>
     some (.inl (!v2))))))
  (fun (s3 : Bool) =>
   cond (s3)
    (some (true))
    ((head_Scan b).bind fun v8 =>
    bindS (S := Bool) (A := Bool)
     (cond ((v8.2.2 != 0))
      (some (.inl true))
      (cond ((decide (v8.2.1 < 0)))
       (some (.inl true))
       (some (.inl ((decide ((b.length : Int) < v8.2.1)))))))
     (fun (s9 : Bool) =>
      cond (s9)
       (some (false))
       ((sliO b 0 v8.2.1).bind fun v14 =>
       (wherrykeep_Twin v14).bind fun v15 =>
       (appO 1 v15 [13, 10]).bind fun v16 =>
       (appO 1 v16 more).bind fun v17 =>
       (head_Scan v17).bind fun v18 =>
       bindS (S := Bool) (A := Bool)
        (cond ((v18.2.2 != 0))
         (some (.inl true))
         (cond ((decide (2 ≤ v8.2.1)))
          ((some (IntKind.i64.wrap (v8.2.1 - 2))).bind fun v19 =>
          (sliO b v19 v8.2.1).bind fun v20 =>
          (wherrykeep_Bytes v20 [13, 10]).bind fun v21 =>
          cond (v21)
           (cond ((v8.2.1 == 2))
            (some (.inl true))
            ((some (IntKind.i64.wrap (v8.2.1 - 3))).bind fun v22 =>
            (ixO v22 b.length).bind fun v23 =>
            (getO b v23).bind fun v24 =>
            some (.inl (v24 == 10))))
           (some (.inl false)))
          (some (.inl false))))
        (fun (s25 : Bool) =>
         cond (s25)
          (bindS (S := Bool) (A := Bool)
           (cond ((v18.2.2 == 0))
            ((wherrykeep_Fields v8.1 v18.1).bind fun v30 =>
            cond (v30)
             ((wherrylaw15_wakes ).bind fun v31 =>
             some (.inl v31))
             (some (.inl false)))
            (some (.inl false)))
           (fun (s32 : Bool) =>
            some (s32)) some)
          (bindS (S := Bool) (A := Bool)
           ((some (IntKind.i64.wrap (v8.2.1 + 2))).bind fun v36 =>
           cond ((v18.2.1 == v36))
            ((wherrykeep_Fields v8.1 v18.1).bind fun v37 =>
            cond (v37)
             ((wherrylaw15_wakes ).bind fun v38 =>
             some (.inl v38))
             (some (.inl false)))
            (some (.inl false)))
           (fun (s39 : Bool) =>
            some (s39)) some)) some)) some)) some

def wherryref11_letter (c : Int) : Option Bool :=
 bindS (S := Bool) (A := Bool)
  (cond ((decide (97 ≤ c)))
   (cond ((decide (c ≤ 122)))
    (some (.inl true))
    (cond ((decide (65 ≤ c)))
     (some (.inl ((decide (c ≤ 90)))))
     (some (.inl false))))
   (cond ((decide (65 ≤ c)))
    (some (.inl ((decide (c ≤ 90)))))
    (some (.inl false))))
  (fun (s1 : Bool) =>
   some (s1)) some

def wherryref11_in (n : Int) (lo : Int) (hi : Int) : Option Bool :=
 bindS (S := Bool) (A := Bool)
  (cond ((decide (lo ≤ n)))
   (some (.inl ((decide (n ≤ hi)))))
   (some (.inl false)))
  (fun (s1 : Bool) =>
   some (s1)) some

def wherryref11_digit (c : Int) : Option Bool :=
 bindS (S := Bool) (A := Bool)
  (cond ((decide (48 ≤ c)))
   (some (.inl ((decide (c ≤ 57)))))
   (some (.inl false)))
  (fun (s1 : Bool) =>
   some (s1)) some

def wherryref11_Domain (s : ByteArray) : Option Bool :=
 (wherryref11_in (s.size : Int) 1 255).bind fun v1 =>
 cond ((!v1))
  (some (false))
  (bindS (S := (Unit)) (A := Bool)
   (loopF (S := (Int × Int)) (O := (Unit) ⊕ Bool) (fun ((s88, s89) : Int × Int) =>
    cond ((decide (s89 ≤ (s.size : Int))))
     (bindS (S := Int) (A := ((Int × Int) ⊕ ((Unit) ⊕ Bool)))
      (bindS (S := Bool) (A := (Int ⊕ ((Int × Int) ⊕ ((Unit) ⊕ Bool))))
       (cond ((decide (s89 < (s.size : Int))))
        ((chrO s s89).bind fun v4 =>
        some (.inl (v4 != 46)))
        (some (.inl false)))
       (fun (s151 : Bool) =>
        cond (s151)
         (bindS (S := Bool) (A := (Int ⊕ ((Int × Int) ⊕ ((Unit) ⊕ Bool))))
          ((chrO s s89).bind fun v10 =>
          (wherryref11_letter v10).bind fun v11 =>
          cond ((!v11))
           ((chrO s s89).bind fun v12 =>
           (wherryref11_digit v12).bind fun v13 =>
           cond ((!v13))
            ((chrO s s89).bind fun v14 =>
            some (.inl (v14 != 45)))
            (some (.inl false)))
           (some (.inl false)))
          (fun (s156 : Bool) =>
           cond (s156)
            (some (.inr (.inr (.inr (false)))))
            (some (.inl s88))) some)
         (bindS (S := Bool) (A := (Int ⊕ ((Int × Int) ⊕ ((Unit) ⊕ Bool))))
          ((some (IntKind.i64.wrap (s89 - s88))).bind fun v20 =>
          (wherryref11_in v20 1 63).bind fun v21 =>
          cond ((!v21))
           (some (.inl true))
           ((chrO s s88).bind fun v22 =>
           cond ((v22 == 45))
            (some (.inl true))
            ((some (IntKind.i64.wrap (s89 - 1))).bind fun v23 =>
            (chrO s v23).bind fun v24 =>
            some (.inl (v24 == 45)))))
          (fun (s161 : Bool) =>
           cond (s161)
            (some (.inr (.inr (.inr (false)))))
            ((some (IntKind.i64.wrap (s89 + 1))).bind fun v30 =>
            some (.inl v30))) some)) some)
      (fun (s147 : Int) =>
       (some (IntKind.i64.wrap (s89 + 1))).bind fun v50 =>
       some (.inl (s147, v50))) some)
     (some (.inr (.inl ()))))
    BIG (0, 0))
   (fun (() : Unit) =>
    some (true)) some)

def wherryref11_Fold (s : ByteArray) : Option ByteArray :=
 bindS (S := ((List Int))) (A := ByteArray)
  (loopF (S := ((List Int) × Int)) (O := ((List Int)) ⊕ ByteArray) (fun ((s37, s38) : (List Int) × Int) =>
   cond ((decide (s38 < (s.size : Int))))
    ((chrO s s38).bind fun v2 =>
    bindS (S := Int) (A := (((List Int) × Int) ⊕ (((List Int)) ⊕ ByteArray)))
     (bindS (S := Bool) (A := (Int ⊕ (((List Int) × Int) ⊕ (((List Int)) ⊕ ByteArray))))
      (cond ((decide (65 ≤ v2)))
       (some (.inl ((decide (v2 ≤ 90)))))
       (some (.inl false)))
      (fun (s71 : Bool) =>
       cond (s71)
        ((some (IntKind.u8.wrap (v2 + 32))).bind fun v8 =>
        some (.inl v8))
        (some (.inl v2))) some)
     (fun (s67 : Int) =>
      (appO 1 s37 [s67]).bind fun v18 =>
      (some (IntKind.i64.wrap (s38 + 1))).bind fun v19 =>
      some (.inl (v18, v19))) some)
    (some (.inr (.inl s37))))
   BIG ([], 0))
  (fun (s54 : (List Int)) =>
   (some (bstr s54)).bind fun v76 =>
   some (v76)) some

def wherryref11_Digits (n : Int) : Option ByteArray :=
 bindS (S := (Int × ByteArray)) (A := ByteArray)
  (loopF (S := (Int × ByteArray)) (O := (Int × ByteArray) ⊕ ByteArray) (fun ((s11, s12) : Int × ByteArray) =>
   cond ((decide (9 < s11)))
    ((remO s11 10).bind fun v2 =>
    (remO s11 10).bind fun v3 =>
    (some (IntKind.i64.wrap (v3 + 1))).bind fun v4 =>
    (subO (⟨#[48, 49, 50, 51, 52, 53, 54, 55, 56, 57]⟩ : ByteArray) v2 v4).bind fun v5 =>
    (catO v5 s12).bind fun v6 =>
    (quoO .i64 s11 10).bind fun v7 =>
    some (.inl (v7, v6)))
    (some (.inr (.inl (s11, s12)))))
   BIG ((n, (⟨#[]⟩ : ByteArray))))
  (fun ((s14, s15) : Int × ByteArray) =>
   (some (IntKind.i64.wrap (s14 + 1))).bind fun v23 =>
   (subO (⟨#[48, 49, 50, 51, 52, 53, 54, 55, 56, 57]⟩ : ByteArray) s14 v23).bind fun v24 =>
   (catO v24 s15).bind fun v25 =>
   some (v25)) some

end Go.Abs.Sh
