/-
 The program told in Lean: plain functions; none where Go would panic or a slice outgrow its room.
-/
import Derived.Test.YtccfiglffammoaaDoorAN
set_option linter.unusedVariables false
namespace Go.Abs.Sh

structure T_Path where
 Null : Bool
 Local : ByteArray
 Domain : ByteArray
 deriving DecidableEq, Inhabited
def T_Path.enc (x : T_Path) : List Value := [.bool x.Null, .string x.Local, .string x.Domain]
theorem T_Path.len (x : T_Path) : (T_Path.enc x).length = 3 := rfl
def T_Path.wf (x : T_Path) : Prop := True ∧ wfS x.Local ∧ wfS x.Domain
def T_Path.wz (x : T_Path) : Prop := True ∧ wzS x.Local ∧ wzS x.Domain

def Row_int_u8.ienc (x : List Int) : List IC := [.row 1 (List.map IC.v (List.map (Value.int .u8) x))]
theorem Row_int_u8.ilen (x : List Int) : (Row_int_u8.ienc x).length = 1 := rfl

structure T_Field where
 Name : ByteArray
 Body : ByteArray
 deriving DecidableEq, Inhabited
def T_Field.enc (x : T_Field) : List Value := [.string x.Name, .string x.Body]
theorem T_Field.len (x : T_Field) : (T_Field.enc x).length = 2 := rfl
def T_Field.wf (x : T_Field) : Prop := wfS x.Name ∧ wfS x.Body
def T_Field.wz (x : T_Field) : Prop := wzS x.Name ∧ wzS x.Body

def strings_splitSeq (s : ByteArray) (sep : ByteArray) (sepSave : Int) : Option (ByteArray × ByteArray × Int) :=
 some ((sep, s, sepSave))

def strings_SplitSeq (s : ByteArray) (sep : ByteArray) : Option (ByteArray × ByteArray × Int) :=
 (strings_splitSeq s sep 0).bind fun v1 =>
 some ((v1.1, v1.2.1, v1.2.2))

set_option maxRecDepth 100000 in
def utf8_first : List Int := (240 :: 240 :: 240 :: 240 :: 240 :: 240 :: 240 :: 240 :: 240 :: 240 :: 240 :: 240 :: 240 :: 240 :: 240 :: 240 :: 240 :: 240 :: 240 :: 240 :: 240 :: 240 :: 240 :: 240 :: 240 :: 240 :: 240 :: 240 :: 240 :: 240 :: 240 :: 240 :: 240 :: 240 :: 240 :: 240 :: 240 :: 240 :: 240 :: 240 :: 240 :: 240 :: 240 :: 240 :: 240 :: 240 :: 240 :: 240 :: 240 :: 240 :: 240 :: 240 :: 240 :: 240 :: 240 :: 240 :: 240 :: 240 :: 240 :: 240 :: 240 :: 240 :: 240 :: 240 :: 240 :: 240 :: 240 :: 240 :: 240 :: 240 :: 240 :: 240 :: 240 :: 240 :: 240 :: 240 :: 240 :: 240 :: 240 :: 240 :: 240 :: 240 :: 240 :: 240 :: 240 :: 240 :: 240 :: 240 :: 240 :: 240 :: 240 :: 240 :: 240 :: 240 :: 240 :: 240 :: 240 :: 240 :: 240 :: 240 :: 240 :: 240 :: 240 :: 240 :: 240 :: 240 :: 240 :: 240 :: 240 :: 240 :: 240 :: 240 :: 240 :: 240 :: 240 :: 240 :: 240 :: 240 :: 240 :: 240 :: 240 :: 240 :: 240 :: 240 :: 240 :: 240 :: 240 :: 240 :: 241 :: 241 :: 241 :: 241 :: 241 :: 241 :: 241 :: 241 :: 241 :: 241 :: 241 :: 241 :: 241 :: 241 :: 241 :: 241 :: 241 :: 241 :: 241 :: 241 :: 241 :: 241 :: 241 :: 241 :: 241 :: 241 :: 241 :: 241 :: 241 :: 241 :: 241 :: 241 :: 241 :: 241 :: 241 :: 241 :: 241 :: 241 :: 241 :: 241 :: 241 :: 241 :: 241 :: 241 :: 241 :: 241 :: 241 :: 241 :: 241 :: 241 :: 241 :: 241 :: 241 :: 241 :: 241 :: 241 :: 241 :: 241 :: 241 :: 241 :: 241 :: 241 :: 241 :: 241 :: 241 :: 241 :: 2 :: 2 :: 2 :: 2 :: 2 :: 2 :: 2 :: 2 :: 2 :: 2 :: 2 :: 2 :: 2 :: 2 :: 2 :: 2 :: 2 :: 2 :: 2 :: 2 :: 2 :: 2 :: 2 :: 2 :: 2 :: 2 :: 2 :: 2 :: 2 :: 2 :: 19 :: 3 :: 3 :: 3 :: 3 :: 3 :: 3 :: 3 :: 3 :: 3 :: 3 :: 3 :: 3 :: 35 :: 3 :: 3 :: 52 :: 4 :: 4 :: 4 :: 68 :: 241 :: 241 :: 241 :: 241 :: 241 :: 241 :: 241 :: 241 :: 241 :: 241 :: 241 :: [])

set_option maxRecDepth 100000 in
def utf8_accept : List Int := (128 :: 191 :: 160 :: 191 :: 128 :: 159 :: 144 :: 191 :: 128 :: 143 :: 0 :: 0 :: 0 :: 0 :: 0 :: 0 :: 0 :: 0 :: 0 :: 0 :: 0 :: 0 :: 0 :: 0 :: 0 :: 0 :: 0 :: 0 :: 0 :: 0 :: 0 :: 0 :: [])

def unicode_utf8_decodeRuneInStringSlow (s : ByteArray) : Option (Int × Int) :=
 cond ((decide ((s.size : Int) < 1)))
  (some ((65533, 0)))
  ((chrO s 0).bind fun v2 =>
  (ixO v2 256).bind fun v3 =>
  (getO utf8_first (0 + v3 * 1)).bind fun v4 =>
  cond ((decide (240 ≤ v4)))
   ((some (IntKind.i32.wrap v4)).bind fun v6 =>
   (shlO .i32 v6 31).bind fun v7 =>
   (shrO .i32 v7 31).bind fun v8 =>
   (chrO s 0).bind fun v9 =>
   (some (IntKind.i32.wrap v9)).bind fun v10 =>
   (some (bits .andNot .i32 v10 v8)).bind fun v11 =>
   (some (bits .and .i32 65533 v8)).bind fun v12 =>
   (some (bits .or .i32 v11 v12)).bind fun v13 =>
   some ((v13, 1)))
   (none))

def unicode_utf8_DecodeRuneInString (s : ByteArray) : Option (Int × Int) :=
 bindS (S := Bool) (A := (Int × Int))
  (cond ((!(s.toList == (⟨#[]⟩ : ByteArray).toList)))
   ((chrO s 0).bind fun v1 =>
   some (.inl ((decide (v1 < 128)))))
   (some (.inl false)))
  (fun (s2 : Bool) =>
   cond (s2)
    ((chrO s 0).bind fun v7 =>
    (some (IntKind.i32.wrap v7)).bind fun v8 =>
    some ((v8, 1)))
    ((unicode_utf8_decodeRuneInStringSlow s).bind fun v9 =>
    some ((v9.1, v9.2)))) some

def strings_splitSeq_1 {S : Type} (Y : ByteArray → S → Option (S × Bool)) (c0 : ByteArray) (c1 : ByteArray) (c2 : Int) (st : S) : Option S :=
 cond (((c0.size : Int) == 0))
  (bindS (S := (S)) (A := S)
   (loopF (S := (ByteArray × S)) (O := (S) ⊕ S) (fun ((s12, s13) : ByteArray × S) =>
    cond ((decide (0 < (s12.size : Int))))
     ((unicode_utf8_DecodeRuneInString s12).bind fun v3 =>
     (subO s12 0 v3.2).bind fun v4 =>
     (Y v4 s13).bind fun v5 =>
     cond ((!v5.2))
      (some (.inr (.inr (v5.1))))
      ((subO s12 v3.2 (s12.size : Int)).bind fun v7 =>
      some (.inl (v7, v5.1))))
     (some (.inr (.inl s13))))
    BIG (c1, st))
   (fun (s16 : S) =>
    some (s16)) some)
  (bindS (S := (ByteArray × S)) (A := S)
   (loopF (S := (ByteArray × S)) (O := (ByteArray × S) ⊕ S) (fun ((s37, s38) : ByteArray × S) =>
    (strings_Index s37 c0).bind fun v25 =>
    cond ((decide (v25 < 0)))
     (some (.inr (.inl (s37, s38))))
     ((some (IntKind.i64.wrap (v25 + c2))).bind fun v27 =>
     (subO s37 0 v27).bind fun v28 =>
     (Y v28 s38).bind fun v29 =>
     cond ((!v29.2))
      (some (.inr (.inr (v29.1))))
      ((some (IntKind.i64.wrap (v25 + (c0.size : Int)))).bind fun v31 =>
      (subO s37 v31 (s37.size : Int)).bind fun v32 =>
      some (.inl (v32, v29.1)))))
    BIG (c1, st))
   (fun ((s41, s42) : ByteArray × S) =>
    (Y s41 s42).bind fun v51 =>
    some (v51.1)) some)

def path_alphanumeric (c : Int) : Option Bool :=
 bindS (S := Bool) (A := Bool)
  (cond ((decide (48 ≤ c)))
   (cond ((decide (c ≤ 57)))
    (some (.inl true))
    (cond ((decide (65 ≤ c)))
     (cond ((decide (c ≤ 90)))
      (some (.inl true))
      (cond ((decide (97 ≤ c)))
       (some (.inl ((decide (c ≤ 122)))))
       (some (.inl false))))
     (cond ((decide (97 ≤ c)))
      (some (.inl ((decide (c ≤ 122)))))
      (some (.inl false)))))
   (cond ((decide (65 ≤ c)))
    (cond ((decide (c ≤ 90)))
     (some (.inl true))
     (cond ((decide (97 ≤ c)))
      (some (.inl ((decide (c ≤ 122)))))
      (some (.inl false))))
    (cond ((decide (97 ≤ c)))
     (some (.inl ((decide (c ≤ 122)))))
     (some (.inl false)))))
  (fun (s1 : Bool) =>
   some (s1)) some

def path_atom_1 (c : Int) : Option Bool :=
 bindS (S := Bool) (A := Bool)
  ((path_alphanumeric c).bind fun v1 =>
  cond (v1)
   (some (.inl true))
   ((strings_IndexByte (⟨#[33, 35, 36, 37, 38, 39, 42, 43, 45, 47, 61, 63, 94, 95, 96, 123, 124, 125, 126]⟩ : ByteArray) c).bind fun v2 =>
   some (.inl ((decide (0 ≤ v2))))))
  (fun (s3 : Bool) =>
   some (s3)) some

def path_all_of_path_atom_1 (s : ByteArray) : Option Bool :=
 bindS (S := (Unit)) (A := Bool)
  (loopF (S := (Int)) (O := (Unit) ⊕ Bool) (fun (s9 : Int) =>
   cond ((decide (s9 < (s.size : Int))))
    ((chrO s s9).bind fun v2 =>
    (path_atom_1 v2).bind fun v3 =>
    cond ((!v3))
     (some (.inr (.inr (false))))
     ((some (IntKind.i64.wrap (s9 + 1))).bind fun v5 =>
     some (.inl v5)))
    (some (.inr (.inl ()))))
   BIG 0)
  (fun (() : Unit) =>
   some (true)) some

def path_atom (s : ByteArray) : Option Bool :=
 bindS (S := Bool) (A := Bool)
  (cond ((!(s.toList == (⟨#[]⟩ : ByteArray).toList)))
   ((path_all_of_path_atom_1 s).bind fun v1 =>
   some (.inl v1))
   (some (.inl false)))
  (fun (s2 : Bool) =>
   some (s2)) some

def path_dotted_of_path_atom (s : ByteArray) : Option Bool :=
 (strings_SplitSeq s (⟨#[46]⟩ : ByteArray)).bind fun v1 =>
 bindS (S := (Unit)) (A := (Unit))
  (rangeS (S := (Unit)) (O := (Unit)) (fun Y st => Sh.strings_splitSeq_1 Y v1.1 v1.2.1 v1.2.2 st) (fun (x : ByteArray) (() : Unit) =>
   (path_atom x).bind fun v2 =>
   cond ((!v2))
    (some (.inr ()))
    (some (.inl ())))
   ())
  (fun (() : Unit) =>
   some (true))
  (fun (() : Unit) =>
   some (false))

def path_local (s : ByteArray) : Option Bool :=
 bindS (S := Bool) (A := Bool)
  (cond ((decide ((s.size : Int) ≤ 64)))
   ((path_dotted_of_path_atom s).bind fun v1 =>
   some (.inl v1))
   (some (.inl false)))
  (fun (s2 : Bool) =>
   some (s2)) some

def path_label_1 (c : Int) : Option Bool :=
 bindS (S := Bool) (A := Bool)
  ((path_alphanumeric c).bind fun v1 =>
  cond (v1)
   (some (.inl true))
   (some (.inl (c == 45))))
  (fun (s2 : Bool) =>
   some (s2)) some

def path_all_of_path_label_1 (s : ByteArray) : Option Bool :=
 bindS (S := (Unit)) (A := Bool)
  (loopF (S := (Int)) (O := (Unit) ⊕ Bool) (fun (s9 : Int) =>
   cond ((decide (s9 < (s.size : Int))))
    ((chrO s s9).bind fun v2 =>
    (path_label_1 v2).bind fun v3 =>
    cond ((!v3))
     (some (.inr (.inr (false))))
     ((some (IntKind.i64.wrap (s9 + 1))).bind fun v5 =>
     some (.inl v5)))
    (some (.inr (.inl ()))))
   BIG 0)
  (fun (() : Unit) =>
   some (true)) some

def path_label (s : ByteArray) : Option Bool :=
 bindS (S := Bool) (A := Bool)
  (cond ((!(s.toList == (⟨#[]⟩ : ByteArray).toList)))
   (cond ((decide ((s.size : Int) ≤ 63)))
    ((chrO s 0).bind fun v1 =>
    cond ((v1 != 45))
     ((some (IntKind.i64.wrap ((s.size : Int) - 1))).bind fun v2 =>
     (chrO s v2).bind fun v3 =>
     cond ((v3 != 45))
      ((path_all_of_path_label_1 s).bind fun v4 =>
      some (.inl v4))
      (some (.inl false)))
     (some (.inl false)))
    (some (.inl false)))
   (some (.inl false)))
  (fun (s5 : Bool) =>
   some (s5)) some

def path_dotted_of_path_label (s : ByteArray) : Option Bool :=
 (strings_SplitSeq s (⟨#[46]⟩ : ByteArray)).bind fun v1 =>
 bindS (S := (Unit)) (A := (Unit))
  (rangeS (S := (Unit)) (O := (Unit)) (fun Y st => Sh.strings_splitSeq_1 Y v1.1 v1.2.1 v1.2.2 st) (fun (x : ByteArray) (() : Unit) =>
   (path_label x).bind fun v2 =>
   cond ((!v2))
    (some (.inr ()))
    (some (.inl ())))
   ())
  (fun (() : Unit) =>
   some (true))
  (fun (() : Unit) =>
   some (false))

def path_Domain (s : ByteArray) : Option Bool :=
 bindS (S := Bool) (A := Bool)
  (cond ((decide ((s.size : Int) ≤ 255)))
   ((path_dotted_of_path_label s).bind fun v1 =>
   some (.inl v1))
   (some (.inl false)))
  (fun (s2 : Bool) =>
   some (s2)) some

def path_Check (p : T_Path) : Option Int :=
 bindS (S := Bool) (A := Int)
  (cond ((!p.Null))
   ((path_local p.Local).bind fun v1 =>
   cond (v1)
    ((path_Domain p.Domain).bind fun v2 =>
    some (.inl v2))
    (some (.inl false)))
   (some (.inl false)))
  (fun (s3 : Bool) =>
   bindS (S := Bool) (A := Int)
    (cond ((!(((p.Null == true) && ((p.Local.toList == (⟨#[]⟩ : ByteArray).toList) && ((p.Domain.toList == (⟨#[]⟩ : ByteArray).toList) && true))))))
     (some (.inl (!s3)))
     (some (.inl false)))
    (fun (s7 : Bool) =>
     cond (s7)
      (some (5))
      (some (0))) some) some

def path_Text (p : T_Path) : Option (ByteArray × Int) :=
 (path_Check p).bind fun v1 =>
 cond ((v1 != 0))
  (some (((⟨#[]⟩ : ByteArray), v1)))
  (cond (p.Null)
   (some (((⟨#[60, 62]⟩ : ByteArray), 0)))
   ((catO (⟨#[60]⟩ : ByteArray) p.Local).bind fun v4 =>
   (catO v4 (⟨#[64]⟩ : ByteArray)).bind fun v5 =>
   (catO v5 p.Domain).bind fun v6 =>
   (catO v6 (⟨#[62]⟩ : ByteArray)).bind fun v7 =>
   some ((v7, 0))))

def report_text (p : T_Path) : Option (ByteArray × Bool) :=
 (path_Text p).bind fun v1 =>
 bindS (S := Bool) (A := (ByteArray × Bool))
  (cond ((v1.2 == 0))
   (some (.inl (!p.Null)))
   (some (.inl false)))
  (fun (s2 : Bool) =>
   some ((v1.1, s2))) some

def report_Build (site : ByteArray) (sender : T_Path) (rcpt : T_Path) : Option ((List Int) × Int) :=
 (report_text sender).bind fun v1 =>
 (report_text rcpt).bind fun v2 =>
 bindS (S := Bool) (A := ((List Int) × Int))
  ((path_Domain site).bind fun v3 =>
  cond ((!v3))
   (some (.inl true))
   (cond ((!v1.2))
    (some (.inl true))
    (some (.inl (!v2.2)))))
  (fun (s19 : Bool) =>
   cond (s19)
    (some (([], 5)))
    ((catO (⟨#[70, 114, 111, 109, 58, 32, 60, 112, 111, 115, 116, 109, 97, 115, 116, 101, 114, 64]⟩ : ByteArray) site).bind fun v9 =>
    (catO v9 (⟨#[62]⟩ : ByteArray)).bind fun v10 =>
    (catO (⟨#[84, 111, 58, 32]⟩ : ByteArray) v1.1).bind fun v11 =>
    (catO (⟨#[78, 111, 32, 119, 97, 121, 32, 119, 97, 115, 32, 102, 111, 117, 110, 100, 32, 116, 111, 32]⟩ : ByteArray) v2.1).bind fun v12 =>
    (catO v12 (⟨#[46]⟩ : ByteArray)).bind fun v13 =>
    (catO (⟨#[82, 101, 112, 111, 114, 116, 105, 110, 103, 45, 77, 84, 65, 58, 32, 100, 110, 115, 59, 32]⟩ : ByteArray) site).bind fun v14 =>
    (catO (⟨#[70, 105, 110, 97, 108, 45, 82, 101, 99, 105, 112, 105, 101, 110, 116, 58, 32, 114, 102, 99, 56, 50, 50, 59, 32]⟩ : ByteArray) v2.1).bind fun v15 =>
    (strings_Join ([v10, v11, (⟨#[83, 117, 98, 106, 101, 99, 116, 58, 32, 85, 110, 100, 101, 108, 105, 118, 101, 114, 101, 100, 32, 109, 97, 105, 108]⟩ : ByteArray), (⟨#[67, 111, 110, 116, 101, 110, 116, 45, 84, 121, 112, 101, 58, 32, 109, 117, 108, 116, 105, 112, 97, 114, 116, 47, 114, 101, 112, 111, 114, 116, 59, 32, 114, 101, 112, 111, 114, 116, 45, 116, 121, 112, 101, 61, 100, 101, 108, 105, 118, 101, 114, 121, 45, 115, 116, 97, 116, 117, 115, 59, 32, 98, 111, 117, 110, 100, 97, 114, 121, 61, 119]⟩ : ByteArray), (⟨#[]⟩ : ByteArray), (⟨#[45, 45, 119]⟩ : ByteArray), (⟨#[67, 111, 110, 116, 101, 110, 116, 45, 84, 121, 112, 101, 58, 32, 116, 101, 120, 116, 47, 112, 108, 97, 105, 110]⟩ : ByteArray), (⟨#[]⟩ : ByteArray), v13, (⟨#[45, 45, 119]⟩ : ByteArray), (⟨#[67, 111, 110, 116, 101, 110, 116, 45, 84, 121, 112, 101, 58, 32, 109, 101, 115, 115, 97, 103, 101, 47, 100, 101, 108, 105, 118, 101, 114, 121, 45, 115, 116, 97, 116, 117, 115]⟩ : ByteArray), (⟨#[]⟩ : ByteArray), v14, (⟨#[]⟩ : ByteArray), v15, (⟨#[65, 99, 116, 105, 111, 110, 58, 32, 102, 97, 105, 108, 101, 100]⟩ : ByteArray), (⟨#[83, 116, 97, 116, 117, 115, 58, 32, 52, 46, 52, 46, 55]⟩ : ByteArray), (⟨#[45, 45, 119, 45, 45]⟩ : ByteArray)]) (⟨#[13, 10]⟩ : ByteArray)).bind fun v16 =>
    (catO v16 (⟨#[13, 10]⟩ : ByteArray)).bind fun v17 =>
    (some (sbytes v17)).bind fun v18 =>
    some ((v18, 0)))) some

def dots_lines (b : (List Int)) : Option (List Int) :=
 some (b)

def bytes_Cut_sh (s : (List Int)) (sep : (List Int)) : Option ((List Int) × (List Int) × Bool) :=
 (bytes_Index s sep).bind fun v1 =>
 cond ((decide (0 ≤ v1)))
  ((sliO s 0 v1).bind fun v3 =>
  (some (IntKind.i64.wrap (v1 + (sep.length : Int)))).bind fun v4 =>
  (sliO s v4 (s.length : Int)).bind fun v5 =>
  some ((v3, v5, true)))
  (some ((s, [], false)))

def dots_lines_1 {S : Type} (Y : (List Int) → S → Option (S × Bool)) (c0 : (List Int)) (st : S) : Option S :=
 bindS (S := (Unit)) (A := S)
  (loopF (S := ((List Int) × S)) (O := (Unit) ⊕ S) (fun ((s17, s18) : (List Int) × S) =>
   (bytes_Cut_sh s17 [13, 10]).bind fun v1 =>
   bindS (S := S × Bool) (A := (((List Int) × S) ⊕ ((Unit) ⊕ S)))
    (cond ((!v1.2.2))
     (some (.inl (s18, true)))
     ((Y v1.1 s18).bind fun v2 =>
     some (.inl ((v2.1, (!v2.2))))))
    (fun ((s31, s32) : S × Bool) =>
     cond (s32)
      (some (.inr (.inr (s31))))
      (some (.inl (v1.2.1, s31)))) some)
   BIG (c0, st))
  (fun (() : Unit) =>
   none) some

def dots_Lines (b : (List Int)) : Option (List (List Int)) :=
 (dots_lines b).bind fun v1 =>
 bindS (S := ((List (List Int)))) (A := (Unit))
  (rangeS (S := ((List (List Int)))) (O := (Unit)) (fun Y st => Sh.dots_lines_1 Y v1 st) (fun (x : (List Int)) (s7 : (List (List Int))) =>
   (appO 1 ([] : List Int) x).bind fun v2 =>
   (appO 24 s7 [v2]).bind fun v3 =>
   some (.inl v3))
   [])
  (fun (s7 : (List (List Int))) =>
   some (s7))
  (fun (() : Unit) =>
   none)

def internal_stringslite_HasPrefix (s : ByteArray) (prefix_ : ByteArray) : Option Bool :=
 bindS (S := Bool) (A := Bool)
  (cond ((decide ((prefix_.size : Int) ≤ (s.size : Int))))
   ((subO s 0 (prefix_.size : Int)).bind fun v1 =>
   some (.inl (v1.toList == prefix_.toList)))
   (some (.inl false)))
  (fun (s2 : Bool) =>
   some (s2)) some

def internal_stringslite_TrimPrefix (s : ByteArray) (prefix_ : ByteArray) : Option ByteArray :=
 (internal_stringslite_HasPrefix s prefix_).bind fun v1 =>
 cond (v1)
  ((subO s (prefix_.size : Int) (s.size : Int)).bind fun v3 =>
  some (v3))
  (some (s))

def strings_TrimPrefix (s : ByteArray) (prefix_ : ByteArray) : Option ByteArray :=
 (internal_stringslite_TrimPrefix s prefix_).bind fun v1 =>
 some (v1)

def internal_stringslite_CutPrefix (s : ByteArray) (prefix_ : ByteArray) : Option (ByteArray × Bool) :=
 (internal_stringslite_HasPrefix s prefix_).bind fun v1 =>
 cond ((!v1))
  (some ((s, false)))
  ((subO s (prefix_.size : Int) (s.size : Int)).bind fun v3 =>
  some ((v3, true)))

def strings_CutPrefix (s : ByteArray) (prefix_ : ByteArray) : Option (ByteArray × Bool) :=
 (internal_stringslite_CutPrefix s prefix_).bind fun v1 =>
 some ((v1.1, v1.2))

def internal_stringslite_HasSuffix (s : ByteArray) (suffix : ByteArray) : Option Bool :=
 bindS (S := Bool) (A := Bool)
  (cond ((decide ((suffix.size : Int) ≤ (s.size : Int))))
   ((some (IntKind.i64.wrap ((s.size : Int) - (suffix.size : Int)))).bind fun v1 =>
   (subO s v1 (s.size : Int)).bind fun v2 =>
   some (.inl (v2.toList == suffix.toList)))
   (some (.inl false)))
  (fun (s3 : Bool) =>
   some (s3)) some

def internal_stringslite_CutSuffix (s : ByteArray) (suffix : ByteArray) : Option (ByteArray × Bool) :=
 (internal_stringslite_HasSuffix s suffix).bind fun v1 =>
 cond ((!v1))
  (some ((s, false)))
  ((some (IntKind.i64.wrap ((s.size : Int) - (suffix.size : Int)))).bind fun v3 =>
  (subO s 0 v3).bind fun v4 =>
  some ((v4, true)))

def strings_CutSuffix (s : ByteArray) (suffix : ByteArray) : Option (ByteArray × Bool) :=
 (internal_stringslite_CutSuffix s suffix).bind fun v1 =>
 some ((v1.1, v1.2))

def internal_stringslite_Cut (s : ByteArray) (sep : ByteArray) : Option (ByteArray × ByteArray × Bool) :=
 (internal_stringslite_Index s sep).bind fun v1 =>
 cond ((decide (0 ≤ v1)))
  ((subO s 0 v1).bind fun v3 =>
  (some (IntKind.i64.wrap (v1 + (sep.size : Int)))).bind fun v4 =>
  (subO s v4 (s.size : Int)).bind fun v5 =>
  some ((v3, v5, true)))
  (some ((s, (⟨#[]⟩ : ByteArray), false)))

def strings_Cut (s : ByteArray) (sep : ByteArray) : Option (ByteArray × ByteArray × Bool) :=
 (internal_stringslite_Cut s sep).bind fun v1 =>
 some ((v1.1, v1.2.1, v1.2.2))

def path_Parse (s : ByteArray) : Option (T_Path × Int) :=
 cond ((s.toList == (⟨#[60, 62]⟩ : ByteArray).toList))
  (some (((T_Path.mk true (⟨#[]⟩ : ByteArray) (⟨#[]⟩ : ByteArray)), 0)))
  ((strings_CutPrefix s (⟨#[60]⟩ : ByteArray)).bind fun v2 =>
  (strings_CutSuffix v2.1 (⟨#[62]⟩ : ByteArray)).bind fun v3 =>
  (strings_Cut v3.1 (⟨#[64]⟩ : ByteArray)).bind fun v4 =>
  bindS (S := Bool) (A := (T_Path × Int))
   (cond ((!v2.2))
    (some (.inl true))
    (cond ((!v3.2))
     (some (.inl true))
     (cond ((!v4.2.2))
      (some (.inl true))
      ((path_Check (T_Path.mk false v4.1 v4.2.1)).bind fun v5 =>
      some (.inl (v5 != 0))))))
   (fun (s6 : Bool) =>
    cond (s6)
     (some (((T_Path.mk false (⟨#[]⟩ : ByteArray) (⟨#[]⟩ : ByteArray)), 5)))
     (some (((T_Path.mk false v4.1 v4.2.1), 0)))) some)

def bytes_Equal (a : (List Int)) (b : (List Int)) : Option Bool :=
 (some (bstr a)).bind fun v1 =>
 (some (bstr b)).bind fun v2 =>
 some ((v1.toList == v2.toList))

def report_Read (b : (List Int)) : Option (ByteArray × T_Path × T_Path × Int) :=
 (dots_Lines b).bind fun v1 =>
 cond ((decide ((v1.length : Int) ≤ 14)))
  (some (((⟨#[]⟩ : ByteArray), (T_Path.mk false (⟨#[]⟩ : ByteArray) (⟨#[]⟩ : ByteArray)), (T_Path.mk false (⟨#[]⟩ : ByteArray) (⟨#[]⟩ : ByteArray)), 5)))
  ((ixO 12 v1.length).bind fun v3 =>
  (getO v1 v3).bind fun v4 =>
  (some (bstr v4)).bind fun v5 =>
  (strings_TrimPrefix v5 (⟨#[82, 101, 112, 111, 114, 116, 105, 110, 103, 45, 77, 84, 65, 58, 32, 100, 110, 115, 59, 32]⟩ : ByteArray)).bind fun v6 =>
  (ixO 1 v1.length).bind fun v7 =>
  (getO v1 v7).bind fun v8 =>
  (some (bstr v8)).bind fun v9 =>
  (strings_TrimPrefix v9 (⟨#[84, 111, 58, 32]⟩ : ByteArray)).bind fun v10 =>
  (path_Parse v10).bind fun v11 =>
  (ixO 14 v1.length).bind fun v12 =>
  (getO v1 v12).bind fun v13 =>
  (some (bstr v13)).bind fun v14 =>
  (strings_TrimPrefix v14 (⟨#[70, 105, 110, 97, 108, 45, 82, 101, 99, 105, 112, 105, 101, 110, 116, 58, 32, 114, 102, 99, 56, 50, 50, 59, 32]⟩ : ByteArray)).bind fun v15 =>
  (path_Parse v15).bind fun v16 =>
  (report_Build v6 v11.1 v16.1).bind fun v17 =>
  bindS (S := Bool) (A := (ByteArray × T_Path × T_Path × Int))
   (cond ((v17.2 != 0))
    (some (.inl true))
    ((bytes_Equal v17.1 b).bind fun v18 =>
    some (.inl (!v18))))
   (fun (s19 : Bool) =>
    cond (s19)
     (some (((⟨#[]⟩ : ByteArray), (T_Path.mk false (⟨#[]⟩ : ByteArray) (⟨#[]⟩ : ByteArray)), (T_Path.mk false (⟨#[]⟩ : ByteArray) (⟨#[]⟩ : ByteArray)), 5)))
     (some ((v6, v11.1, v16.1, 0)))) some)

def wherrykeep_Path (a : T_Path) (b : T_Path) : Option Bool :=
 bindS (S := Bool) (A := Bool)
  ((some (a.Null == b.Null)).bind fun v1 =>
  cond ((a.Null == b.Null))
   (cond ((a.Local.toList == b.Local.toList))
    (some (.inl (a.Domain.toList == b.Domain.toList)))
    (some (.inl false)))
   (some (.inl false)))
  (fun (s2 : Bool) =>
   some (s2)) some

def wherryref11_end (b : (List Int)) (at_ : Int) : Option Int :=
 bindS (S := (Unit)) (A := Int)
  (loopF (S := (Int)) (O := (Unit) ⊕ Int) (fun (s21 : Int) =>
   (some (IntKind.i64.wrap (s21 + 1))).bind fun v1 =>
   cond ((decide (v1 < (b.length : Int))))
    (bindS (S := Bool) (A := ((Int) ⊕ ((Unit) ⊕ Int)))
     ((ixO s21 b.length).bind fun v3 =>
     (getO b v3).bind fun v4 =>
     cond ((v4 == 13))
      ((some (IntKind.i64.wrap (s21 + 1))).bind fun v5 =>
      (ixO v5 b.length).bind fun v6 =>
      (getO b v6).bind fun v7 =>
      some (.inl (v7 == 10)))
      (some (.inl false)))
     (fun (s35 : Bool) =>
      cond (s35)
       (some (.inr (.inr (s21))))
       ((some (IntKind.i64.wrap (s21 + 1))).bind fun v13 =>
       some (.inl v13))) some)
    (some (.inr (.inl ()))))
   BIG at_)
  (fun (() : Unit) =>
   some ((-1))) some

def wherrykeep_Twin (l : (List Int)) : Option (List Int) :=
 (appO 1 ([] : List Int) l).bind fun v1 =>
 some (v1)

def wherryref11_Lines (b : (List Int)) : Option (List (List Int)) :=
 (wherryref11_end b 0).bind fun v1 =>
 bindS (S := ((List (List Int)))) (A := (List (List Int)))
  (loopF (S := ((List (List Int)) × Int × Int)) (O := ((List (List Int))) ⊕ (List (List Int))) (fun ((s14, s15, s16) : (List (List Int)) × Int × Int) =>
   cond ((decide (0 ≤ s16)))
    ((sliO b s15 s16).bind fun v3 =>
    (wherrykeep_Twin v3).bind fun v4 =>
    (appO 24 s14 [v4]).bind fun v7 =>
    (some (IntKind.i64.wrap (s16 + 2))).bind fun v8 =>
    (wherryref11_end b v8).bind fun v9 =>
    some (.inl (v7, v8, v9)))
    (some (.inr (.inl s14))))
   BIG ([], 0, v1))
  (fun (s18 : (List (List Int))) =>
   some (s18)) some

def wherrylaw16_wakes : Option Bool :=
 (report_Build (⟨#[115]⟩ : ByteArray) ((T_Path.mk false (⟨#[97]⟩ : ByteArray) (⟨#[120]⟩ : ByteArray))) ((T_Path.mk false (⟨#[98]⟩ : ByteArray) (⟨#[121]⟩ : ByteArray)))).bind fun v1 =>
 (report_Read v1.1).bind fun v2 =>
 bindS (S := Bool) (A := Bool)
  (cond ((v1.2 == 0))
   (cond ((v2.2.2.2 == 0))
    (cond ((v2.1.toList == (⟨#[115]⟩ : ByteArray).toList))
     ((wherrykeep_Path v2.2.1 ((T_Path.mk false (⟨#[97]⟩ : ByteArray) (⟨#[120]⟩ : ByteArray)))).bind fun v3 =>
     cond (v3)
      ((wherrykeep_Path v2.2.2.1 ((T_Path.mk false (⟨#[98]⟩ : ByteArray) (⟨#[121]⟩ : ByteArray)))).bind fun v4 =>
      cond (v4)
       ((wherryref11_Lines v1.1).bind fun v5 =>
       some (.inl (((v5.length : Int) == 18))))
       (some (.inl false)))
      (some (.inl false)))
     (some (.inl false)))
    (some (.inl false)))
   (some (.inl false)))
  (fun (s6 : Bool) =>
   some (s6)) some

def bytes_ContainsAny (b : (List Int)) (chars : ByteArray) : Option Bool :=
 (bytes_IndexAny b chars).bind fun v1 =>
 some ((decide (0 ≤ v1)))

def dots_Check (b : (List Int)) : Option Int :=
 (dots_lines b).bind fun v1 =>
 bindS (S := (Int)) (A := (Int))
  (rangeS (S := (Int)) (O := (Int)) (fun Y st => Sh.dots_lines_1 Y v1 st) (fun (x : (List Int)) (s8 : Int) =>
   (bytes_ContainsAny x (⟨#[13, 10]⟩ : ByteArray)).bind fun v2 =>
   cond (v2)
    (some (.inr s8))
    ((some (IntKind.i64.wrap ((x.length : Int) + 2))).bind fun v4 =>
    (some (IntKind.i64.wrap (s8 + v4))).bind fun v5 =>
    some (.inl v5)))
   0)
  (fun (s8 : Int) =>
   cond ((s8 != (b.length : Int)))
    (some (5))
    (some (0)))
  (fun (s10 : Int) =>
   some (5))

def head_first (s : ByteArray) : Option (ByteArray × ByteArray × Bool) :=
 (strings_Cut s (⟨#[58]⟩ : ByteArray)).bind fun v1 =>
 bindS (S := Bool) (A := (ByteArray × ByteArray × Bool))
  (cond ((!v1.2.2))
   (some (.inl true))
   (some (.inl ((v1.1.toList == (⟨#[]⟩ : ByteArray).toList)))))
  (fun (s2 : Bool) =>
   cond (s2)
    (some (((⟨#[]⟩ : ByteArray), (⟨#[]⟩ : ByteArray), false)))
    (bindS (S := (Unit)) (A := (ByteArray × ByteArray × Bool))
     (loopF (S := (Int)) (O := (Unit) ⊕ (ByteArray × ByteArray × Bool)) (fun (s23 : Int) =>
      cond ((decide (s23 < (v1.1.size : Int))))
       (bindS (S := Bool) (A := ((Int) ⊕ ((Unit) ⊕ (ByteArray × ByteArray × Bool))))
        ((chrO v1.1 s23).bind fun v8 =>
        cond ((decide (v8 < 33)))
         (some (.inl true))
         ((chrO v1.1 s23).bind fun v9 =>
         some (.inl ((decide (126 < v9))))))
        (fun (s37 : Bool) =>
         cond (s37)
          (some (.inr (.inr (((⟨#[]⟩ : ByteArray), (⟨#[]⟩ : ByteArray), false)))))
          ((some (IntKind.i64.wrap (s23 + 1))).bind fun v15 =>
          some (.inl v15))) some)
       (some (.inr (.inl ()))))
      BIG 0)
     (fun (() : Unit) =>
      some ((v1.1, v1.2.1, true))) some)) some

def strings_HasPrefix (s : ByteArray) (prefix_ : ByteArray) : Option Bool :=
 (internal_stringslite_HasPrefix s prefix_).bind fun v1 =>
 some (v1)

def head_continues (s : ByteArray) : Option Bool :=
 bindS (S := Bool) (A := Bool)
  ((strings_HasPrefix s (⟨#[32]⟩ : ByteArray)).bind fun v1 =>
  cond (v1)
   (some (.inl true))
   ((strings_HasPrefix s (⟨#[9]⟩ : ByteArray)).bind fun v2 =>
   some (.inl v2)))
  (fun (s3 : Bool) =>
   some (s3)) some

def head_Scan (b : (List Int)) : Option ((List T_Field) × Int × Int) :=
 (dots_Check b).bind fun v1 =>
 cond ((v1 != 0))
  (some (([], 0, v1)))
  ((dots_Lines b).bind fun v3 =>
  bindS (S := ((List T_Field) × Int)) (A := ((List T_Field) × Int × Int))
   (loopF (S := ((List T_Field) × Int × Int)) (O := ((List T_Field) × Int) ⊕ ((List T_Field) × Int × Int)) (fun ((s106, s107, s108) : (List T_Field) × Int × Int) =>
    cond ((decide (s108 < (v3.length : Int))))
     ((ixO s108 v3.length).bind fun v5 =>
     (getO v3 v5).bind fun v6 =>
     (some (bstr v6)).bind fun v7 =>
     bindS (S := (List T_Field)) (A := (((List T_Field) × Int × Int) ⊕ (((List T_Field) × Int) ⊕ ((List T_Field) × Int × Int))))
      ((head_first v7).bind fun v8 =>
      bindS (S := (List T_Field)) (A := (((List T_Field)) ⊕ (((List T_Field) × Int × Int) ⊕ (((List T_Field) × Int) ⊕ ((List T_Field) × Int × Int)))))
       (bindS (S := Bool) (A := (((List T_Field)) ⊕ (((List T_Field)) ⊕ (((List T_Field) × Int × Int) ⊕ (((List T_Field) × Int) ⊕ ((List T_Field) × Int × Int))))))
        ((head_continues v7).bind fun v9 =>
        cond (v9)
         (some (.inl ((decide (0 < (s106.length : Int))))))
         (some (.inl false)))
        (fun (s192 : Bool) =>
         cond (s192)
          ((some (IntKind.i64.wrap ((s106.length : Int) - 1))).bind fun v15 =>
          (ixO v15 s106.length).bind fun v65 =>
          (getO s106 v65).bind fun v66 =>
          (catO v66.Body v7).bind fun v67 =>
          (ixO v15 s106.length).bind fun v68 =>
          (getO s106 v68).bind fun v69 =>
          (some (s106.set v68 (T_Field.mk v69.Name v67))).bind fun v70 =>
          some (.inl v70))
          (cond (v8.2.2)
           ((appO 32 s106 [(T_Field.mk v8.1 v8.2.1)]).bind fun v17 =>
           some (.inl v17))
           (cond ((v7.toList == (⟨#[]⟩ : ByteArray).toList))
            ((some (IntKind.i64.wrap (s107 + 2))).bind fun v19 =>
            some (.inr (.inr (.inr (.inr ((s106, v19, 0)))))))
            (some (.inr (.inr (.inr (.inr ((s106, s107, 0)))))))))) some)
       (fun (s188 : (List T_Field)) =>
        some (.inl s188)) some)
      (fun (s177 : (List T_Field)) =>
       (some (IntKind.i64.wrap ((v7.size : Int) + 2))).bind fun v53 =>
       (some (IntKind.i64.wrap (s107 + v53))).bind fun v54 =>
       (some (IntKind.i64.wrap (s108 + 1))).bind fun v55 =>
       some (.inl (s177, v54, v55))) some)
     (some (.inr (.inl (s106, s107)))))
    BIG ([], 0, 0))
   (fun ((s150, s151) : (List T_Field) × Int) =>
    some ((s150, s151, 0))) some)

def wherrylaw16_ReportBack (site : ByteArray) (sender : T_Path) (rcpt : T_Path) (more : Int) : Option Bool :=
 (some (IntKind.i64.wrap ((site.size : Int) + (sender.Local.size : Int)))).bind fun v1 =>
 (some (IntKind.i64.wrap (v1 + (sender.Domain.size : Int)))).bind fun v2 =>
 (some (IntKind.i64.wrap (v2 + (rcpt.Local.size : Int)))).bind fun v3 =>
 (some (IntKind.i64.wrap (v3 + (rcpt.Domain.size : Int)))).bind fun v4 =>
 cond ((decide (2000 < v4)))
  (some (true))
  ((report_Build site sender rcpt).bind fun v6 =>
  cond ((v6.2 != 0))
   (bindS (S := Bool) (A := Bool)
    (cond ((v6.2 == 5))
     (cond (((v6.1.length : Int) == 0))
      ((wherrylaw16_wakes ).bind fun v8 =>
      some (.inl v8))
      (some (.inl false)))
     (some (.inl false)))
    (fun (s9 : Bool) =>
     some (s9)) some)
   ((report_Read v6.1).bind fun v13 =>
   (head_Scan v6.1).bind fun v14 =>
   bindS (S := Bool) (A := Bool)
    (cond ((v13.2.2.2 != 0))
     (some (.inl true))
     (cond ((v14.2.2 != 0))
      (some (.inl true))
      (cond ((!(v13.1.toList == site.toList)))
       (some (.inl true))
       ((wherrykeep_Path (T_Path.mk v13.2.1.Null v13.2.1.Local v13.2.1.Domain) (T_Path.mk sender.Null sender.Local sender.Domain)).bind fun v15 =>
       cond ((!v15))
        (some (.inl true))
        ((wherrykeep_Path (T_Path.mk v13.2.2.1.Null v13.2.2.1.Local v13.2.2.1.Domain) (T_Path.mk rcpt.Null rcpt.Local rcpt.Domain)).bind fun v16 =>
        cond ((!v16))
         (some (.inl true))
         (cond (((v14.1.length : Int) != 4))
          (some (.inl true))
          (cond (((v6.1.length : Int) == 0))
           (some (.inl true))
           ((dots_Check v6.1).bind fun v17 =>
           some (.inl (v17 != 0))))))))))
    (fun (s18 : Bool) =>
     cond (s18)
      (some (false))
      ((some (IntKind.i64.wrap ((v6.1.length : Int) - 1))).bind fun v23 =>
      (sliO v6.1 0 v23).bind fun v24 =>
      (report_Read v24).bind fun v25 =>
      (wherrykeep_Twin v6.1).bind fun v26 =>
      (appO 1 v26 [more]).bind fun v27 =>
      (report_Read v27).bind fun v28 =>
      bindS (S := Bool) (A := Bool)
       (cond ((v25.2.2.2 == 5))
        (cond ((v28.2.2.2 == 5))
         ((wherrylaw16_wakes ).bind fun v29 =>
         some (.inl v29))
         (some (.inl false)))
        (some (.inl false)))
       (fun (s30 : Bool) =>
        some (s30)) some)) some))

def wherryref11_in (n : Int) (lo : Int) (hi : Int) : Option Bool :=
 bindS (S := Bool) (A := Bool)
  (cond ((decide (lo ≤ n)))
   (some (.inl ((decide (n ≤ hi)))))
   (some (.inl false)))
  (fun (s1 : Bool) =>
   some (s1)) some

def wherryref11_letter (c : Int) : Option Bool :=
 bindS (S := Bool) (A := Bool)
  (cond ((decide (97 ≤ c)))
   (cond ((decide (c ≤ 122)))
    (some (.inl true))
    (cond ((decide (65 ≤ c)))
     (some (.inl ((decide (c ≤ 90)))))
     (some (.inl false))))
   (cond ((decide (65 ≤ c)))
    (some (.inl ((decide (c ≤ 90)))))
    (some (.inl false))))
  (fun (s1 : Bool) =>
   some (s1)) some

def wherryref11_digit (c : Int) : Option Bool :=
 bindS (S := Bool) (A := Bool)
  (cond ((decide (48 ≤ c)))
   (some (.inl ((decide (c ≤ 57)))))
   (some (.inl false)))
  (fun (s1 : Bool) =>
   some (s1)) some

def wherryref11_Domain (s : ByteArray) : Option Bool :=
 (wherryref11_in (s.size : Int) 1 255).bind fun v1 =>
 cond ((!v1))
  (some (false))
  (bindS (S := (Unit)) (A := Bool)
   (loopF (S := (Int × Int)) (O := (Unit) ⊕ Bool) (fun ((s88, s89) : Int × Int) =>
    cond ((decide (s89 ≤ (s.size : Int))))
     (bindS (S := Int) (A := ((Int × Int) ⊕ ((Unit) ⊕ Bool)))
      (bindS (S := Bool) (A := (Int ⊕ ((Int × Int) ⊕ ((Unit) ⊕ Bool))))
       (cond ((decide (s89 < (s.size : Int))))
        ((chrO s s89).bind fun v4 =>
        some (.inl (v4 != 46)))
        (some (.inl false)))
       (fun (s151 : Bool) =>
        cond (s151)
         (bindS (S := Bool) (A := (Int ⊕ ((Int × Int) ⊕ ((Unit) ⊕ Bool))))
          ((chrO s s89).bind fun v10 =>
          (wherryref11_letter v10).bind fun v11 =>
          cond ((!v11))
           ((chrO s s89).bind fun v12 =>
           (wherryref11_digit v12).bind fun v13 =>
           cond ((!v13))
            ((chrO s s89).bind fun v14 =>
            some (.inl (v14 != 45)))
            (some (.inl false)))
           (some (.inl false)))
          (fun (s156 : Bool) =>
           cond (s156)
            (some (.inr (.inr (.inr (false)))))
            (some (.inl s88))) some)
         (bindS (S := Bool) (A := (Int ⊕ ((Int × Int) ⊕ ((Unit) ⊕ Bool))))
          ((some (IntKind.i64.wrap (s89 - s88))).bind fun v20 =>
          (wherryref11_in v20 1 63).bind fun v21 =>
          cond ((!v21))
           (some (.inl true))
           ((chrO s s88).bind fun v22 =>
           cond ((v22 == 45))
            (some (.inl true))
            ((some (IntKind.i64.wrap (s89 - 1))).bind fun v23 =>
            (chrO s v23).bind fun v24 =>
            some (.inl (v24 == 45)))))
          (fun (s161 : Bool) =>
           cond (s161)
            (some (.inr (.inr (.inr (false)))))
            ((some (IntKind.i64.wrap (s89 + 1))).bind fun v30 =>
            some (.inl v30))) some)) some)
      (fun (s147 : Int) =>
       (some (IntKind.i64.wrap (s89 + 1))).bind fun v50 =>
       some (.inl (s147, v50))) some)
     (some (.inr (.inl ()))))
    BIG (0, 0))
   (fun (() : Unit) =>
    some (true)) some)

def wherryref11_sign (c : Int) : Option Bool :=
 bindS (S := Bool) (A := Bool)
  ((wherryref11_letter c).bind fun v1 =>
  cond (v1)
   (some (.inl true))
   ((wherryref11_digit c).bind fun v2 =>
   some (.inl v2)))
  (fun (s3 : Bool) =>
   cond (s3)
    (some (true))
    (bindS (S := (Unit)) (A := Bool)
     (loopF (S := (Int)) (O := (Unit) ⊕ Bool) (fun (s15 : Int) =>
      cond ((decide (s15 < (((⟨#[33, 35, 36, 37, 38, 39, 42, 43, 45, 47, 61, 63, 94, 95, 123, 124, 125, 126]⟩ : ByteArray).size : Int)))))
       ((chrO (⟨#[33, 35, 36, 37, 38, 39, 42, 43, 45, 47, 61, 63, 94, 95, 123, 124, 125, 126]⟩ : ByteArray) s15).bind fun v9 =>
       cond ((v9 == c))
        (some (.inr (.inr (true))))
        ((some (IntKind.i64.wrap (s15 + 1))).bind fun v11 =>
        some (.inl v11)))
       (some (.inr (.inl ()))))
      BIG 0)
     (fun (() : Unit) =>
      some ((c == 96))) some)) some

def wherryref11_Local (s : ByteArray) : Option Bool :=
 bindS (S := Bool) (A := Bool)
  ((wherryref11_in (s.size : Int) 1 64).bind fun v1 =>
  cond ((!v1))
   (some (.inl true))
   ((chrO s 0).bind fun v2 =>
   cond ((v2 == 46))
    (some (.inl true))
    ((some (IntKind.i64.wrap ((s.size : Int) - 1))).bind fun v3 =>
    (chrO s v3).bind fun v4 =>
    some (.inl (v4 == 46)))))
  (fun (s5 : Bool) =>
   cond (s5)
    (some (false))
    (bindS (S := (Unit)) (A := Bool)
     (loopF (S := (Int)) (O := (Unit) ⊕ Bool) (fun (s33 : Int) =>
      cond ((decide (s33 < (s.size : Int))))
       (bindS (S := Bool) (A := ((Int) ⊕ ((Unit) ⊕ Bool)))
        ((chrO s s33).bind fun v11 =>
        cond ((v11 == 46))
         ((some (IntKind.i64.wrap (s33 - 1))).bind fun v12 =>
         (chrO s v12).bind fun v13 =>
         cond ((v13 == 46))
          (some (.inl true))
          ((chrO s s33).bind fun v14 =>
          cond ((v14 != 46))
           ((chrO s s33).bind fun v15 =>
           (wherryref11_sign v15).bind fun v16 =>
           some (.inl (!v16)))
           (some (.inl false))))
         ((chrO s s33).bind fun v17 =>
         cond ((v17 != 46))
          ((chrO s s33).bind fun v18 =>
          (wherryref11_sign v18).bind fun v19 =>
          some (.inl (!v19)))
          (some (.inl false))))
        (fun (s47 : Bool) =>
         cond (s47)
          (some (.inr (.inr (false))))
          ((some (IntKind.i64.wrap (s33 + 1))).bind fun v25 =>
          some (.inl v25))) some)
       (some (.inr (.inl ()))))
      BIG 0)
     (fun (() : Unit) =>
      some (true)) some)) some

def wherryref11_Path (p : T_Path) : Option Bool :=
 cond (p.Null)
  (bindS (S := Bool) (A := Bool)
   (cond ((p.Local.toList == (⟨#[]⟩ : ByteArray).toList))
    (some (.inl ((p.Domain.toList == (⟨#[]⟩ : ByteArray).toList))))
    (some (.inl false)))
   (fun (s2 : Bool) =>
    some (s2)) some)
  (bindS (S := Bool) (A := Bool)
   ((wherryref11_Local p.Local).bind fun v6 =>
   cond (v6)
    ((wherryref11_Domain p.Domain).bind fun v7 =>
    some (.inl v7))
    (some (.inl false)))
   (fun (s8 : Bool) =>
    some (s8)) some)

def wherryref11_RightReport (site : ByteArray) (sender : T_Path) (rcpt : T_Path) : Option Bool :=
 bindS (S := Bool) (A := Bool)
  ((wherryref11_Domain site).bind fun v1 =>
  cond (v1)
   ((wherryref11_Path sender).bind fun v2 =>
   cond (v2)
    ((wherryref11_Path rcpt).bind fun v3 =>
    cond (v3)
     (cond ((!sender.Null))
      (some (.inl (!rcpt.Null)))
      (some (.inl false)))
     (some (.inl false)))
    (some (.inl false)))
   (some (.inl false)))
  (fun (s4 : Bool) =>
   some (s4)) some

def wherryref11_Text (p : T_Path) : Option ByteArray :=
 cond (p.Null)
  (some ((⟨#[60, 62]⟩ : ByteArray)))
  ((catO (⟨#[60]⟩ : ByteArray) p.Local).bind fun v2 =>
  (catO v2 (⟨#[64]⟩ : ByteArray)).bind fun v3 =>
  (catO v3 p.Domain).bind fun v4 =>
  (catO v4 (⟨#[62]⟩ : ByteArray)).bind fun v5 =>
  some (v5))

def wherryref11_Report (site : ByteArray) (sender : T_Path) (rcpt : T_Path) : Option (List Int) :=
 (catO (⟨#[70, 114, 111, 109, 58, 32, 60, 112, 111, 115, 116, 109, 97, 115, 116, 101, 114, 64]⟩ : ByteArray) site).bind fun v1 =>
 (catO v1 (⟨#[62]⟩ : ByteArray)).bind fun v2 =>
 (wherryref11_Text sender).bind fun v3 =>
 (catO (⟨#[84, 111, 58, 32]⟩ : ByteArray) v3).bind fun v4 =>
 (wherryref11_Text rcpt).bind fun v5 =>
 (catO (⟨#[78, 111, 32, 119, 97, 121, 32, 119, 97, 115, 32, 102, 111, 117, 110, 100, 32, 116, 111, 32]⟩ : ByteArray) v5).bind fun v6 =>
 (catO v6 (⟨#[46]⟩ : ByteArray)).bind fun v7 =>
 (catO (⟨#[82, 101, 112, 111, 114, 116, 105, 110, 103, 45, 77, 84, 65, 58, 32, 100, 110, 115, 59, 32]⟩ : ByteArray) site).bind fun v8 =>
 (wherryref11_Text rcpt).bind fun v9 =>
 (catO (⟨#[70, 105, 110, 97, 108, 45, 82, 101, 99, 105, 112, 105, 101, 110, 116, 58, 32, 114, 102, 99, 56, 50, 50, 59, 32]⟩ : ByteArray) v9).bind fun v10 =>
 bindS (S := (ByteArray)) (A := (List Int))
  (loopF (S := (ByteArray × Int)) (O := (ByteArray) ⊕ (List Int)) (fun ((s36, s37) : ByteArray × Int) =>
   cond ((decide (s37 < ((([v2, v4, (⟨#[83, 117, 98, 106, 101, 99, 116, 58, 32, 85, 110, 100, 101, 108, 105, 118, 101, 114, 101, 100, 32, 109, 97, 105, 108]⟩ : ByteArray), (⟨#[67, 111, 110, 116, 101, 110, 116, 45, 84, 121, 112, 101, 58, 32, 109, 117, 108, 116, 105, 112, 97, 114, 116, 47, 114, 101, 112, 111, 114, 116, 59, 32, 114, 101, 112, 111, 114, 116, 45, 116, 121, 112, 101, 61, 100, 101, 108, 105, 118, 101, 114, 121, 45, 115, 116, 97, 116, 117, 115, 59, 32, 98, 111, 117, 110, 100, 97, 114, 121, 61, 119]⟩ : ByteArray), (⟨#[]⟩ : ByteArray), (⟨#[45, 45, 119]⟩ : ByteArray), (⟨#[67, 111, 110, 116, 101, 110, 116, 45, 84, 121, 112, 101, 58, 32, 116, 101, 120, 116, 47, 112, 108, 97, 105, 110]⟩ : ByteArray), (⟨#[]⟩ : ByteArray), v7, (⟨#[45, 45, 119]⟩ : ByteArray), (⟨#[67, 111, 110, 116, 101, 110, 116, 45, 84, 121, 112, 101, 58, 32, 109, 101, 115, 115, 97, 103, 101, 47, 100, 101, 108, 105, 118, 101, 114, 121, 45, 115, 116, 97, 116, 117, 115]⟩ : ByteArray), (⟨#[]⟩ : ByteArray), v8, (⟨#[]⟩ : ByteArray), v10, (⟨#[65, 99, 116, 105, 111, 110, 58, 32, 102, 97, 105, 108, 101, 100]⟩ : ByteArray), (⟨#[83, 116, 97, 116, 117, 115, 58, 32, 52, 46, 52, 46, 55]⟩ : ByteArray), (⟨#[45, 45, 119, 45, 45]⟩ : ByteArray)]).length : Int)))))
    ((ixO s37 ([v2, v4, (⟨#[83, 117, 98, 106, 101, 99, 116, 58, 32, 85, 110, 100, 101, 108, 105, 118, 101, 114, 101, 100, 32, 109, 97, 105, 108]⟩ : ByteArray), (⟨#[67, 111, 110, 116, 101, 110, 116, 45, 84, 121, 112, 101, 58, 32, 109, 117, 108, 116, 105, 112, 97, 114, 116, 47, 114, 101, 112, 111, 114, 116, 59, 32, 114, 101, 112, 111, 114, 116, 45, 116, 121, 112, 101, 61, 100, 101, 108, 105, 118, 101, 114, 121, 45, 115, 116, 97, 116, 117, 115, 59, 32, 98, 111, 117, 110, 100, 97, 114, 121, 61, 119]⟩ : ByteArray), (⟨#[]⟩ : ByteArray), (⟨#[45, 45, 119]⟩ : ByteArray), (⟨#[67, 111, 110, 116, 101, 110, 116, 45, 84, 121, 112, 101, 58, 32, 116, 101, 120, 116, 47, 112, 108, 97, 105, 110]⟩ : ByteArray), (⟨#[]⟩ : ByteArray), v7, (⟨#[45, 45, 119]⟩ : ByteArray), (⟨#[67, 111, 110, 116, 101, 110, 116, 45, 84, 121, 112, 101, 58, 32, 109, 101, 115, 115, 97, 103, 101, 47, 100, 101, 108, 105, 118, 101, 114, 121, 45, 115, 116, 97, 116, 117, 115]⟩ : ByteArray), (⟨#[]⟩ : ByteArray), v8, (⟨#[]⟩ : ByteArray), v10, (⟨#[65, 99, 116, 105, 111, 110, 58, 32, 102, 97, 105, 108, 101, 100]⟩ : ByteArray), (⟨#[83, 116, 97, 116, 117, 115, 58, 32, 52, 46, 52, 46, 55]⟩ : ByteArray), (⟨#[45, 45, 119, 45, 45]⟩ : ByteArray)]).length).bind fun v12 =>
    (getO ([v2, v4, (⟨#[83, 117, 98, 106, 101, 99, 116, 58, 32, 85, 110, 100, 101, 108, 105, 118, 101, 114, 101, 100, 32, 109, 97, 105, 108]⟩ : ByteArray), (⟨#[67, 111, 110, 116, 101, 110, 116, 45, 84, 121, 112, 101, 58, 32, 109, 117, 108, 116, 105, 112, 97, 114, 116, 47, 114, 101, 112, 111, 114, 116, 59, 32, 114, 101, 112, 111, 114, 116, 45, 116, 121, 112, 101, 61, 100, 101, 108, 105, 118, 101, 114, 121, 45, 115, 116, 97, 116, 117, 115, 59, 32, 98, 111, 117, 110, 100, 97, 114, 121, 61, 119]⟩ : ByteArray), (⟨#[]⟩ : ByteArray), (⟨#[45, 45, 119]⟩ : ByteArray), (⟨#[67, 111, 110, 116, 101, 110, 116, 45, 84, 121, 112, 101, 58, 32, 116, 101, 120, 116, 47, 112, 108, 97, 105, 110]⟩ : ByteArray), (⟨#[]⟩ : ByteArray), v7, (⟨#[45, 45, 119]⟩ : ByteArray), (⟨#[67, 111, 110, 116, 101, 110, 116, 45, 84, 121, 112, 101, 58, 32, 109, 101, 115, 115, 97, 103, 101, 47, 100, 101, 108, 105, 118, 101, 114, 121, 45, 115, 116, 97, 116, 117, 115]⟩ : ByteArray), (⟨#[]⟩ : ByteArray), v8, (⟨#[]⟩ : ByteArray), v10, (⟨#[65, 99, 116, 105, 111, 110, 58, 32, 102, 97, 105, 108, 101, 100]⟩ : ByteArray), (⟨#[83, 116, 97, 116, 117, 115, 58, 32, 52, 46, 52, 46, 55]⟩ : ByteArray), (⟨#[45, 45, 119, 45, 45]⟩ : ByteArray)]) v12).bind fun v13 =>
    (catO s36 v13).bind fun v14 =>
    (catO v14 (⟨#[13, 10]⟩ : ByteArray)).bind fun v15 =>
    (some (IntKind.i64.wrap (s37 + 1))).bind fun v16 =>
    some (.inl (v15, v16)))
    (some (.inr (.inl s36))))
   BIG (((⟨#[]⟩ : ByteArray), 0)))
  (fun (s39 : ByteArray) =>
   (some (sbytes s39)).bind fun v31 =>
   some (v31)) some

def wherrylaw16_ReportWrong (sender : T_Path) (rcpt : T_Path) (line : Int) (c : Int) : Option Bool :=
 bindS (S := Bool) (A := Bool)
  ((some (IntKind.i64.wrap ((sender.Local.size : Int) + (sender.Domain.size : Int)))).bind fun v1 =>
  (some (IntKind.i64.wrap (v1 + (rcpt.Local.size : Int)))).bind fun v2 =>
  (some (IntKind.i64.wrap (v2 + (rcpt.Domain.size : Int)))).bind fun v3 =>
  cond ((decide (1000 < v3)))
   (some (.inl true))
   ((wherryref11_RightReport (⟨#[115, 46, 120]⟩ : ByteArray) sender rcpt).bind fun v4 =>
   some (.inl (!v4))))
  (fun (s5 : Bool) =>
   cond (s5)
    (some (true))
    ((report_Build (⟨#[115, 46, 120]⟩ : ByteArray) ((T_Path.mk true (⟨#[]⟩ : ByteArray) (⟨#[]⟩ : ByteArray))) rcpt).bind fun v10 =>
    (report_Build (⟨#[115, 46, 120]⟩ : ByteArray) sender ((T_Path.mk true (⟨#[]⟩ : ByteArray) (⟨#[]⟩ : ByteArray)))).bind fun v11 =>
    (report_Build (⟨#[115, 32, 120]⟩ : ByteArray) sender rcpt).bind fun v12 =>
    bindS (S := Bool) (A := Bool)
     (cond ((v10.2 != 5))
      (some (.inl true))
      (cond ((v11.2 != 5))
       (some (.inl true))
       (some (.inl (v12.2 != 5)))))
     (fun (s13 : Bool) =>
      cond (s13)
       (some (false))
       ((wherryref11_Report (⟨#[115, 46, 120]⟩ : ByteArray) sender rcpt).bind fun v18 =>
       (wherryref11_Lines v18).bind fun v19 =>
       (some (IntKind.u64.wrap line)).bind fun v20 =>
       (some (IntKind.u64.wrap (v19.length : Int))).bind fun v21 =>
       (remO v20 v21).bind fun v22 =>
       (some (IntKind.i64.wrap v22)).bind fun v23 =>
       bindS (S := Bool) (A := Bool)
        (cond ((c == 13))
         (some (.inl true))
         (some (.inl (c == 10))))
        (fun (s24 : Bool) =>
         cond (s24)
          ((wherrylaw16_wakes ).bind fun v29 =>
          some (v29))
          (bindS (S := ((List Int) × (List Int))) (A := Bool)
           (loopF (S := ((List Int) × (List Int) × Int)) (O := ((List Int) × (List Int)) ⊕ Bool) (fun ((s60, s61, s62) : (List Int) × (List Int) × Int) =>
            cond ((decide (s62 < (v19.length : Int))))
             ((ixO s62 v19.length).bind fun v31 =>
             (getO v19 v31).bind fun v32 =>
             (appO 1 s60 v32).bind fun v33 =>
             (ixO s62 v19.length).bind fun v34 =>
             (getO v19 v34).bind fun v35 =>
             (appO 1 s61 v35).bind fun v36 =>
             (appO 1 v36 [13, 10]).bind fun v37 =>
             bindS (S := (List Int) × (List Int)) (A := (((List Int) × (List Int) × Int) ⊕ (((List Int) × (List Int)) ⊕ Bool)))
              (cond ((s62 == v23))
               ((appO 1 v33 [c]).bind fun v39 =>
               (appO 1 v37 [13, 10]).bind fun v40 =>
               some (.inl (v39, v40)))
               (some (.inl (v33, v37))))
              (fun ((s81, s82) : (List Int) × (List Int)) =>
               (appO 1 s81 [13, 10]).bind fun v47 =>
               (some (IntKind.i64.wrap (s62 + 1))).bind fun v48 =>
               some (.inl (v47, s82, v48))) some)
             (some (.inr (.inl (s60, s61)))))
            BIG ([], [], 0))
           (fun ((s71, s72) : (List Int) × (List Int)) =>
            (report_Read s71).bind fun v87 =>
            (report_Read s72).bind fun v88 =>
            bindS (S := Bool) (A := Bool)
             (cond ((v87.2.2.2 == 5))
              (cond ((v88.2.2.2 == 5))
               (cond ((v87.1.toList == (⟨#[]⟩ : ByteArray).toList))
                ((wherrykeep_Path v87.2.1 ((T_Path.mk false (⟨#[]⟩ : ByteArray) (⟨#[]⟩ : ByteArray)))).bind fun v89 =>
                cond (v89)
                 ((wherrykeep_Path v87.2.2.1 ((T_Path.mk false (⟨#[]⟩ : ByteArray) (⟨#[]⟩ : ByteArray)))).bind fun v90 =>
                 cond (v90)
                  ((wherrylaw16_wakes ).bind fun v91 =>
                  some (.inl v91))
                  (some (.inl false)))
                 (some (.inl false)))
                (some (.inl false)))
               (some (.inl false)))
              (some (.inl false)))
             (fun (s92 : Bool) =>
              some (s92)) some) some)) some)) some)) some

def wherryref11_Fold (s : ByteArray) : Option ByteArray :=
 bindS (S := ((List Int))) (A := ByteArray)
  (loopF (S := ((List Int) × Int)) (O := ((List Int)) ⊕ ByteArray) (fun ((s37, s38) : (List Int) × Int) =>
   cond ((decide (s38 < (s.size : Int))))
    ((chrO s s38).bind fun v2 =>
    bindS (S := Int) (A := (((List Int) × Int) ⊕ (((List Int)) ⊕ ByteArray)))
     (bindS (S := Bool) (A := (Int ⊕ (((List Int) × Int) ⊕ (((List Int)) ⊕ ByteArray))))
      (cond ((decide (65 ≤ v2)))
       (some (.inl ((decide (v2 ≤ 90)))))
       (some (.inl false)))
      (fun (s71 : Bool) =>
       cond (s71)
        ((some (IntKind.u8.wrap (v2 + 32))).bind fun v8 =>
        some (.inl v8))
        (some (.inl v2))) some)
     (fun (s67 : Int) =>
      (appO 1 s37 [s67]).bind fun v18 =>
      (some (IntKind.i64.wrap (s38 + 1))).bind fun v19 =>
      some (.inl (v18, v19))) some)
    (some (.inr (.inl s37))))
   BIG ([], 0))
  (fun (s54 : (List Int)) =>
   (some (bstr s54)).bind fun v76 =>
   some (v76)) some

def wherryref11_begins (s : ByteArray) (with_ : ByteArray) : Option (ByteArray × Bool) :=
 bindS (S := Bool) (A := (ByteArray × Bool))
  (cond ((decide ((s.size : Int) < (with_.size : Int))))
   (some (.inl true))
   ((subO s 0 (with_.size : Int)).bind fun v1 =>
   (wherryref11_Fold v1).bind fun v2 =>
   some (.inl ((!(v2.toList == with_.toList))))))
  (fun (s3 : Bool) =>
   cond (s3)
    (some (((⟨#[]⟩ : ByteArray), false)))
    ((subO s (with_.size : Int) (s.size : Int)).bind fun v8 =>
    some ((v8, true)))) some

def wherryref11_keep (p : T_Path) (ok : Bool) : Option (T_Path × Bool) :=
 cond ((!ok))
  (some (((T_Path.mk false (⟨#[]⟩ : ByteArray) (⟨#[]⟩ : ByteArray)), false)))
  (some ((p, true)))

def wherryref11_Parse (s : ByteArray) : Option (T_Path × Bool) :=
 cond ((s.toList == (⟨#[60, 62]⟩ : ByteArray).toList))
  (some (((T_Path.mk true (⟨#[]⟩ : ByteArray) (⟨#[]⟩ : ByteArray)), true)))
  (bindS (S := Bool) (A := (T_Path × Bool))
   (cond ((decide ((s.size : Int) < 2)))
    (some (.inl true))
    ((chrO s 0).bind fun v2 =>
    cond ((v2 != 60))
     (some (.inl true))
     ((some (IntKind.i64.wrap ((s.size : Int) - 1))).bind fun v3 =>
     (chrO s v3).bind fun v4 =>
     some (.inl (v4 != 62)))))
   (fun (s5 : Bool) =>
    cond (s5)
     (some (((T_Path.mk false (⟨#[]⟩ : ByteArray) (⟨#[]⟩ : ByteArray)), false)))
     ((some (IntKind.i64.wrap ((s.size : Int) - 1))).bind fun v10 =>
     (subO s 1 v10).bind fun v11 =>
     bindS (S := (Unit)) (A := (T_Path × Bool))
      (loopF (S := (Int)) (O := (Unit) ⊕ (T_Path × Bool)) (fun (s24 : Int) =>
       cond ((decide (s24 < (v11.size : Int))))
        ((chrO v11 s24).bind fun v13 =>
        cond ((v13 == 64))
         ((subO v11 0 s24).bind fun v15 =>
         (some (IntKind.i64.wrap (s24 + 1))).bind fun v16 =>
         (subO v11 v16 (v11.size : Int)).bind fun v17 =>
         (wherryref11_Path (T_Path.mk false v15 v17)).bind fun v18 =>
         (wherryref11_keep (T_Path.mk false v15 v17) v18).bind fun v19 =>
         some (.inr (.inr ((v19.1, v19.2)))))
         ((some (IntKind.i64.wrap (s24 + 1))).bind fun v20 =>
         some (.inl v20)))
        (some (.inr (.inl ()))))
       BIG 0)
      (fun (() : Unit) =>
       some (((T_Path.mk false (⟨#[]⟩ : ByteArray) (⟨#[]⟩ : ByteArray)), false))) some)) some)

def wherrykeep_Bytes (a : (List Int)) (b : (List Int)) : Option Bool :=
 cond (((a.length : Int) != (b.length : Int)))
  (some (false))
  (bindS (S := (Unit)) (A := Bool)
   (loopF (S := (Int)) (O := (Unit) ⊕ Bool) (fun (s12 : Int) =>
    cond ((decide (s12 < (a.length : Int))))
     ((ixO s12 a.length).bind fun v3 =>
     (getO a v3).bind fun v4 =>
     (ixO s12 b.length).bind fun v5 =>
     (getO b v5).bind fun v6 =>
     cond ((v4 != v6))
      (some (.inr (.inr (false))))
      ((some (IntKind.i64.wrap (s12 + 1))).bind fun v8 =>
      some (.inl v8)))
     (some (.inr (.inl ()))))
    BIG 0)
   (fun (() : Unit) =>
    some (true)) some)

def wherryref11_ReadReport (b : (List Int)) : Option (ByteArray × T_Path × T_Path × Bool) :=
 (wherryref11_Lines b).bind fun v1 =>
 cond (((v1.length : Int) != 18))
  (some (((⟨#[]⟩ : ByteArray), (T_Path.mk false (⟨#[]⟩ : ByteArray) (⟨#[]⟩ : ByteArray)), (T_Path.mk false (⟨#[]⟩ : ByteArray) (⟨#[]⟩ : ByteArray)), false)))
  ((ixO 12 v1.length).bind fun v3 =>
  (getO v1 v3).bind fun v4 =>
  (some (bstr v4)).bind fun v5 =>
  (wherryref11_begins v5 (⟨#[114, 101, 112, 111, 114, 116, 105, 110, 103, 45, 109, 116, 97, 58, 32, 100, 110, 115, 59, 32]⟩ : ByteArray)).bind fun v6 =>
  (ixO 1 v1.length).bind fun v7 =>
  (getO v1 v7).bind fun v8 =>
  (some (bstr v8)).bind fun v9 =>
  (wherryref11_begins v9 (⟨#[116, 111, 58, 32]⟩ : ByteArray)).bind fun v10 =>
  (ixO 14 v1.length).bind fun v11 =>
  (getO v1 v11).bind fun v12 =>
  (some (bstr v12)).bind fun v13 =>
  (wherryref11_begins v13 (⟨#[102, 105, 110, 97, 108, 45, 114, 101, 99, 105, 112, 105, 101, 110, 116, 58, 32, 114, 102, 99, 56, 50, 50, 59, 32]⟩ : ByteArray)).bind fun v14 =>
  (wherryref11_Parse v10.1).bind fun v15 =>
  (wherryref11_Parse v14.1).bind fun v16 =>
  bindS (S := Bool) (A := (ByteArray × T_Path × T_Path × Bool))
   (cond ((!v6.2))
    (some (.inl true))
    (cond ((!v10.2))
     (some (.inl true))
     (cond ((!v14.2))
      (some (.inl true))
      (cond ((!v15.2))
       (some (.inl true))
       (cond ((!v16.2))
        (some (.inl true))
        ((wherryref11_RightReport v6.1 v15.1 v16.1).bind fun v17 =>
        cond ((!v17))
         (some (.inl true))
         ((wherryref11_Report v6.1 v15.1 v16.1).bind fun v18 =>
         (wherrykeep_Bytes v18 b).bind fun v19 =>
         some (.inl (!v19)))))))))
   (fun (s20 : Bool) =>
    cond (s20)
     (some (((⟨#[]⟩ : ByteArray), (T_Path.mk false (⟨#[]⟩ : ByteArray) (⟨#[]⟩ : ByteArray)), (T_Path.mk false (⟨#[]⟩ : ByteArray) (⟨#[]⟩ : ByteArray)), false)))
     (some ((v6.1, v15.1, v16.1, true)))) some)

def wherrylaw16_ReportExact (site : ByteArray) (sender : T_Path) (rcpt : T_Path) (b : (List Int)) : Option Bool :=
 bindS (S := Bool) (A := Bool)
  ((some (IntKind.i64.wrap ((site.size : Int) + (sender.Local.size : Int)))).bind fun v1 =>
  (some (IntKind.i64.wrap (v1 + (sender.Domain.size : Int)))).bind fun v2 =>
  (some (IntKind.i64.wrap (v2 + (rcpt.Local.size : Int)))).bind fun v3 =>
  (some (IntKind.i64.wrap (v3 + (rcpt.Domain.size : Int)))).bind fun v4 =>
  cond ((decide (2000 < v4)))
   (some (.inl true))
   (some (.inl ((decide (3000 < (b.length : Int)))))))
  (fun (s5 : Bool) =>
   cond (s5)
    (some (true))
    ((wherrykeep_Twin b).bind fun v10 =>
    (report_Build site sender rcpt).bind fun v11 =>
    (report_Read v10).bind fun v12 =>
    (wherryref11_ReadReport b).bind fun v13 =>
    (wherryref11_RightReport site sender rcpt).bind fun v14 =>
    bindS (S := Bool) (A := Bool)
     (cond (v14)
      (cond ((v11.2 != 0))
       (some (.inl true))
       ((wherryref11_Report site sender rcpt).bind fun v15 =>
       (wherrykeep_Bytes v11.1 v15).bind fun v16 =>
       cond ((!v16))
        (some (.inl true))
        (cond ((!v14))
         (cond ((v11.2 != 5))
          (some (.inl true))
          (some (.inl ((decide (0 < (v11.1.length : Int)))))))
         (some (.inl false)))))
      (cond ((!v14))
       (cond ((v11.2 != 5))
        (some (.inl true))
        (some (.inl ((decide (0 < (v11.1.length : Int)))))))
       (some (.inl false))))
     (fun (s17 : Bool) =>
      cond (s17)
       (some (false))
       (bindS (S := Bool) (A := Bool)
        ((some ((v12.2.2.2 == 0) == v13.2.2.2)).bind fun v22 =>
        cond (((v12.2.2.2 == 0) == v13.2.2.2))
         (cond (v13.2.2.2)
          (cond ((v12.1.toList == v13.1.toList))
           ((wherrykeep_Path v12.2.1 v13.2.1).bind fun v23 =>
           cond (v23)
            ((wherrykeep_Path v12.2.2.1 v13.2.2.1).bind fun v24 =>
            cond (v24)
             ((wherrykeep_Bytes v10 b).bind fun v25 =>
             cond (v25)
              ((wherrylaw16_wakes ).bind fun v26 =>
              some (.inl v26))
              (some (.inl false)))
             (some (.inl false)))
            (some (.inl false)))
           (some (.inl false)))
          (cond ((v12.2.2.2 == 5))
           (cond ((v12.1.toList == v13.1.toList))
            ((wherrykeep_Path v12.2.1 v13.2.1).bind fun v27 =>
            cond (v27)
             ((wherrykeep_Path v12.2.2.1 v13.2.2.1).bind fun v28 =>
             cond (v28)
              ((wherrykeep_Bytes v10 b).bind fun v29 =>
              cond (v29)
               ((wherrylaw16_wakes ).bind fun v30 =>
               some (.inl v30))
               (some (.inl false)))
              (some (.inl false)))
             (some (.inl false)))
            (some (.inl false)))
           (some (.inl false))))
         (some (.inl false)))
        (fun (s31 : Bool) =>
         some (s31)) some)) some)) some

end Go.Abs.Sh
