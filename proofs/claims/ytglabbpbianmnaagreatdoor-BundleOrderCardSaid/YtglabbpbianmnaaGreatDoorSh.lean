/-
 The program told in Lean: plain functions; none where Go would panic or a slice outgrow its room.
-/
import Derived.Test.YtglabbpbianmnaaGreatDoorAN
set_option linter.unusedVariables false
namespace Go.Abs.Sh

structure T_Path where
 Null : Bool
 Local : ByteArray
 Domain : ByteArray
 deriving DecidableEq, Inhabited
def T_Path.enc (x : T_Path) : List Value := [.bool x.Null, .string x.Local, .string x.Domain]
theorem T_Path.len (x : T_Path) : (T_Path.enc x).length = 3 := rfl
def T_Path.wf (x : T_Path) : Prop := True ∧ wfS x.Local ∧ wfS x.Domain
def T_Path.wz (x : T_Path) : Prop := True ∧ wzS x.Local ∧ wzS x.Domain

structure T_Mail where
 From : T_Path
 To : (List T_Path)
 Body : (List Int)
 Quiet : Bool
 Helo : ByteArray
 At : Int
 deriving DecidableEq, Inhabited
def T_Mail.ienc (x : T_Mail) : List IC := [.v (.bool x.From.Null), .v (.string x.From.Local), .v (.string x.From.Domain), .row 3 (List.map IC.v (List.flatten (List.map T_Path.enc x.To))), .row 1 (List.map IC.v (List.map (Value.int .u8) x.Body)), .v (.bool x.Quiet), .v (.string x.Helo), .v (.int .i64 x.At)]
theorem T_Mail.ilen (x : T_Mail) : (T_Mail.ienc x).length = 8 := rfl
def T_Mail.wf (x : T_Mail) : Prop := T_Path.wf x.From ∧ wfL T_Path.wf x.To ∧ wfL (wfI .u8) x.Body ∧ True ∧ wfS x.Helo ∧ wfI .i64 x.At
def T_Mail.wz (x : T_Mail) : Prop := T_Path.wz x.From ∧ (wzL 40 T_Path.wz) x.To ∧ (wzL 1 (wfI .u8)) x.Body ∧ True ∧ wzS x.Helo ∧ (wfI .i64) x.At

structure T_Bundle where
 Origin : Int
 Number : Int
 Mails : (List T_Mail)
 deriving DecidableEq, Inhabited
def T_Bundle.ienc (x : T_Bundle) : List IC := [.v (.int .i64 x.Origin), .v (.int .i64 x.Number), .row 8 (List.flatten (List.map T_Mail.ienc x.Mails))]
theorem T_Bundle.ilen (x : T_Bundle) : (T_Bundle.ienc x).length = 3 := rfl
def T_Bundle.wf (x : T_Bundle) : Prop := wfI .i64 x.Origin ∧ wfI .i64 x.Number ∧ wfL T_Mail.wf x.Mails
def T_Bundle.wz (x : T_Bundle) : Prop := (wfI .i64) x.Origin ∧ (wfI .i64) x.Number ∧ (wzL 120 T_Mail.wz) x.Mails

structure T_bundle_header where
 origin : Int
 number : Int
 size : Int
 sum : Int
 deriving DecidableEq, Inhabited
def T_bundle_header.enc (x : T_bundle_header) : List Value := [.int .i64 x.origin, .int .i64 x.number, .int .i64 x.size, .int .i64 x.sum]
theorem T_bundle_header.len (x : T_bundle_header) : (T_bundle_header.enc x).length = 4 := rfl
def T_bundle_header.wf (x : T_bundle_header) : Prop := wfI .i64 x.origin ∧ wfI .i64 x.number ∧ wfI .i64 x.size ∧ wfI .i64 x.sum
def T_bundle_header.wz (x : T_bundle_header) : Prop := (wfI .i64) x.origin ∧ (wfI .i64) x.number ∧ (wfI .i64) x.size ∧ (wfI .i64) x.sum

def wherrylaw17_Heavy (l : (List T_Mail)) : Option Bool :=
 cond ((decide (20 < (l.length : Int))))
  (some (true))
  (bindS (S := (Int)) (A := Bool)
   (loopF (S := (Int × Int)) (O := (Int) ⊕ Bool) (fun ((s66, s67) : Int × Int) =>
    cond ((decide (s67 < (l.length : Int))))
     ((ixO s67 l.length).bind fun v3 =>
     (getO l v3).bind fun v4 =>
     (some (IntKind.i64.wrap (s66 + (v4.Body.length : Int)))).bind fun v5 =>
     (ixO s67 l.length).bind fun v6 =>
     (getO l v6).bind fun v7 =>
     (some (IntKind.i64.wrap (v5 + (v7.Helo.size : Int)))).bind fun v8 =>
     (ixO s67 l.length).bind fun v9 =>
     (getO l v9).bind fun v10 =>
     (some (IntKind.i64.wrap (v8 + (v10.From.Local.size : Int)))).bind fun v11 =>
     (ixO s67 l.length).bind fun v12 =>
     (getO l v12).bind fun v13 =>
     (some (IntKind.i64.wrap (v11 + (v13.From.Domain.size : Int)))).bind fun v14 =>
     (ixO s67 l.length).bind fun v15 =>
     (getO l v15).bind fun v16 =>
     cond ((decide (40 < (v16.To.length : Int))))
      (some (.inr (.inr (true))))
      (bindS (S := (Int)) (A := ((Int × Int) ⊕ ((Int) ⊕ Bool)))
       (loopF (S := (Int × Int)) (O := (Int) ⊕ ((Int × Int) ⊕ ((Int) ⊕ Bool))) (fun ((s98, s99) : Int × Int) =>
        (ixO s67 l.length).bind fun v18 =>
        (getO l v18).bind fun v19 =>
        cond ((decide (s99 < (v19.To.length : Int))))
         ((ixO s67 l.length).bind fun v21 =>
         (getO l v21).bind fun v22 =>
         (ixO s99 v22.To.length).bind fun v23 =>
         (getO v22.To v23).bind fun v24 =>
         (some (IntKind.i64.wrap (s98 + (v24.Local.size : Int)))).bind fun v25 =>
         (ixO s67 l.length).bind fun v26 =>
         (getO l v26).bind fun v27 =>
         (ixO s99 v27.To.length).bind fun v28 =>
         (getO v27.To v28).bind fun v29 =>
         (some (IntKind.i64.wrap (v25 + (v29.Domain.size : Int)))).bind fun v30 =>
         (some (IntKind.i64.wrap (s99 + 1))).bind fun v31 =>
         some (.inl (v30, v31)))
         (some (.inr (.inl s98))))
        BIG (v14, 0))
       (fun (s101 : Int) =>
        (some (IntKind.i64.wrap (s67 + 1))).bind fun v46 =>
        some (.inl (s101, v46))) some))
     (some (.inr (.inl s66))))
    BIG (0, 0))
   (fun (s85 : Int) =>
    some ((decide (20000 < s85)))) some)

def strings_splitSeq (s : ByteArray) (sep : ByteArray) (sepSave : Int) : Option (ByteArray × ByteArray × Int) :=
 some ((sep, s, sepSave))

def strings_SplitSeq (s : ByteArray) (sep : ByteArray) : Option (ByteArray × ByteArray × Int) :=
 (strings_splitSeq s sep 0).bind fun v1 =>
 some ((v1.1, v1.2.1, v1.2.2))

set_option maxRecDepth 100000 in
def utf8_first : List Int := (240 :: 240 :: 240 :: 240 :: 240 :: 240 :: 240 :: 240 :: 240 :: 240 :: 240 :: 240 :: 240 :: 240 :: 240 :: 240 :: 240 :: 240 :: 240 :: 240 :: 240 :: 240 :: 240 :: 240 :: 240 :: 240 :: 240 :: 240 :: 240 :: 240 :: 240 :: 240 :: 240 :: 240 :: 240 :: 240 :: 240 :: 240 :: 240 :: 240 :: 240 :: 240 :: 240 :: 240 :: 240 :: 240 :: 240 :: 240 :: 240 :: 240 :: 240 :: 240 :: 240 :: 240 :: 240 :: 240 :: 240 :: 240 :: 240 :: 240 :: 240 :: 240 :: 240 :: 240 :: 240 :: 240 :: 240 :: 240 :: 240 :: 240 :: 240 :: 240 :: 240 :: 240 :: 240 :: 240 :: 240 :: 240 :: 240 :: 240 :: 240 :: 240 :: 240 :: 240 :: 240 :: 240 :: 240 :: 240 :: 240 :: 240 :: 240 :: 240 :: 240 :: 240 :: 240 :: 240 :: 240 :: 240 :: 240 :: 240 :: 240 :: 240 :: 240 :: 240 :: 240 :: 240 :: 240 :: 240 :: 240 :: 240 :: 240 :: 240 :: 240 :: 240 :: 240 :: 240 :: 240 :: 240 :: 240 :: 240 :: 240 :: 240 :: 240 :: 240 :: 240 :: 240 :: 240 :: 240 :: 241 :: 241 :: 241 :: 241 :: 241 :: 241 :: 241 :: 241 :: 241 :: 241 :: 241 :: 241 :: 241 :: 241 :: 241 :: 241 :: 241 :: 241 :: 241 :: 241 :: 241 :: 241 :: 241 :: 241 :: 241 :: 241 :: 241 :: 241 :: 241 :: 241 :: 241 :: 241 :: 241 :: 241 :: 241 :: 241 :: 241 :: 241 :: 241 :: 241 :: 241 :: 241 :: 241 :: 241 :: 241 :: 241 :: 241 :: 241 :: 241 :: 241 :: 241 :: 241 :: 241 :: 241 :: 241 :: 241 :: 241 :: 241 :: 241 :: 241 :: 241 :: 241 :: 241 :: 241 :: 241 :: 241 :: 2 :: 2 :: 2 :: 2 :: 2 :: 2 :: 2 :: 2 :: 2 :: 2 :: 2 :: 2 :: 2 :: 2 :: 2 :: 2 :: 2 :: 2 :: 2 :: 2 :: 2 :: 2 :: 2 :: 2 :: 2 :: 2 :: 2 :: 2 :: 2 :: 2 :: 19 :: 3 :: 3 :: 3 :: 3 :: 3 :: 3 :: 3 :: 3 :: 3 :: 3 :: 3 :: 3 :: 35 :: 3 :: 3 :: 52 :: 4 :: 4 :: 4 :: 68 :: 241 :: 241 :: 241 :: 241 :: 241 :: 241 :: 241 :: 241 :: 241 :: 241 :: 241 :: [])

set_option maxRecDepth 100000 in
def utf8_accept : List Int := (128 :: 191 :: 160 :: 191 :: 128 :: 159 :: 144 :: 191 :: 128 :: 143 :: 0 :: 0 :: 0 :: 0 :: 0 :: 0 :: 0 :: 0 :: 0 :: 0 :: 0 :: 0 :: 0 :: 0 :: 0 :: 0 :: 0 :: 0 :: 0 :: 0 :: 0 :: 0 :: [])

def unicode_utf8_decodeRuneInStringSlow (s : ByteArray) : Option (Int × Int) :=
 cond ((decide ((s.size : Int) < 1)))
  (some ((65533, 0)))
  ((chrO s 0).bind fun v2 =>
  (ixO v2 256).bind fun v3 =>
  (getO utf8_first (0 + v3 * 1)).bind fun v4 =>
  cond ((decide (240 ≤ v4)))
   ((some (IntKind.i32.wrap v4)).bind fun v6 =>
   (shlO .i32 v6 31).bind fun v7 =>
   (shrO .i32 v7 31).bind fun v8 =>
   (chrO s 0).bind fun v9 =>
   (some (IntKind.i32.wrap v9)).bind fun v10 =>
   (some (bits .andNot .i32 v10 v8)).bind fun v11 =>
   (some (bits .and .i32 65533 v8)).bind fun v12 =>
   (some (bits .or .i32 v11 v12)).bind fun v13 =>
   some ((v13, 1)))
   (none))

def unicode_utf8_DecodeRuneInString (s : ByteArray) : Option (Int × Int) :=
 bindS (S := Bool) (A := (Int × Int))
  (cond ((!(s.toList == (⟨#[]⟩ : ByteArray).toList)))
   ((chrO s 0).bind fun v1 =>
   some (.inl ((decide (v1 < 128)))))
   (some (.inl false)))
  (fun (s2 : Bool) =>
   cond (s2)
    ((chrO s 0).bind fun v7 =>
    (some (IntKind.i32.wrap v7)).bind fun v8 =>
    some ((v8, 1)))
    ((unicode_utf8_decodeRuneInStringSlow s).bind fun v9 =>
    some ((v9.1, v9.2)))) some

def strings_splitSeq_1 {S : Type} (Y : ByteArray → S → Option (S × Bool)) (c0 : ByteArray) (c1 : ByteArray) (c2 : Int) (st : S) : Option S :=
 cond (((c0.size : Int) == 0))
  (bindS (S := (S)) (A := S)
   (loopF (S := (ByteArray × S)) (O := (S) ⊕ S) (fun ((s12, s13) : ByteArray × S) =>
    cond ((decide (0 < (s12.size : Int))))
     ((unicode_utf8_DecodeRuneInString s12).bind fun v3 =>
     (subO s12 0 v3.2).bind fun v4 =>
     (Y v4 s13).bind fun v5 =>
     cond ((!v5.2))
      (some (.inr (.inr (v5.1))))
      ((subO s12 v3.2 (s12.size : Int)).bind fun v7 =>
      some (.inl (v7, v5.1))))
     (some (.inr (.inl s13))))
    BIG (c1, st))
   (fun (s16 : S) =>
    some (s16)) some)
  (bindS (S := (ByteArray × S)) (A := S)
   (loopF (S := (ByteArray × S)) (O := (ByteArray × S) ⊕ S) (fun ((s37, s38) : ByteArray × S) =>
    (strings_Index s37 c0).bind fun v25 =>
    cond ((decide (v25 < 0)))
     (some (.inr (.inl (s37, s38))))
     ((some (IntKind.i64.wrap (v25 + c2))).bind fun v27 =>
     (subO s37 0 v27).bind fun v28 =>
     (Y v28 s38).bind fun v29 =>
     cond ((!v29.2))
      (some (.inr (.inr (v29.1))))
      ((some (IntKind.i64.wrap (v25 + (c0.size : Int)))).bind fun v31 =>
      (subO s37 v31 (s37.size : Int)).bind fun v32 =>
      some (.inl (v32, v29.1)))))
    BIG (c1, st))
   (fun ((s41, s42) : ByteArray × S) =>
    (Y s41 s42).bind fun v51 =>
    some (v51.1)) some)

def path_alphanumeric (c : Int) : Option Bool :=
 bindS (S := Bool) (A := Bool)
  (cond ((decide (48 ≤ c)))
   (cond ((decide (c ≤ 57)))
    (some (.inl true))
    (cond ((decide (65 ≤ c)))
     (cond ((decide (c ≤ 90)))
      (some (.inl true))
      (cond ((decide (97 ≤ c)))
       (some (.inl ((decide (c ≤ 122)))))
       (some (.inl false))))
     (cond ((decide (97 ≤ c)))
      (some (.inl ((decide (c ≤ 122)))))
      (some (.inl false)))))
   (cond ((decide (65 ≤ c)))
    (cond ((decide (c ≤ 90)))
     (some (.inl true))
     (cond ((decide (97 ≤ c)))
      (some (.inl ((decide (c ≤ 122)))))
      (some (.inl false))))
    (cond ((decide (97 ≤ c)))
     (some (.inl ((decide (c ≤ 122)))))
     (some (.inl false)))))
  (fun (s1 : Bool) =>
   some (s1)) some

def path_atom_1 (c : Int) : Option Bool :=
 bindS (S := Bool) (A := Bool)
  ((path_alphanumeric c).bind fun v1 =>
  cond (v1)
   (some (.inl true))
   ((strings_IndexByte (⟨#[33, 35, 36, 37, 38, 39, 42, 43, 45, 47, 61, 63, 94, 95, 96, 123, 124, 125, 126]⟩ : ByteArray) c).bind fun v2 =>
   some (.inl ((decide (0 ≤ v2))))))
  (fun (s3 : Bool) =>
   some (s3)) some

def path_all_of_path_atom_1 (s : ByteArray) : Option Bool :=
 bindS (S := (Unit)) (A := Bool)
  (loopF (S := (Int)) (O := (Unit) ⊕ Bool) (fun (s9 : Int) =>
   cond ((decide (s9 < (s.size : Int))))
    ((chrO s s9).bind fun v2 =>
    (path_atom_1 v2).bind fun v3 =>
    cond ((!v3))
     (some (.inr (.inr (false))))
     ((some (IntKind.i64.wrap (s9 + 1))).bind fun v5 =>
     some (.inl v5)))
    (some (.inr (.inl ()))))
   BIG 0)
  (fun (() : Unit) =>
   some (true)) some

def path_atom (s : ByteArray) : Option Bool :=
 bindS (S := Bool) (A := Bool)
  (cond ((!(s.toList == (⟨#[]⟩ : ByteArray).toList)))
   ((path_all_of_path_atom_1 s).bind fun v1 =>
   some (.inl v1))
   (some (.inl false)))
  (fun (s2 : Bool) =>
   some (s2)) some

def path_dotted_of_path_atom (s : ByteArray) : Option Bool :=
 (strings_SplitSeq s (⟨#[46]⟩ : ByteArray)).bind fun v1 =>
 bindS (S := (Unit)) (A := (Unit))
  (rangeS (S := (Unit)) (O := (Unit)) (fun Y st => Sh.strings_splitSeq_1 Y v1.1 v1.2.1 v1.2.2 st) (fun (x : ByteArray) (() : Unit) =>
   (path_atom x).bind fun v2 =>
   cond ((!v2))
    (some (.inr ()))
    (some (.inl ())))
   ())
  (fun (() : Unit) =>
   some (true))
  (fun (() : Unit) =>
   some (false))

def path_local (s : ByteArray) : Option Bool :=
 bindS (S := Bool) (A := Bool)
  (cond ((decide ((s.size : Int) ≤ 64)))
   ((path_dotted_of_path_atom s).bind fun v1 =>
   some (.inl v1))
   (some (.inl false)))
  (fun (s2 : Bool) =>
   some (s2)) some

def path_label_1 (c : Int) : Option Bool :=
 bindS (S := Bool) (A := Bool)
  ((path_alphanumeric c).bind fun v1 =>
  cond (v1)
   (some (.inl true))
   (some (.inl (c == 45))))
  (fun (s2 : Bool) =>
   some (s2)) some

def path_all_of_path_label_1 (s : ByteArray) : Option Bool :=
 bindS (S := (Unit)) (A := Bool)
  (loopF (S := (Int)) (O := (Unit) ⊕ Bool) (fun (s9 : Int) =>
   cond ((decide (s9 < (s.size : Int))))
    ((chrO s s9).bind fun v2 =>
    (path_label_1 v2).bind fun v3 =>
    cond ((!v3))
     (some (.inr (.inr (false))))
     ((some (IntKind.i64.wrap (s9 + 1))).bind fun v5 =>
     some (.inl v5)))
    (some (.inr (.inl ()))))
   BIG 0)
  (fun (() : Unit) =>
   some (true)) some

def path_label (s : ByteArray) : Option Bool :=
 bindS (S := Bool) (A := Bool)
  (cond ((!(s.toList == (⟨#[]⟩ : ByteArray).toList)))
   (cond ((decide ((s.size : Int) ≤ 63)))
    ((chrO s 0).bind fun v1 =>
    cond ((v1 != 45))
     ((some (IntKind.i64.wrap ((s.size : Int) - 1))).bind fun v2 =>
     (chrO s v2).bind fun v3 =>
     cond ((v3 != 45))
      ((path_all_of_path_label_1 s).bind fun v4 =>
      some (.inl v4))
      (some (.inl false)))
     (some (.inl false)))
    (some (.inl false)))
   (some (.inl false)))
  (fun (s5 : Bool) =>
   some (s5)) some

def path_dotted_of_path_label (s : ByteArray) : Option Bool :=
 (strings_SplitSeq s (⟨#[46]⟩ : ByteArray)).bind fun v1 =>
 bindS (S := (Unit)) (A := (Unit))
  (rangeS (S := (Unit)) (O := (Unit)) (fun Y st => Sh.strings_splitSeq_1 Y v1.1 v1.2.1 v1.2.2 st) (fun (x : ByteArray) (() : Unit) =>
   (path_label x).bind fun v2 =>
   cond ((!v2))
    (some (.inr ()))
    (some (.inl ())))
   ())
  (fun (() : Unit) =>
   some (true))
  (fun (() : Unit) =>
   some (false))

def path_Domain (s : ByteArray) : Option Bool :=
 bindS (S := Bool) (A := Bool)
  (cond ((decide ((s.size : Int) ≤ 255)))
   ((path_dotted_of_path_label s).bind fun v1 =>
   some (.inl v1))
   (some (.inl false)))
  (fun (s2 : Bool) =>
   some (s2)) some

def path_Check (p : T_Path) : Option Int :=
 bindS (S := Bool) (A := Int)
  (cond ((!p.Null))
   ((path_local p.Local).bind fun v1 =>
   cond (v1)
    ((path_Domain p.Domain).bind fun v2 =>
    some (.inl v2))
    (some (.inl false)))
   (some (.inl false)))
  (fun (s3 : Bool) =>
   bindS (S := Bool) (A := Int)
    (cond ((!(((p.Null == true) && ((p.Local.toList == (⟨#[]⟩ : ByteArray).toList) && ((p.Domain.toList == (⟨#[]⟩ : ByteArray).toList) && true))))))
     (some (.inl (!s3)))
     (some (.inl false)))
    (fun (s7 : Bool) =>
     cond (s7)
      (some (5))
      (some (0))) some) some

def envelope_Valid (m : T_Mail) : Option Bool :=
 bindS (S := Bool) (A := Bool)
  ((path_Check (T_Path.mk m.From.Null m.From.Local m.From.Domain)).bind fun v1 =>
  cond ((v1 != 0))
   (some (.inl true))
   (cond ((decide ((m.To.length : Int) < 1)))
    (some (.inl true))
    (some (.inl ((decide (8 < (m.To.length : Int))))))))
  (fun (s2 : Bool) =>
   cond (s2)
    (some (false))
    (bindS (S := (Unit)) (A := Bool)
     (loopF (S := (Int)) (O := (Unit) ⊕ Bool) (fun (s24 : Int) =>
      cond ((decide (s24 < (m.To.length : Int))))
       ((ixO s24 m.To.length).bind fun v8 =>
       (getO m.To v8).bind fun v9 =>
       bindS (S := Bool) (A := ((Int) ⊕ ((Unit) ⊕ Bool)))
        ((path_Check v9).bind fun v10 =>
        cond ((v10 != 0))
         (some (.inl true))
         (some (.inl v9.Null)))
        (fun (s38 : Bool) =>
         cond (s38)
          (some (.inr (.inr (false))))
          ((some (IntKind.i64.wrap (s24 + 1))).bind fun v16 =>
          some (.inl v16))) some)
       (some (.inr (.inl ()))))
      BIG 0)
     (fun (() : Unit) =>
      some (true)) some)) some

def dots_lines (b : (List Int)) : Option (List Int) :=
 some (b)

def bytes_Cut_sh (s : (List Int)) (sep : (List Int)) : Option ((List Int) × (List Int) × Bool) :=
 (bytes_Index s sep).bind fun v1 =>
 cond ((decide (0 ≤ v1)))
  ((sliO s 0 v1).bind fun v3 =>
  (some (IntKind.i64.wrap (v1 + (sep.length : Int)))).bind fun v4 =>
  (sliO s v4 (s.length : Int)).bind fun v5 =>
  some ((v3, v5, true)))
  (some ((s, [], false)))

def dots_lines_1 {S : Type} (Y : (List Int) → S → Option (S × Bool)) (c0 : (List Int)) (st : S) : Option S :=
 bindS (S := (Unit)) (A := S)
  (loopF (S := ((List Int) × S)) (O := (Unit) ⊕ S) (fun ((s17, s18) : (List Int) × S) =>
   (bytes_Cut_sh s17 [13, 10]).bind fun v1 =>
   bindS (S := S × Bool) (A := (((List Int) × S) ⊕ ((Unit) ⊕ S)))
    (cond ((!v1.2.2))
     (some (.inl (s18, true)))
     ((Y v1.1 s18).bind fun v2 =>
     some (.inl ((v2.1, (!v2.2))))))
    (fun ((s31, s32) : S × Bool) =>
     cond (s32)
      (some (.inr (.inr (s31))))
      (some (.inl (v1.2.1, s31)))) some)
   BIG (c0, st))
  (fun (() : Unit) =>
   none) some

def bytes_ContainsAny (b : (List Int)) (chars : ByteArray) : Option Bool :=
 (bytes_IndexAny b chars).bind fun v1 =>
 some ((decide (0 ≤ v1)))

def dots_Check (b : (List Int)) : Option Int :=
 (dots_lines b).bind fun v1 =>
 bindS (S := (Int)) (A := (Int))
  (rangeS (S := (Int)) (O := (Int)) (fun Y st => Sh.dots_lines_1 Y v1 st) (fun (x : (List Int)) (s8 : Int) =>
   (bytes_ContainsAny x (⟨#[13, 10]⟩ : ByteArray)).bind fun v2 =>
   cond (v2)
    (some (.inr s8))
    ((some (IntKind.i64.wrap ((x.length : Int) + 2))).bind fun v4 =>
    (some (IntKind.i64.wrap (s8 + v4))).bind fun v5 =>
    some (.inl v5)))
   0)
  (fun (s8 : Int) =>
   cond ((s8 != (b.length : Int)))
    (some (5))
    (some (0)))
  (fun (s10 : Int) =>
   some (5))

def bundle_validMail (m : T_Mail) : Option Bool :=
 bindS (S := Bool) (A := Bool)
  ((envelope_Valid ((T_Mail.mk (T_Path.mk m.From.Null m.From.Local m.From.Domain) m.To m.Body m.Quiet m.Helo m.At))).bind fun v1 =>
  cond (v1)
   (cond ((decide ((m.Body.length : Int) ≤ 4096)))
    ((dots_Check m.Body).bind fun v2 =>
    some (.inl (v2 == 0)))
    (some (.inl false)))
   (some (.inl false)))
  (fun (s3 : Bool) =>
   some (s3)) some

def bundle_Check (b : T_Bundle) : Option Int :=
 bindS (S := Bool) (A := Int)
  (cond ((b.Origin != 0))
   (cond ((b.Origin != 1))
    (some (.inl true))
    (cond ((decide (b.Number < 1)))
     (some (.inl true))
     (some (.inl ((decide (65535 < b.Number)))))))
   (cond ((decide (b.Number < 1)))
    (some (.inl true))
    (some (.inl ((decide (65535 < b.Number)))))))
  (fun (s1 : Bool) =>
   cond (s1)
    (some (5))
    (bindS (S := Bool) (A := Int)
     (cond ((decide ((b.Mails.length : Int) < 1)))
      (some (.inl true))
      (some (.inl ((decide (4 < (b.Mails.length : Int)))))))
     (fun (s6 : Bool) =>
      cond (s6)
       (some (5))
       (bindS (S := (Unit)) (A := Int)
        (loopF (S := (Int)) (O := (Unit) ⊕ Int) (fun (s28 : Int) =>
         cond ((decide (s28 < (b.Mails.length : Int))))
          ((ixO s28 b.Mails.length).bind fun v12 =>
          (getO b.Mails v12).bind fun v13 =>
          bindS (S := Bool) (A := ((Int) ⊕ ((Unit) ⊕ Int)))
           ((bundle_validMail ((T_Mail.mk (T_Path.mk v13.From.Null v13.From.Local v13.From.Domain) v13.To v13.Body v13.Quiet v13.Helo v13.At))).bind fun v14 =>
           cond ((!v14))
            (some (.inl true))
            (cond (v13.Quiet)
             (some (.inl true))
             (cond ((!(v13.Helo.toList == (⟨#[]⟩ : ByteArray).toList)))
              (some (.inl true))
              (some (.inl (v13.At != 0))))))
           (fun (s42 : Bool) =>
            cond (s42)
             (some (.inr (.inr (5))))
             ((some (IntKind.i64.wrap (s28 + 1))).bind fun v20 =>
             some (.inl v20))) some)
          (some (.inr (.inl ()))))
         BIG 0)
        (fun (() : Unit) =>
         some (0)) some)) some)) some

def path_Text (p : T_Path) : Option (ByteArray × Int) :=
 (path_Check p).bind fun v1 =>
 cond ((v1 != 0))
  (some (((⟨#[]⟩ : ByteArray), v1)))
  (cond (p.Null)
   (some (((⟨#[60, 62]⟩ : ByteArray), 0)))
   ((catO (⟨#[60]⟩ : ByteArray) p.Local).bind fun v4 =>
   (catO v4 (⟨#[64]⟩ : ByteArray)).bind fun v5 =>
   (catO v5 p.Domain).bind fun v6 =>
   (catO v6 (⟨#[62]⟩ : ByteArray)).bind fun v7 =>
   some ((v7, 0))))

def bundle_commands_1_clo (word : ByteArray) (p : T_Path) (cap : (List Int)) : Option (List Int) :=
 (path_Text p).bind fun v1 =>
 (catO word v1.1).bind fun v2 =>
 (catO v2 (⟨#[13, 10]⟩ : ByteArray)).bind fun v3 =>
 (appO 1 cap (sbytes v3)).bind fun v4 =>
 some (v4)

def bytes_Equal (a : (List Int)) (b : (List Int)) : Option Bool :=
 (some (bstr a)).bind fun v1 =>
 (some (bstr b)).bind fun v2 =>
 some ((v1.toList == v2.toList))

def bytes_HasPrefix (s : (List Int)) (prefix_ : (List Int)) : Option Bool :=
 bindS (S := Bool) (A := Bool)
  (cond ((decide ((prefix_.length : Int) ≤ (s.length : Int))))
   ((sliO s 0 (prefix_.length : Int)).bind fun v1 =>
   (bytes_Equal v1 prefix_).bind fun v2 =>
   some (.inl v2))
   (some (.inl false)))
  (fun (s3 : Bool) =>
   some (s3)) some

def dots_Stuff (b : (List Int)) : Option ((List Int) × Int) :=
 (dots_Check b).bind fun v1 =>
 cond ((v1 != 0))
  (some (([], v1)))
  ((dots_lines b).bind fun v3 =>
  bindS (S := ((List Int))) (A := (Unit))
   (rangeS (S := ((List Int))) (O := (Unit)) (fun Y st => Sh.dots_lines_1 Y v3 st) (fun (x : (List Int)) (s21 : (List Int)) =>
    bindS (S := (List Int)) (A := (((List Int)) ⊕ (Unit)))
     ((bytes_HasPrefix x [46]).bind fun v4 =>
     cond (v4)
      ((appO 1 s21 (sbytes (⟨#[46]⟩ : ByteArray))).bind fun v6 =>
      some (.inl v6))
      (some (.inl s21)))
     (fun (s29 : (List Int)) =>
      (appO 1 s29 x).bind fun v12 =>
      (appO 1 v12 (sbytes (⟨#[13, 10]⟩ : ByteArray))).bind fun v13 =>
      some (.inl v13)) some)
    [])
   (fun (s21 : (List Int)) =>
    (appO 1 s21 (sbytes (⟨#[46, 13, 10]⟩ : ByteArray))).bind fun v34 =>
    some ((v34, 0)))
   (fun (() : Unit) =>
    none))

def bundle_commands (mails : (List T_Mail)) : Option (List Int) :=
 bindS (S := ((List Int))) (A := (List Int))
  (loopF (S := ((List Int) × Int)) (O := ((List Int)) ⊕ (List Int)) (fun ((s46, s47) : (List Int) × Int) =>
   cond ((decide (s47 < (mails.length : Int))))
    ((ixO s47 mails.length).bind fun v2 =>
    (getO mails v2).bind fun v3 =>
    (bundle_commands_1_clo (⟨#[77, 65, 73, 76, 32, 70, 82, 79, 77, 58]⟩ : ByteArray) (T_Path.mk v3.From.Null v3.From.Local v3.From.Domain) s46).bind fun v4 =>
    bindS (S := ((List Int))) (A := (((List Int) × Int) ⊕ (((List Int)) ⊕ (List Int))))
     (loopF (S := ((List Int) × Int)) (O := ((List Int)) ⊕ (((List Int) × Int) ⊕ (((List Int)) ⊕ (List Int)))) (fun ((s76, s77) : (List Int) × Int) =>
      cond ((decide (s77 < (v3.To.length : Int))))
       ((ixO s77 v3.To.length).bind fun v6 =>
       (getO v3.To v6).bind fun v7 =>
       (bundle_commands_1_clo (⟨#[82, 67, 80, 84, 32, 84, 79, 58]⟩ : ByteArray) v7 s76).bind fun v8 =>
       (some (IntKind.i64.wrap (s77 + 1))).bind fun v9 =>
       some (.inl (v8, v9)))
       (some (.inr (.inl s76))))
      BIG (v4, 0))
     (fun (s79 : (List Int)) =>
      (appO 1 s79 (sbytes (⟨#[68, 65, 84, 65, 13, 10]⟩ : ByteArray))).bind fun v24 =>
      (dots_Stuff v3.Body).bind fun v25 =>
      (appO 1 v24 v25.1).bind fun v26 =>
      (some (IntKind.i64.wrap (s47 + 1))).bind fun v27 =>
      some (.inl (v26, v27))) some)
    (some (.inr (.inl s46))))
   BIG ([], 0))
  (fun (s64 : (List Int)) =>
   (appO 1 s64 (sbytes (⟨#[81, 85, 73, 84, 13, 10]⟩ : ByteArray))).bind fun v87 =>
   some (v87)) some

def sums_table (divisor : Int) : Option (List Int) :=
 bindS (S := ((List Int))) (A := (List Int))
  (loopF (S := ((List Int) × Int)) (O := ((List Int)) ⊕ (List Int)) (fun ((s91, s92) : (List Int) × Int) =>
   cond ((decide (s92 < 16)))
    ((some (IntKind.u32.wrap s92)).bind fun v2 =>
    bindS (S := (Int)) (A := (((List Int) × Int) ⊕ (((List Int)) ⊕ (List Int))))
     (loopF (S := (Int × Int)) (O := (Int) ⊕ (((List Int) × Int) ⊕ (((List Int)) ⊕ (List Int)))) (fun ((s157, s158) : Int × Int) =>
      cond ((decide (s158 < 4)))
       (bindS (S := Int) (A := ((Int × Int) ⊕ ((Int) ⊕ (((List Int) × Int) ⊕ (((List Int)) ⊕ (List Int))))))
        ((some (bits .and .u32 s157 1)).bind fun v4 =>
        (shrO .u32 s157 1).bind fun v5 =>
        cond ((v4 == 1))
         ((some (bits .xor .u32 v5 divisor)).bind fun v7 =>
         some (.inl v7))
         (some (.inl v5)))
        (fun (s175 : Int) =>
         (some (IntKind.i64.wrap (s158 + 1))).bind fun v13 =>
         some (.inl (s175, v13))) some)
       (some (.inr (.inl s157))))
      BIG (v2, 0))
     (fun (s166 : Int) =>
      (ixO s92 16).bind fun v46 =>
      (setO s91 v46 s166).bind fun v47 =>
      (some (IntKind.i64.wrap (s92 + 1))).bind fun v48 =>
      some (.inl (v47, v48))) some)
    (some (.inr (.inl s91))))
   BIG (((List.replicate 16 (0 : Int)), 0)))
  (fun (s133 : (List Int)) =>
   (lnO 16 s133).bind fun v180 =>
   (lnO 16 ((List.replicate 16 (0 : Int)))).bind fun v181 =>
   (lnO 16 s133).bind fun v182 =>
   (lnO 16 s133).bind fun v183 =>
   some (s133)) some

def sums_sum (b : (List Int)) (width : Int) (divisor : Int) : Option Int :=
 (sums_table divisor).bind fun v1 =>
 (lnO 16 ((List.replicate 16 (0 : Int)))).bind fun v2 =>
 (lnO 16 v1).bind fun v3 =>
 (shlO .u32 1 width).bind fun v4 =>
 (some (IntKind.u32.wrap (v4 - 1))).bind fun v5 =>
 bindS (S := (Int)) (A := Int)
  (loopF (S := (Int × Int)) (O := (Int) ⊕ Int) (fun ((s25, s26) : Int × Int) =>
   cond ((decide (s26 < (b.length : Int))))
    ((ixO s26 b.length).bind fun v7 =>
    (getO b v7).bind fun v8 =>
    (some (IntKind.u32.wrap v8)).bind fun v9 =>
    (some (bits .xor .u32 s25 v9)).bind fun v10 =>
    (shrO .u32 v10 4).bind fun v11 =>
    (remO v10 16).bind fun v12 =>
    (ixO v12 16).bind fun v13 =>
    (getO v1 v13).bind fun v14 =>
    (some (bits .xor .u32 v11 v14)).bind fun v15 =>
    (shrO .u32 v15 4).bind fun v16 =>
    (remO v15 16).bind fun v17 =>
    (ixO v17 16).bind fun v18 =>
    (getO v1 v18).bind fun v19 =>
    (some (bits .xor .u32 v16 v19)).bind fun v20 =>
    (some (IntKind.i64.wrap (s26 + 1))).bind fun v21 =>
    some (.inl (v20, v21)))
    (some (.inr (.inl s25))))
   BIG (v5, 0))
  (fun (s28 : Int) =>
   (some (bits .xor .u32 s28 v5)).bind fun v36 =>
   (some (IntKind.i64.wrap v36)).bind fun v37 =>
   some (v37)) some

def sums_Long (b : (List Int)) : Option Int :=
 (sums_sum b 32 3988292384).bind fun v1 =>
 some (v1)

set_option maxRecDepth 100000 in
def strconv_pow10 : List Int := (1 :: 10 :: 100 :: 1000 :: 10000 :: 100000 :: 1000000 :: 10000000 :: 100000000 :: 1000000000 :: 10000000000 :: 100000000000 :: 1000000000000 :: 10000000000000 :: 100000000000000 :: 1000000000000000 :: 10000000000000000 :: 100000000000000000 :: 1000000000000000000 :: 10000000000000000000 :: [])

def bundle_Bytes (b : T_Bundle) : Option ((List Int) × Int) :=
 (bundle_Check (T_Bundle.mk b.Origin b.Number b.Mails)).bind fun v1 =>
 cond ((v1 != 0))
  (some (([], v1)))
  ((bundle_commands b.Mails).bind fun v3 =>
  (sums_Long v3).bind fun v4 =>
  bindS (S := (ByteArray)) (A := ((List Int) × Int))
   (loopF (S := (ByteArray × Int)) (O := (ByteArray) ⊕ ((List Int) × Int)) (fun ((s51, s52) : ByteArray × Int) =>
    cond ((decide (s52 < (([b.Origin, b.Number, (b.Mails.length : Int), (v3.length : Int), v4].length : Int)))))
     ((ixO s52 [b.Origin, b.Number, (b.Mails.length : Int), (v3.length : Int), v4].length).bind fun v6 =>
     (getO [b.Origin, b.Number, (b.Mails.length : Int), (v3.length : Int), v4] v6).bind fun v7 =>
     (strconv_Itoa v7).bind fun v8 =>
     (catO (⟨#[32]⟩ : ByteArray) v8).bind fun v9 =>
     (catO s51 v9).bind fun v10 =>
     (some (IntKind.i64.wrap (s52 + 1))).bind fun v11 =>
     some (.inl (v10, v11)))
     (some (.inr (.inl s51))))
    BIG (((⟨#[66, 85, 78, 68, 76, 69]⟩ : ByteArray), 0)))
   (fun (s54 : ByteArray) =>
    (catO s54 (⟨#[13, 10]⟩ : ByteArray)).bind fun v26 =>
    (some (sbytes v26)).bind fun v27 =>
    (appO 1 v27 v3).bind fun v44 =>
    cond ((decide (4096 < (v44.length : Int))))
     (some (([], 2)))
     (some ((v44, 0)))) some)

def strings_genSplit (s : ByteArray) (sep : ByteArray) (sepSave : Int) (n : Int) : Option (List ByteArray) :=
 cond ((n == 0))
  (some ([]))
  (cond ((sep.toList == (⟨#[]⟩ : ByteArray).toList))
   (none)
   (bindS (S := Int) (A := (List ByteArray))
    (cond ((decide (n < 0)))
     ((strings_Count s sep).bind fun v4 =>
     (some (IntKind.i64.wrap (v4 + 1))).bind fun v5 =>
     some (.inl v5))
     (some (.inl n)))
    (fun (s53 : Int) =>
     (some (IntKind.i64.wrap ((s.size : Int) + 1))).bind fun v11 =>
     (some (if v11 < s53 then v11 else s53)).bind fun v12 =>
     (mkO 16 v12 (⟨#[]⟩ : ByteArray)).bind fun v13 =>
     (some (IntKind.i64.wrap (v12 - 1))).bind fun v14 =>
     bindS (S := (ByteArray × (List ByteArray) × Int)) (A := (List ByteArray))
      (loopF (S := (ByteArray × (List ByteArray) × Int)) (O := (ByteArray × (List ByteArray) × Int) ⊕ (List ByteArray)) (fun ((s65, s66, s67) : ByteArray × (List ByteArray) × Int) =>
       cond ((decide (s67 < v14)))
        ((strings_Index s65 sep).bind fun v16 =>
        cond ((decide (v16 < 0)))
         (some (.inr (.inl (s65, s66, s67))))
         ((some (IntKind.i64.wrap (v16 + sepSave))).bind fun v18 =>
         (subO s65 0 v18).bind fun v19 =>
         (ixO s67 s66.length).bind fun v20 =>
         (some (s66.set v20 v19)).bind fun v21 =>
         (some (IntKind.i64.wrap (v16 + (sep.size : Int)))).bind fun v22 =>
         (subO s65 v22 (s65.size : Int)).bind fun v23 =>
         (some (IntKind.i64.wrap (s67 + 1))).bind fun v24 =>
         some (.inl (v23, v21, v24))))
        (some (.inr (.inl (s65, s66, s67)))))
       BIG (s, v13, 0))
      (fun ((s70, s71, s72) : ByteArray × (List ByteArray) × Int) =>
       (ixO s72 s71.length).bind fun v46 =>
       (some (s71.set v46 s70)).bind fun v47 =>
       (some (IntKind.i64.wrap (s72 + 1))).bind fun v48 =>
       (sliO v47 0 v48).bind fun v49 =>
       some (v49)) some) some))

def strings_Split (s : ByteArray) (sep : ByteArray) : Option (List ByteArray) :=
 (strings_genSplit s sep 0 (-1)).bind fun v1 =>
 some (v1)

def number_Parse (s : ByteArray) (digits : Int) : Option (Int × Bool) :=
 bindS (S := Bool) (A := (Int × Bool))
  (cond ((s.toList == (⟨#[]⟩ : ByteArray).toList))
   (some (.inl true))
   ((some (if 18 < digits then 18 else digits)).bind fun v1 =>
   cond ((decide (v1 < (s.size : Int))))
    (some (.inl true))
    ((chrO s 0).bind fun v2 =>
    cond ((v2 == 48))
     (some (.inl ((!(s.toList == (⟨#[48]⟩ : ByteArray).toList)))))
     (some (.inl false)))))
  (fun (s3 : Bool) =>
   cond (s3)
    (some ((0, false)))
    (bindS (S := (Unit)) (A := (Int × Bool))
     (loopF (S := (Int)) (O := (Unit) ⊕ (Int × Bool)) (fun (s24 : Int) =>
      cond ((decide (s24 < (s.size : Int))))
       (bindS (S := Bool) (A := ((Int) ⊕ ((Unit) ⊕ (Int × Bool))))
        ((chrO s s24).bind fun v9 =>
        cond ((decide (v9 < 48)))
         (some (.inl true))
         ((chrO s s24).bind fun v10 =>
         some (.inl ((decide (57 < v10))))))
        (fun (s38 : Bool) =>
         cond (s38)
          (some (.inr (.inr ((0, false)))))
          ((some (IntKind.i64.wrap (s24 + 1))).bind fun v16 =>
          some (.inl v16))) some)
       (some (.inr (.inl ()))))
      BIG 0)
     (fun (() : Unit) =>
      (strconv_Atoi s).bind fun v43 =>
      some ((v43.1, true))) some)) some

def bundle_parseHeader (line : ByteArray) : Option (T_bundle_header × Bool) :=
 (strings_Split line (⟨#[32]⟩ : ByteArray)).bind fun v1 =>
 bindS (S := Bool) (A := (T_bundle_header × Bool))
  (cond (((v1.length : Int) != 6))
   (some (.inl true))
   ((ixO 0 v1.length).bind fun v2 =>
   (getO v1 v2).bind fun v3 =>
   some (.inl ((!(v3.toList == (⟨#[66, 85, 78, 68, 76, 69]⟩ : ByteArray).toList))))))
  (fun (s4 : Bool) =>
   cond (s4)
    (some (((T_bundle_header.mk 0 0 0 0), false)))
    ((sliO v1 1 (v1.length : Int)).bind fun v9 =>
    bindS (S := ((List Int))) (A := (T_bundle_header × Bool))
     (loopF (S := ((List Int) × Int)) (O := ((List Int)) ⊕ (T_bundle_header × Bool)) (fun ((s22, s23) : (List Int) × Int) =>
      cond ((decide (s23 < (v9.length : Int))))
       ((ixO s23 v9.length).bind fun v11 =>
       (getO v9 v11).bind fun v12 =>
       (number_Parse v12 10).bind fun v13 =>
       cond ((!v13.2))
        (some (.inr (.inr (((T_bundle_header.mk 0 0 0 0), false)))))
        ((ixO s23 5).bind fun v15 =>
        (setO s22 v15 v13.1).bind fun v16 =>
        (some (IntKind.i64.wrap (s23 + 1))).bind fun v17 =>
        some (.inl (v16, v17))))
       (some (.inr (.inl s22))))
      BIG (((List.replicate 5 (0 : Int)), 0)))
     (fun (s26 : (List Int)) =>
      (ixO 0 5).bind fun v35 =>
      (getO s26 v35).bind fun v36 =>
      (ixO 1 5).bind fun v37 =>
      (getO s26 v37).bind fun v38 =>
      (ixO 3 5).bind fun v39 =>
      (getO s26 v39).bind fun v40 =>
      (ixO 4 5).bind fun v41 =>
      (getO s26 v41).bind fun v42 =>
      some (((T_bundle_header.mk v36 v38 v40 v42), (decide (v36 ≤ 1))))) some)) some

def internal_stringslite_HasPrefix (s : ByteArray) (prefix_ : ByteArray) : Option Bool :=
 bindS (S := Bool) (A := Bool)
  (cond ((decide ((prefix_.size : Int) ≤ (s.size : Int))))
   ((subO s 0 (prefix_.size : Int)).bind fun v1 =>
   some (.inl (v1.toList == prefix_.toList)))
   (some (.inl false)))
  (fun (s2 : Bool) =>
   some (s2)) some

def internal_stringslite_CutPrefix (s : ByteArray) (prefix_ : ByteArray) : Option (ByteArray × Bool) :=
 (internal_stringslite_HasPrefix s prefix_).bind fun v1 =>
 cond ((!v1))
  (some ((s, false)))
  ((subO s (prefix_.size : Int) (s.size : Int)).bind fun v3 =>
  some ((v3, true)))

def strings_CutPrefix (s : ByteArray) (prefix_ : ByteArray) : Option (ByteArray × Bool) :=
 (internal_stringslite_CutPrefix s prefix_).bind fun v1 =>
 some ((v1.1, v1.2))

def internal_stringslite_HasSuffix (s : ByteArray) (suffix : ByteArray) : Option Bool :=
 bindS (S := Bool) (A := Bool)
  (cond ((decide ((suffix.size : Int) ≤ (s.size : Int))))
   ((some (IntKind.i64.wrap ((s.size : Int) - (suffix.size : Int)))).bind fun v1 =>
   (subO s v1 (s.size : Int)).bind fun v2 =>
   some (.inl (v2.toList == suffix.toList)))
   (some (.inl false)))
  (fun (s3 : Bool) =>
   some (s3)) some

def internal_stringslite_CutSuffix (s : ByteArray) (suffix : ByteArray) : Option (ByteArray × Bool) :=
 (internal_stringslite_HasSuffix s suffix).bind fun v1 =>
 cond ((!v1))
  (some ((s, false)))
  ((some (IntKind.i64.wrap ((s.size : Int) - (suffix.size : Int)))).bind fun v3 =>
  (subO s 0 v3).bind fun v4 =>
  some ((v4, true)))

def strings_CutSuffix (s : ByteArray) (suffix : ByteArray) : Option (ByteArray × Bool) :=
 (internal_stringslite_CutSuffix s suffix).bind fun v1 =>
 some ((v1.1, v1.2))

def internal_stringslite_Cut (s : ByteArray) (sep : ByteArray) : Option (ByteArray × ByteArray × Bool) :=
 (internal_stringslite_Index s sep).bind fun v1 =>
 cond ((decide (0 ≤ v1)))
  ((subO s 0 v1).bind fun v3 =>
  (some (IntKind.i64.wrap (v1 + (sep.size : Int)))).bind fun v4 =>
  (subO s v4 (s.size : Int)).bind fun v5 =>
  some ((v3, v5, true)))
  (some ((s, (⟨#[]⟩ : ByteArray), false)))

def strings_Cut (s : ByteArray) (sep : ByteArray) : Option (ByteArray × ByteArray × Bool) :=
 (internal_stringslite_Cut s sep).bind fun v1 =>
 some ((v1.1, v1.2.1, v1.2.2))

def path_Parse (s : ByteArray) : Option (T_Path × Int) :=
 cond ((s.toList == (⟨#[60, 62]⟩ : ByteArray).toList))
  (some (((T_Path.mk true (⟨#[]⟩ : ByteArray) (⟨#[]⟩ : ByteArray)), 0)))
  ((strings_CutPrefix s (⟨#[60]⟩ : ByteArray)).bind fun v2 =>
  (strings_CutSuffix v2.1 (⟨#[62]⟩ : ByteArray)).bind fun v3 =>
  (strings_Cut v3.1 (⟨#[64]⟩ : ByteArray)).bind fun v4 =>
  bindS (S := Bool) (A := (T_Path × Int))
   (cond ((!v2.2))
    (some (.inl true))
    (cond ((!v3.2))
     (some (.inl true))
     (cond ((!v4.2.2))
      (some (.inl true))
      ((path_Check (T_Path.mk false v4.1 v4.2.1)).bind fun v5 =>
      some (.inl (v5 != 0))))))
   (fun (s6 : Bool) =>
    cond (s6)
     (some (((T_Path.mk false (⟨#[]⟩ : ByteArray) (⟨#[]⟩ : ByteArray)), 5)))
     (some (((T_Path.mk false v4.1 v4.2.1), 0)))) some)

def bundle_parsePath_sh (c : (List Int)) (word : ByteArray) : Option (T_Path × (List Int) × Bool) :=
 (bytes_Cut_sh c [13, 10]).bind fun v1 =>
 (some (bstr v1.1)).bind fun v2 =>
 (strings_CutPrefix v2 word).bind fun v3 =>
 bindS (S := Bool) (A := (T_Path × (List Int) × Bool))
  (cond ((!v1.2.2))
   (some (.inl true))
   (some (.inl (!v3.2))))
  (fun (s4 : Bool) =>
   cond (s4)
    (some (((T_Path.mk false (⟨#[]⟩ : ByteArray) (⟨#[]⟩ : ByteArray)), [], false)))
    ((path_Parse v3.1).bind fun v9 =>
    some ((v9.1, v1.2.1, (v9.2 == 0))))) some

def bytes_CutPrefix_sh (s : (List Int)) (prefix_ : (List Int)) : Option ((List Int) × Bool) :=
 (bytes_HasPrefix s prefix_).bind fun v1 =>
 cond ((!v1))
  (some ((s, false)))
  ((sliO s (prefix_.length : Int) (s.length : Int)).bind fun v3 =>
  some ((v3, true)))

def dots_lastLine (b : (List Int)) : Option (Int × Bool) :=
 (dots_lines b).bind fun v1 =>
 bindS (S := (Int)) (A := (Int))
  (rangeS (S := (Int)) (O := (Int)) (fun Y st => Sh.dots_lines_1 Y v1 st) (fun (x : (List Int)) (s8 : Int) =>
   (some (bstr x)).bind fun v2 =>
   cond ((v2.toList == (⟨#[46]⟩ : ByteArray).toList))
    (some (.inr s8))
    ((some (IntKind.i64.wrap ((x.length : Int) + 2))).bind fun v4 =>
    (some (IntKind.i64.wrap (s8 + v4))).bind fun v5 =>
    some (.inl v5)))
   0)
  (fun (s8 : Int) =>
   some ((0, false)))
  (fun (s10 : Int) =>
   some ((s10, true)))

def bytes_TrimPrefix_sh (s : (List Int)) (prefix_ : (List Int)) : Option (List Int) :=
 (bytes_HasPrefix s prefix_).bind fun v1 =>
 cond (v1)
  ((sliO s (prefix_.length : Int) (s.length : Int)).bind fun v3 =>
  some (v3))
  (some (s))

def dots_Strip (b : (List Int)) : Option ((List Int) × Int × Int) :=
 (dots_lastLine b).bind fun v1 =>
 cond ((!v1.2))
  (some (([], 0, 9)))
  ((sliO b 0 v1.1).bind fun v3 =>
  (dots_Check v3).bind fun v4 =>
  cond ((v4 != 0))
   (some (([], 0, v4)))
   ((sliO b 0 v1.1).bind fun v6 =>
   (dots_lines v6).bind fun v7 =>
   bindS (S := ((List Int))) (A := (Unit))
    (rangeS (S := ((List Int))) (O := (Unit)) (fun Y st => Sh.dots_lines_1 Y v7 st) (fun (x : (List Int)) (s12 : (List Int)) =>
     (bytes_TrimPrefix_sh x [46]).bind fun v8 =>
     (appO 1 s12 v8).bind fun v9 =>
     (appO 1 v9 (sbytes (⟨#[13, 10]⟩ : ByteArray))).bind fun v10 =>
     some (.inl v10))
     [])
    (fun (s12 : (List Int)) =>
     (some (IntKind.i64.wrap (v1.1 + 3))).bind fun v13 =>
     some ((s12, v13, 0)))
    (fun (() : Unit) =>
     none)))

def bundle_parseMail_sh (c : (List Int)) : Option (T_Mail × (List Int) × Bool) :=
 (bundle_parsePath_sh c (⟨#[77, 65, 73, 76, 32, 70, 82, 79, 77, 58]⟩ : ByteArray)).bind fun v1 =>
 cond ((!v1.2.2))
  (some (((T_Mail.mk ((T_Path.mk false (⟨#[]⟩ : ByteArray) (⟨#[]⟩ : ByteArray))) [] [] false (⟨#[]⟩ : ByteArray) 0), [], false)))
  (bindS (S := ((List T_Path) × (List Int))) (A := (T_Mail × (List Int) × Bool))
   (loopF (S := ((List T_Path) × (List Int))) (O := ((List T_Path) × (List Int)) ⊕ (T_Mail × (List Int) × Bool)) (fun ((s11, s12) : (List T_Path) × (List Int)) =>
    cond ((decide ((s11.length : Int) ≤ 8)))
     ((bundle_parsePath_sh s12 (⟨#[82, 67, 80, 84, 32, 84, 79, 58]⟩ : ByteArray)).bind fun v4 =>
     cond ((!v4.2.2))
      (some (.inr (.inl (s11, s12))))
      ((appO 40 s11 [v4.1]).bind fun v6 =>
      some (.inl (v6, v4.2.1))))
     (some (.inr (.inl (s11, s12)))))
    BIG ([], v1.2.1))
   (fun ((s15, s16) : (List T_Path) × (List Int)) =>
    (bytes_CutPrefix_sh s16 [68, 65, 84, 65, 13, 10]).bind fun v25 =>
    cond ((!v25.2))
     (some (((T_Mail.mk ((T_Path.mk false (⟨#[]⟩ : ByteArray) (⟨#[]⟩ : ByteArray))) [] [] false (⟨#[]⟩ : ByteArray) 0), [], false)))
     ((dots_Strip v25.1).bind fun v27 =>
     cond ((v27.2.2 != 0))
      (some (((T_Mail.mk ((T_Path.mk false (⟨#[]⟩ : ByteArray) (⟨#[]⟩ : ByteArray))) [] [] false (⟨#[]⟩ : ByteArray) 0), [], false)))
      ((sliO v25.1 v27.2.1 (v25.1.length : Int)).bind fun v29 =>
      some (((T_Mail.mk v1.1 s15 v27.1 false (⟨#[]⟩ : ByteArray) 0), v29, true))))) some)

def bundle_parseMails_sh (c : (List Int)) : Option (List T_Mail) :=
 bindS (S := ((List T_Mail))) (A := (List T_Mail))
  (loopF (S := ((List Int) × (List T_Mail))) (O := ((List T_Mail)) ⊕ (List T_Mail)) (fun ((s9, s10) : (List Int) × (List T_Mail)) =>
   cond ((decide ((s10.length : Int) ≤ 4)))
    ((bundle_parseMail_sh s9).bind fun v2 =>
    cond ((!v2.2.2))
     (some (.inr (.inl s10)))
     ((appO 120 s10 [(T_Mail.mk (T_Path.mk v2.1.From.Null v2.1.From.Local v2.1.From.Domain) v2.1.To v2.1.Body v2.1.Quiet v2.1.Helo v2.1.At)]).bind fun v4 =>
     some (.inl (v2.2.1, v4))))
    (some (.inr (.inl s10))))
   BIG (c, []))
  (fun (s13 : (List T_Mail)) =>
   some (s13)) some

def bytes_Cut_ro (s : (List Int)) (sep : (List Int)) : Option ((List Int) × (List Int) × Bool) :=
 (bytes_Index s sep).bind fun v1 =>
 cond ((decide (0 ≤ v1)))
  ((sliO s 0 v1).bind fun v3 =>
  (some (IntKind.i64.wrap (v1 + (sep.length : Int)))).bind fun v4 =>
  (sliO s v4 (s.length : Int)).bind fun v5 =>
  some ((v3, v5, true)))
  (some ((s, [], false)))

def bundle_parsePath_ro (c : (List Int)) (word : ByteArray) : Option (T_Path × (List Int) × Bool) :=
 (bytes_Cut_ro c [13, 10]).bind fun v1 =>
 (some (bstr v1.1)).bind fun v2 =>
 (strings_CutPrefix v2 word).bind fun v3 =>
 bindS (S := Bool) (A := (T_Path × (List Int) × Bool))
  (cond ((!v1.2.2))
   (some (.inl true))
   (some (.inl (!v3.2))))
  (fun (s10 : Bool) =>
   cond (s10)
    (some (((T_Path.mk false (⟨#[]⟩ : ByteArray) (⟨#[]⟩ : ByteArray)), [], false)))
    ((path_Parse v3.1).bind fun v9 =>
    some ((v9.1, v1.2.1, (v9.2 == 0))))) some

def bytes_CutPrefix_ro (s : (List Int)) (prefix_ : (List Int)) : Option ((List Int) × Bool) :=
 (bytes_HasPrefix s prefix_).bind fun v1 =>
 cond ((!v1))
  (some ((s, false)))
  ((sliO s (prefix_.length : Int) (s.length : Int)).bind fun v3 =>
  some ((v3, true)))

def bundle_parseMail_ro (c : (List Int)) : Option (T_Mail × (List Int) × Bool) :=
 (bundle_parsePath_ro c (⟨#[77, 65, 73, 76, 32, 70, 82, 79, 77, 58]⟩ : ByteArray)).bind fun v1 =>
 cond ((!v1.2.2))
  (some (((T_Mail.mk ((T_Path.mk false (⟨#[]⟩ : ByteArray) (⟨#[]⟩ : ByteArray))) [] [] false (⟨#[]⟩ : ByteArray) 0), [], false)))
  (bindS (S := ((List T_Path) × (List Int))) (A := (T_Mail × (List Int) × Bool))
   (loopF (S := ((List T_Path) × (List Int))) (O := ((List T_Path) × (List Int)) ⊕ (T_Mail × (List Int) × Bool)) (fun ((s37, s38) : (List T_Path) × (List Int)) =>
    cond ((decide ((s37.length : Int) ≤ 8)))
     ((bundle_parsePath_ro s38 (⟨#[82, 67, 80, 84, 32, 84, 79, 58]⟩ : ByteArray)).bind fun v4 =>
     cond ((!v4.2.2))
      (some (.inr (.inl (s37, s38))))
      ((appO 40 s37 [v4.1]).bind fun v6 =>
      some (.inl (v6, v4.2.1))))
     (some (.inr (.inl (s37, s38)))))
    BIG ([], v1.2.1))
   (fun ((s41, s42) : (List T_Path) × (List Int)) =>
    (bytes_CutPrefix_ro s42 [68, 65, 84, 65, 13, 10]).bind fun v25 =>
    cond ((!v25.2))
     (some (((T_Mail.mk ((T_Path.mk false (⟨#[]⟩ : ByteArray) (⟨#[]⟩ : ByteArray))) [] [] false (⟨#[]⟩ : ByteArray) 0), [], false)))
     ((dots_Strip v25.1).bind fun v27 =>
     cond ((v27.2.2 != 0))
      (some (((T_Mail.mk ((T_Path.mk false (⟨#[]⟩ : ByteArray) (⟨#[]⟩ : ByteArray))) [] [] false (⟨#[]⟩ : ByteArray) 0), [], false)))
      ((sliO v25.1 v27.2.1 (v25.1.length : Int)).bind fun v29 =>
      some (((T_Mail.mk v1.1 s41 v27.1 false (⟨#[]⟩ : ByteArray) 0), v29, true))))) some)

def bundle_parseMails_ro (c : (List Int)) : Option (List T_Mail) :=
 bindS (S := ((List T_Mail))) (A := (List T_Mail))
  (loopF (S := ((List Int) × (List T_Mail))) (O := ((List T_Mail)) ⊕ (List T_Mail)) (fun ((s9, s10) : (List Int) × (List T_Mail)) =>
   cond ((decide ((s10.length : Int) ≤ 4)))
    ((bundle_parseMail_ro s9).bind fun v2 =>
    cond ((!v2.2.2))
     (some (.inr (.inl s10)))
     ((appO 120 s10 [(T_Mail.mk (T_Path.mk v2.1.From.Null v2.1.From.Local v2.1.From.Domain) v2.1.To v2.1.Body v2.1.Quiet v2.1.Helo v2.1.At)]).bind fun v4 =>
     some (.inl (v2.2.1, v4))))
    (some (.inr (.inl s10))))
   BIG (c, []))
  (fun (s13 : (List T_Mail)) =>
   some (s13)) some

def bundle_Read_ro (t : (List Int)) : Option (T_Bundle × Int) :=
 (bytes_Cut_ro t [13, 10]).bind fun v1 =>
 (some (bstr v1.1)).bind fun v2 =>
 (bundle_parseHeader v2).bind fun v3 =>
 bindS (S := Bool) (A := (T_Bundle × Int))
  (cond ((!v1.2.2))
   (some (.inl true))
   (cond ((!v3.2))
    (some (.inl true))
    (some (.inl (((v1.2.1.length : Int) != v3.1.size))))))
  (fun (s4 : Bool) =>
   cond (s4)
    (some (((T_Bundle.mk 0 0 []), 5)))
    ((sums_Long v1.2.1).bind fun v9 =>
    cond ((v9 != v3.1.sum))
     (some (((T_Bundle.mk 0 0 []), 6)))
     ((bundle_parseMails_ro v1.2.1).bind fun v11 =>
     (bundle_Bytes (T_Bundle.mk v3.1.origin v3.1.number v11)).bind fun v12 =>
     bindS (S := Bool) (A := (T_Bundle × Int))
      (cond ((v12.2 != 0))
       (some (.inl true))
       ((bytes_Equal v12.1 t).bind fun v13 =>
       some (.inl (!v13))))
      (fun (s14 : Bool) =>
       cond (s14)
        (some (((T_Bundle.mk 0 0 []), 5)))
        (some (((T_Bundle.mk v3.1.origin v3.1.number v11), 0)))) some))) some

def bundle_Pack (l : (List T_Mail)) (origin : Int) (number : Int) : Option (Int × Int) :=
 (some (if 4 < (l.length : Int) then 4 else (l.length : Int))).bind fun v1 =>
 (sliO l 0 v1).bind fun v2 =>
 bindS (S := ((List T_Mail))) (A := (Int × Int))
  (loopF (S := ((List T_Mail) × Int)) (O := ((List T_Mail)) ⊕ (Int × Int)) (fun ((s11, s12) : (List T_Mail) × Int) =>
   cond ((decide (s12 < (v2.length : Int))))
    ((ixO s12 v2.length).bind fun v4 =>
    (getO v2 v4).bind fun v5 =>
    (appO 120 s11 ([(T_Mail.mk (T_Path.mk v5.From.Null v5.From.Local v5.From.Domain) v5.To v5.Body false (⟨#[]⟩ : ByteArray) 0)])).bind fun v6 =>
    (some (IntKind.i64.wrap (s12 + 1))).bind fun v7 =>
    some (.inl (v6, v7)))
    (some (.inr (.inl s11))))
   BIG ([], 0))
  (fun (s14 : (List T_Mail)) =>
   bindS (S := (Unit)) (A := (Int × Int))
    (loopF (S := ((List T_Mail) × Int)) (O := (Unit) ⊕ (Int × Int)) (fun ((s31, s32) : (List T_Mail) × Int) =>
     cond ((decide (0 < s32)))
      ((sliO s31 0 s32).bind fun v23 =>
      (bundle_Bytes (T_Bundle.mk origin number v23)).bind fun v24 =>
      cond ((v24.2 == 0))
       (some (.inr (.inr ((s32, 0)))))
       ((some (IntKind.i64.wrap (s32 - 1))).bind fun v26 =>
       some (.inl (s31, v26))))
      (some (.inr (.inl ()))))
     BIG ((s14, (s14.length : Int))))
    (fun (() : Unit) =>
     some ((0, 9))) some) some

def wherrykeep_Path (a : T_Path) (b : T_Path) : Option Bool :=
 bindS (S := Bool) (A := Bool)
  ((some (a.Null == b.Null)).bind fun v1 =>
  cond ((a.Null == b.Null))
   (cond ((a.Local.toList == b.Local.toList))
    (some (.inl (a.Domain.toList == b.Domain.toList)))
    (some (.inl false)))
   (some (.inl false)))
  (fun (s2 : Bool) =>
   some (s2)) some

def wherrykeep_Paths (a : (List T_Path)) (b : (List T_Path)) : Option Bool :=
 cond (((a.length : Int) != (b.length : Int)))
  (some (false))
  (bindS (S := (Unit)) (A := Bool)
   (loopF (S := (Int)) (O := (Unit) ⊕ Bool) (fun (s13 : Int) =>
    cond ((decide (s13 < (a.length : Int))))
     ((ixO s13 a.length).bind fun v3 =>
     (getO a v3).bind fun v4 =>
     (ixO s13 b.length).bind fun v5 =>
     (getO b v5).bind fun v6 =>
     (wherrykeep_Path v4 v6).bind fun v7 =>
     cond ((!v7))
      (some (.inr (.inr (false))))
      ((some (IntKind.i64.wrap (s13 + 1))).bind fun v9 =>
      some (.inl v9)))
     (some (.inr (.inl ()))))
    BIG 0)
   (fun (() : Unit) =>
    some (true)) some)

def wherrykeep_Bytes (a : (List Int)) (b : (List Int)) : Option Bool :=
 cond (((a.length : Int) != (b.length : Int)))
  (some (false))
  (bindS (S := (Unit)) (A := Bool)
   (loopF (S := (Int)) (O := (Unit) ⊕ Bool) (fun (s12 : Int) =>
    cond ((decide (s12 < (a.length : Int))))
     ((ixO s12 a.length).bind fun v3 =>
     (getO a v3).bind fun v4 =>
     (ixO s12 b.length).bind fun v5 =>
     (getO b v5).bind fun v6 =>
     cond ((v4 != v6))
      (some (.inr (.inr (false))))
      ((some (IntKind.i64.wrap (s12 + 1))).bind fun v8 =>
      some (.inl v8)))
     (some (.inr (.inl ()))))
    BIG 0)
   (fun (() : Unit) =>
    some (true)) some)

def wherrykeep_Mail (a : T_Mail) (b : T_Mail) : Option Bool :=
 bindS (S := Bool) (A := Bool)
  ((wherrykeep_Path (T_Path.mk a.From.Null a.From.Local a.From.Domain) (T_Path.mk b.From.Null b.From.Local b.From.Domain)).bind fun v1 =>
  cond (v1)
   ((wherrykeep_Paths a.To b.To).bind fun v2 =>
   cond (v2)
    ((wherrykeep_Bytes a.Body b.Body).bind fun v3 =>
    cond (v3)
     ((some (a.Quiet == b.Quiet)).bind fun v4 =>
     cond ((a.Quiet == b.Quiet))
      (cond ((a.Helo.toList == b.Helo.toList))
       (some (.inl (a.At == b.At)))
       (some (.inl false)))
      (some (.inl false)))
     (some (.inl false)))
    (some (.inl false)))
   (some (.inl false)))
  (fun (s5 : Bool) =>
   some (s5)) some

def wherrykeep_Bundle (a : T_Bundle) (b : T_Bundle) : Option Bool :=
 bindS (S := Bool) (A := Bool)
  (cond ((a.Origin != b.Origin))
   (some (.inl true))
   (cond ((a.Number != b.Number))
    (some (.inl true))
    (some (.inl (((a.Mails.length : Int) != (b.Mails.length : Int)))))))
  (fun (s1 : Bool) =>
   cond (s1)
    (some (false))
    (bindS (S := (Unit)) (A := Bool)
     (loopF (S := (Int)) (O := (Unit) ⊕ Bool) (fun (s17 : Int) =>
      cond ((decide (s17 < (a.Mails.length : Int))))
       ((ixO s17 a.Mails.length).bind fun v7 =>
       (getO a.Mails v7).bind fun v8 =>
       (ixO s17 b.Mails.length).bind fun v9 =>
       (getO b.Mails v9).bind fun v10 =>
       (wherrykeep_Mail ((T_Mail.mk (T_Path.mk v8.From.Null v8.From.Local v8.From.Domain) v8.To v8.Body v8.Quiet v8.Helo v8.At)) ((T_Mail.mk (T_Path.mk v10.From.Null v10.From.Local v10.From.Domain) v10.To v10.Body v10.Quiet v10.Helo v10.At))).bind fun v11 =>
       cond ((!v11))
        (some (.inr (.inr (false))))
        ((some (IntKind.i64.wrap (s17 + 1))).bind fun v13 =>
        some (.inl v13)))
       (some (.inr (.inl ()))))
      BIG 0)
     (fun (() : Unit) =>
      some (true)) some)) some

def wherrylaw17_wakes : Option Bool :=
 (bundle_Bytes ((T_Bundle.mk 0 1 ([(T_Mail.mk ((T_Path.mk true (⟨#[]⟩ : ByteArray) (⟨#[]⟩ : ByteArray))) ([(T_Path.mk false (⟨#[97]⟩ : ByteArray) (⟨#[98]⟩ : ByteArray))]) [] false (⟨#[]⟩ : ByteArray) 0)])))).bind fun v1 =>
 (bundle_Read_ro v1.1).bind fun v2 =>
 (bundle_Pack ([(T_Mail.mk ((T_Path.mk true (⟨#[]⟩ : ByteArray) (⟨#[]⟩ : ByteArray))) ([(T_Path.mk false (⟨#[97]⟩ : ByteArray) (⟨#[98]⟩ : ByteArray))]) [] false (⟨#[]⟩ : ByteArray) 0)]) 0 1).bind fun v3 =>
 bindS (S := Bool) (A := Bool)
  (cond ((v1.2 == 0))
   (cond ((v2.2 == 0))
    (cond ((v3.2 == 0))
     ((wherrykeep_Bundle (T_Bundle.mk v2.1.Origin v2.1.Number v2.1.Mails) ((T_Bundle.mk 0 1 ([(T_Mail.mk ((T_Path.mk true (⟨#[]⟩ : ByteArray) (⟨#[]⟩ : ByteArray))) ([(T_Path.mk false (⟨#[97]⟩ : ByteArray) (⟨#[98]⟩ : ByteArray))]) [] false (⟨#[]⟩ : ByteArray) 0)])))).bind fun v4 =>
     cond (v4)
      (cond ((v3.1 == 1))
       (cond ((decide (14 < (v1.1.length : Int))))
        ((sliO v1.1 0 14).bind fun v5 =>
        (some (bstr v5)).bind fun v6 =>
        some (.inl ((v6.toList == (⟨#[66, 85, 78, 68, 76, 69, 32, 48, 32, 49, 32, 49, 32, 52]⟩ : ByteArray).toList))))
        (some (.inl false)))
       (some (.inl false)))
      (some (.inl false)))
     (some (.inl false)))
    (some (.inl false)))
   (some (.inl false)))
  (fun (s7 : Bool) =>
   some (s7)) some

def wherrykeep_TwinPaths (l : (List T_Path)) : Option (List T_Path) :=
 (appO 40 ([] : List T_Path) l).bind fun v1 =>
 some (v1)

def wherrykeep_Twin (l : (List Int)) : Option (List Int) :=
 (appO 1 ([] : List Int) l).bind fun v1 =>
 some (v1)

def wherrykeep_TwinMail (m : T_Mail) : Option T_Mail :=
 (wherrykeep_TwinPaths m.To).bind fun v1 =>
 (wherrykeep_Twin m.Body).bind fun v2 =>
 some ((T_Mail.mk (T_Path.mk m.From.Null m.From.Local m.From.Domain) v1 v2 m.Quiet m.Helo m.At))

def wherrykeep_TwinMails (l : (List T_Mail)) : Option (List T_Mail) :=
 bindS (S := ((List T_Mail))) (A := (List T_Mail))
  (loopF (S := ((List T_Mail) × Int)) (O := ((List T_Mail)) ⊕ (List T_Mail)) (fun ((s10, s11) : (List T_Mail) × Int) =>
   cond ((decide (s11 < (l.length : Int))))
    ((ixO s11 l.length).bind fun v2 =>
    (getO l v2).bind fun v3 =>
    (wherrykeep_TwinMail ((T_Mail.mk (T_Path.mk v3.From.Null v3.From.Local v3.From.Domain) v3.To v3.Body v3.Quiet v3.Helo v3.At))).bind fun v4 =>
    (appO 120 s10 [(T_Mail.mk (T_Path.mk v4.From.Null v4.From.Local v4.From.Domain) v4.To v4.Body v4.Quiet v4.Helo v4.At)]).bind fun v5 =>
    (some (IntKind.i64.wrap (s11 + 1))).bind fun v6 =>
    some (.inl (v5, v6)))
    (some (.inr (.inl s10))))
   BIG ([], 0))
  (fun (s13 : (List T_Mail)) =>
   some (s13)) some

def wherrylaw17_BundleOrder (b : T_Bundle) : Option Bool :=
 (wherrylaw17_Heavy b.Mails).bind fun v1 =>
 cond (v1)
  (some (true))
  ((bundle_Bytes b).bind fun v3 =>
  bindS (S := Bool) (A := Bool)
   (cond ((v3.2 != 0))
    (some (.inl true))
    (some (.inl ((decide ((b.Mails.length : Int) < 2))))))
   (fun (s4 : Bool) =>
    cond (s4)
     (bindS (S := Bool) (A := Bool)
      (cond ((v3.2 == 0))
       ((wherrylaw17_wakes ).bind fun v9 =>
       some (.inl v9))
       (cond (((v3.1.length : Int) == 0))
        ((wherrylaw17_wakes ).bind fun v10 =>
        some (.inl v10))
        (some (.inl false))))
      (fun (s11 : Bool) =>
       some (s11)) some)
     ((wherrykeep_TwinMails b.Mails).bind fun v15 =>
     (ixO 1 v15.length).bind fun v16 =>
     (getO v15 v16).bind fun v17 =>
     (ixO 0 v15.length).bind fun v18 =>
     (getO v15 v18).bind fun v19 =>
     (ixO 0 v15.length).bind fun v20 =>
     (getO v15 v20).bind fun v21 =>
     (some (v15.set v20 ((T_Mail.mk (T_Path.mk v17.From.Null v17.From.Local v17.From.Domain) v17.To v17.Body v17.Quiet v17.Helo v17.At)))).bind fun v22 =>
     (ixO 1 v15.length).bind fun v23 =>
     (getO v22 v23).bind fun v24 =>
     (some (v22.set v23 ((T_Mail.mk (T_Path.mk v19.From.Null v19.From.Local v19.From.Domain) v19.To v19.Body v19.Quiet v19.Helo v19.At)))).bind fun v25 =>
     (bundle_Bytes (T_Bundle.mk b.Origin b.Number v25)).bind fun v26 =>
     (sliO b.Mails 1 (b.Mails.length : Int)).bind fun v27 =>
     (bundle_Bytes (T_Bundle.mk b.Origin b.Number v27)).bind fun v28 =>
     bindS (S := Bool) (A := Bool)
      (cond ((v26.2 != 0))
       (some (.inl true))
       (some (.inl (v28.2 != 0))))
      (fun (s29 : Bool) =>
       cond (s29)
        (bindS (S := Bool) (A := Bool)
         (cond ((v26.2 == 0))
          (cond ((v28.2 == 0))
           ((wherrylaw17_wakes ).bind fun v34 =>
           some (.inl v34))
           (cond ((v28.2 == 2))
            ((wherrylaw17_wakes ).bind fun v35 =>
            some (.inl v35))
            (some (.inl false))))
          (cond ((v26.2 == 2))
           (cond ((v28.2 == 0))
            ((wherrylaw17_wakes ).bind fun v36 =>
            some (.inl v36))
            (cond ((v28.2 == 2))
             ((wherrylaw17_wakes ).bind fun v37 =>
             some (.inl v37))
             (some (.inl false))))
           (some (.inl false))))
         (fun (s38 : Bool) =>
          some (s38)) some)
        ((bundle_Read_ro v26.1).bind fun v42 =>
        (bundle_Read_ro v28.1).bind fun v43 =>
        bindS (S := Bool) (A := Bool)
         (cond ((v42.2 == 0))
          (cond ((v43.2 == 0))
           ((wherrykeep_Bundle v42.1 (T_Bundle.mk b.Origin b.Number v25)).bind fun v44 =>
           cond (v44)
            ((some (IntKind.i64.wrap ((b.Mails.length : Int) - 1))).bind fun v45 =>
            cond (((v43.1.Mails.length : Int) == v45))
             ((wherrykeep_Bytes v3.1 v26.1).bind fun v46 =>
             (ixO 0 b.Mails.length).bind fun v47 =>
             (getO b.Mails v47).bind fun v48 =>
             (ixO 1 b.Mails.length).bind fun v49 =>
             (getO b.Mails v49).bind fun v50 =>
             (wherrykeep_Mail ((T_Mail.mk (T_Path.mk v48.From.Null v48.From.Local v48.From.Domain) v48.To v48.Body v48.Quiet v48.Helo v48.At)) ((T_Mail.mk (T_Path.mk v50.From.Null v50.From.Local v50.From.Domain) v50.To v50.Body v50.Quiet v50.Helo v50.At))).bind fun v51 =>
             (some (v46 == v51)).bind fun v52 =>
             cond ((v46 == v51))
              ((wherrylaw17_wakes ).bind fun v53 =>
              some (.inl v53))
              (some (.inl false)))
             (some (.inl false)))
            (some (.inl false)))
           (some (.inl false)))
          (some (.inl false)))
         (fun (s54 : Bool) =>
          some (s54)) some)) some)) some)

def wherrylaw17_BundleSpoilt (b : T_Bundle) (at_ : Int) (n : Int) : Option Bool :=
 (wherrylaw17_Heavy b.Mails).bind fun v1 =>
 cond (v1)
  (some (true))
  ((bundle_Bytes b).bind fun v3 =>
  cond ((v3.2 != 0))
   ((wherrylaw17_wakes ).bind fun v5 =>
   some (v5))
   (bindS (S := (Int)) (A := Bool)
    (loopF (S := (Int)) (O := (Int) ⊕ Bool) (fun (s24 : Int) =>
     bindS (S := Bool) (A := ((Int) ⊕ ((Int) ⊕ Bool)))
      ((some (IntKind.i64.wrap (s24 + 1))).bind fun v6 =>
      cond ((decide (v6 < (v3.1.length : Int))))
       ((ixO s24 v3.1.length).bind fun v7 =>
       (getO v3.1 v7).bind fun v8 =>
       cond ((v8 != 13))
        (some (.inl true))
        ((some (IntKind.i64.wrap (s24 + 1))).bind fun v9 =>
        (ixO v9 v3.1.length).bind fun v10 =>
        (getO v3.1 v10).bind fun v11 =>
        some (.inl (v11 != 10))))
       (some (.inl false)))
      (fun (s37 : Bool) =>
       cond (s37)
        ((some (IntKind.i64.wrap (s24 + 1))).bind fun v17 =>
        some (.inl v17))
        (some (.inr (.inl s24)))) some)
     BIG 0)
    (fun (s30 : Int) =>
     (some (IntKind.i64.wrap (s30 + 2))).bind fun v42 =>
     cond ((decide ((v3.1.length : Int) ≤ v42)))
      (some (false))
      ((some (IntKind.i64.wrap ((v3.1.length : Int) - v42))).bind fun v44 =>
      (some (IntKind.i64.wrap (8 * v44))).bind fun v45 =>
      (some (IntKind.u64.wrap at_)).bind fun v46 =>
      (some (IntKind.u64.wrap v45)).bind fun v47 =>
      (remO v46 v47).bind fun v48 =>
      (some (IntKind.i64.wrap v48)).bind fun v49 =>
      (some (bits .and .i64 n 4294967295)).bind fun v50 =>
      (some (bits .or .i64 v50 1)).bind fun v51 =>
      (wherrykeep_Twin v3.1).bind fun v52 =>
      bindS (S := ((List Int))) (A := Bool)
       (loopF (S := ((List Int) × Int)) (O := ((List Int)) ⊕ Bool) (fun ((s97, s98) : (List Int) × Int) =>
        bindS (S := Bool) (A := (((List Int) × Int) ⊕ (((List Int)) ⊕ Bool)))
         (cond ((decide (s98 < 32)))
          ((some (IntKind.i64.wrap (v49 + s98))).bind fun v53 =>
          some (.inl ((decide (v53 < v45)))))
          (some (.inl false)))
         (fun (s117 : Bool) =>
          cond (s117)
           (bindS (S := (List Int)) (A := (((List Int) × Int) ⊕ (((List Int)) ⊕ Bool)))
            ((some (IntKind.u64.wrap s98)).bind fun v59 =>
            (shrO .i64 v51 v59).bind fun v60 =>
            (some (bits .and .i64 v60 1)).bind fun v61 =>
            cond ((v61 == 1))
             ((some (IntKind.i64.wrap (v49 + s98))).bind fun v63 =>
             (quoO .i64 v63 8).bind fun v64 =>
             (some (IntKind.i64.wrap (v42 + v64))).bind fun v65 =>
             (some (IntKind.i64.wrap (v49 + s98))).bind fun v66 =>
             (quoO .i64 v66 8).bind fun v67 =>
             (some (IntKind.i64.wrap (v42 + v67))).bind fun v68 =>
             (ixO v68 s97.length).bind fun v69 =>
             (getO s97 v69).bind fun v70 =>
             (some (IntKind.i64.wrap (v49 + s98))).bind fun v71 =>
             (remO v71 8).bind fun v72 =>
             (some (IntKind.u64.wrap v72)).bind fun v73 =>
             (shlO .u8 1 v73).bind fun v74 =>
             (some (bits .xor .u8 v70 v74)).bind fun v75 =>
             (ixO v65 s97.length).bind fun v76 =>
             (some (s97.set v76 v75)).bind fun v77 =>
             some (.inl v77))
             (some (.inl s97)))
            (fun (s123 : (List Int)) =>
             (some (IntKind.i64.wrap (s98 + 1))).bind fun v83 =>
             some (.inl (s123, v83))) some)
           (some (.inr (.inl s97)))) some)
        BIG (v52, 0))
       (fun (s110 : (List Int)) =>
        (bundle_Read_ro s110).bind fun v128 =>
        bindS (S := Bool) (A := Bool)
         (cond ((v128.2 == 6))
          ((wherrykeep_Bundle v128.1 (T_Bundle.mk 0 0 [])).bind fun v129 =>
          cond (v129)
           ((wherrylaw17_wakes ).bind fun v130 =>
           some (.inl v130))
           (some (.inl false)))
          (some (.inl false)))
         (fun (s131 : Bool) =>
          some (s131)) some) some)) some))

end Go.Abs.Sh
