/-
  The program told in Lean: plain functions; none where Go would panic or a slice outgrow its room.
-/
import Derived.Test.YtpmngahekkagpaaDoorAN
set_option linter.unusedVariables false
namespace Go.Abs.Sh

structure T_Path where
  Null : Bool
  Local : ByteArray
  Domain : ByteArray
  deriving DecidableEq, Inhabited
def T_Path.enc (x : T_Path) : List Value := [.bool x.Null, .string x.Local, .string x.Domain]
theorem T_Path.len (x : T_Path) : (T_Path.enc x).length = 3 := rfl
def T_Path.wf (x : T_Path) : Prop := True ∧ wfS x.Local ∧ wfS x.Domain
def T_Path.wz (x : T_Path) : Prop := True ∧ wzS x.Local ∧ wzS x.Domain

def strings_splitSeq (s : ByteArray) (sep : ByteArray) (sepSave : Int) : Option (ByteArray × ByteArray × Int) :=
  some ((sep, s, sepSave))

def strings_SplitSeq (s : ByteArray) (sep : ByteArray) : Option (ByteArray × ByteArray × Int) :=
  (strings_splitSeq s sep 0).bind fun v1 =>
  some ((v1.1, v1.2.1, v1.2.2))

def unicode_utf8_decodeRuneInStringSlow (s : ByteArray) : Option (Int × Int) :=
  cond ((decide ((s.size : Int) < 1)))
    (some ((65533, 0)))
    (none)

def unicode_utf8_DecodeRuneInString (s : ByteArray) : Option (Int × Int) :=
  bindS (S := Bool) (A := (Int × Int))
    (cond ((!(s.toList == (⟨#[]⟩ : ByteArray).toList)))
      ((chrO s 0).bind fun v1 =>
      some (.inl ((decide (v1 < 128)))))
      (some (.inl false)))
    (fun (s2 : Bool) =>
      cond (s2)
        ((chrO s 0).bind fun v7 =>
        (some (IntKind.i32.wrap v7)).bind fun v8 =>
        some ((v8, 1)))
        ((unicode_utf8_decodeRuneInStringSlow s).bind fun v9 =>
        some ((v9.1, v9.2)))) some

def strings_splitSeq_1 {S : Type} (Y : ByteArray → S → Option (S × Bool)) (c0 : ByteArray) (c1 : ByteArray) (c2 : Int) (st : S) : Option S :=
  cond (((c0.size : Int) == 0))
    (bindS (S := (S)) (A := S)
      (loopF (S := (ByteArray × S)) (O := (S) ⊕ S) (fun ((s12, s13) : ByteArray × S) =>
        cond ((decide (0 < (s12.size : Int))))
          ((unicode_utf8_DecodeRuneInString s12).bind fun v3 =>
          (subO s12 0 v3.2).bind fun v4 =>
          (Y v4 s13).bind fun v5 =>
          cond ((!v5.2))
            (some (.inr (.inr (v5.1))))
            ((subO s12 v3.2 (s12.size : Int)).bind fun v7 =>
            some (.inl (v7, v5.1))))
          (some (.inr (.inl s13))))
        BIG (c1, st))
      (fun (s16 : S) =>
        some (s16)) some)
    (bindS (S := (ByteArray × S)) (A := S)
      (loopF (S := (ByteArray × S)) (O := (ByteArray × S) ⊕ S) (fun ((s37, s38) : ByteArray × S) =>
        (strings_Index s37 c0).bind fun v25 =>
        cond ((decide (v25 < 0)))
          (some (.inr (.inl (s37, s38))))
          ((some (IntKind.i64.wrap (v25 + c2))).bind fun v27 =>
          (subO s37 0 v27).bind fun v28 =>
          (Y v28 s38).bind fun v29 =>
          cond ((!v29.2))
            (some (.inr (.inr (v29.1))))
            ((some (IntKind.i64.wrap (v25 + (c0.size : Int)))).bind fun v31 =>
            (subO s37 v31 (s37.size : Int)).bind fun v32 =>
            some (.inl (v32, v29.1)))))
        BIG (c1, st))
      (fun ((s41, s42) : ByteArray × S) =>
        (Y s41 s42).bind fun v51 =>
        some (v51.1)) some)

def path_alphanumeric (c : Int) : Option Bool :=
  bindS (S := Bool) (A := Bool)
    (cond ((decide (48 ≤ c)))
      (cond ((decide (c ≤ 57)))
        (some (.inl true))
        (cond ((decide (65 ≤ c)))
          (cond ((decide (c ≤ 90)))
            (some (.inl true))
            (cond ((decide (97 ≤ c)))
              (some (.inl ((decide (c ≤ 122)))))
              (some (.inl false))))
          (cond ((decide (97 ≤ c)))
            (some (.inl ((decide (c ≤ 122)))))
            (some (.inl false)))))
      (cond ((decide (65 ≤ c)))
        (cond ((decide (c ≤ 90)))
          (some (.inl true))
          (cond ((decide (97 ≤ c)))
            (some (.inl ((decide (c ≤ 122)))))
            (some (.inl false))))
        (cond ((decide (97 ≤ c)))
          (some (.inl ((decide (c ≤ 122)))))
          (some (.inl false)))))
    (fun (s1 : Bool) =>
      some (s1)) some

def path_label_1 (c : Int) : Option Bool :=
  bindS (S := Bool) (A := Bool)
    ((path_alphanumeric c).bind fun v1 =>
    cond (v1)
      (some (.inl true))
      (some (.inl (c == 45))))
    (fun (s2 : Bool) =>
      some (s2)) some

def path_all_of_path_label_1 (s : ByteArray) : Option Bool :=
  bindS (S := (Unit)) (A := Bool)
    (loopF (S := (Int)) (O := (Unit) ⊕ Bool) (fun (s9 : Int) =>
      cond ((decide (s9 < (s.size : Int))))
        ((chrO s s9).bind fun v2 =>
        (path_label_1 v2).bind fun v3 =>
        cond ((!v3))
          (some (.inr (.inr (false))))
          ((some (IntKind.i64.wrap (s9 + 1))).bind fun v5 =>
          some (.inl v5)))
        (some (.inr (.inl ()))))
      BIG 0)
    (fun (() : Unit) =>
      some (true)) some

def path_label (s : ByteArray) : Option Bool :=
  bindS (S := Bool) (A := Bool)
    (cond ((!(s.toList == (⟨#[]⟩ : ByteArray).toList)))
      (cond ((decide ((s.size : Int) ≤ 63)))
        ((chrO s 0).bind fun v1 =>
        cond ((v1 != 45))
          ((some (IntKind.i64.wrap ((s.size : Int) - 1))).bind fun v2 =>
          (chrO s v2).bind fun v3 =>
          cond ((v3 != 45))
            ((path_all_of_path_label_1 s).bind fun v4 =>
            some (.inl v4))
            (some (.inl false)))
          (some (.inl false)))
        (some (.inl false)))
      (some (.inl false)))
    (fun (s5 : Bool) =>
      some (s5)) some

def path_dotted_of_path_label (s : ByteArray) : Option Bool :=
  (strings_SplitSeq s (⟨#[46]⟩ : ByteArray)).bind fun v1 =>
  bindS (S := (Unit)) (A := (Unit))
    (rangeS (S := (Unit)) (O := (Unit)) (fun Y st => Sh.strings_splitSeq_1 Y v1.1 v1.2.1 v1.2.2 st) (fun (x : ByteArray) (() : Unit) =>
      (path_label x).bind fun v2 =>
      cond ((!v2))
        (some (.inr ()))
        (some (.inl ())))
      ())
    (fun (() : Unit) =>
      some (true))
    (fun (() : Unit) =>
      some (false))

def path_Domain (s : ByteArray) : Option Bool :=
  bindS (S := Bool) (A := Bool)
    (cond ((decide ((s.size : Int) ≤ 255)))
      ((path_dotted_of_path_label s).bind fun v1 =>
      some (.inl v1))
      (some (.inl false)))
    (fun (s2 : Bool) =>
      some (s2)) some

def internal_stringslite_HasPrefix (s : ByteArray) (prefix_ : ByteArray) : Option Bool :=
  bindS (S := Bool) (A := Bool)
    (cond ((decide ((prefix_.size : Int) ≤ (s.size : Int))))
      ((subO s 0 (prefix_.size : Int)).bind fun v1 =>
      some (.inl (v1.toList == prefix_.toList)))
      (some (.inl false)))
    (fun (s2 : Bool) =>
      some (s2)) some

def internal_stringslite_CutPrefix (s : ByteArray) (prefix_ : ByteArray) : Option (ByteArray × Bool) :=
  (internal_stringslite_HasPrefix s prefix_).bind fun v1 =>
  cond ((!v1))
    (some ((s, false)))
    ((subO s (prefix_.size : Int) (s.size : Int)).bind fun v3 =>
    some ((v3, true)))

def strings_CutPrefix (s : ByteArray) (prefix_ : ByteArray) : Option (ByteArray × Bool) :=
  (internal_stringslite_CutPrefix s prefix_).bind fun v1 =>
  some ((v1.1, v1.2))

def internal_stringslite_HasSuffix (s : ByteArray) (suffix : ByteArray) : Option Bool :=
  bindS (S := Bool) (A := Bool)
    (cond ((decide ((suffix.size : Int) ≤ (s.size : Int))))
      ((some (IntKind.i64.wrap ((s.size : Int) - (suffix.size : Int)))).bind fun v1 =>
      (subO s v1 (s.size : Int)).bind fun v2 =>
      some (.inl (v2.toList == suffix.toList)))
      (some (.inl false)))
    (fun (s3 : Bool) =>
      some (s3)) some

def internal_stringslite_CutSuffix (s : ByteArray) (suffix : ByteArray) : Option (ByteArray × Bool) :=
  (internal_stringslite_HasSuffix s suffix).bind fun v1 =>
  cond ((!v1))
    (some ((s, false)))
    ((some (IntKind.i64.wrap ((s.size : Int) - (suffix.size : Int)))).bind fun v3 =>
    (subO s 0 v3).bind fun v4 =>
    some ((v4, true)))

def strings_CutSuffix (s : ByteArray) (suffix : ByteArray) : Option (ByteArray × Bool) :=
  (internal_stringslite_CutSuffix s suffix).bind fun v1 =>
  some ((v1.1, v1.2))

def internal_stringslite_Cut (s : ByteArray) (sep : ByteArray) : Option (ByteArray × ByteArray × Bool) :=
  (internal_stringslite_Index s sep).bind fun v1 =>
  cond ((decide (0 ≤ v1)))
    ((subO s 0 v1).bind fun v3 =>
    (some (IntKind.i64.wrap (v1 + (sep.size : Int)))).bind fun v4 =>
    (subO s v4 (s.size : Int)).bind fun v5 =>
    some ((v3, v5, true)))
    (some ((s, (⟨#[]⟩ : ByteArray), false)))

def strings_Cut (s : ByteArray) (sep : ByteArray) : Option (ByteArray × ByteArray × Bool) :=
  (internal_stringslite_Cut s sep).bind fun v1 =>
  some ((v1.1, v1.2.1, v1.2.2))

def path_atom_1 (c : Int) : Option Bool :=
  bindS (S := Bool) (A := Bool)
    ((path_alphanumeric c).bind fun v1 =>
    cond (v1)
      (some (.inl true))
      ((strings_IndexByte (⟨#[33, 35, 36, 37, 38, 39, 42, 43, 45, 47, 61, 63, 94, 95, 96, 123, 124, 125, 126]⟩ : ByteArray) c).bind fun v2 =>
      some (.inl ((decide (0 ≤ v2))))))
    (fun (s3 : Bool) =>
      some (s3)) some

def path_all_of_path_atom_1 (s : ByteArray) : Option Bool :=
  bindS (S := (Unit)) (A := Bool)
    (loopF (S := (Int)) (O := (Unit) ⊕ Bool) (fun (s9 : Int) =>
      cond ((decide (s9 < (s.size : Int))))
        ((chrO s s9).bind fun v2 =>
        (path_atom_1 v2).bind fun v3 =>
        cond ((!v3))
          (some (.inr (.inr (false))))
          ((some (IntKind.i64.wrap (s9 + 1))).bind fun v5 =>
          some (.inl v5)))
        (some (.inr (.inl ()))))
      BIG 0)
    (fun (() : Unit) =>
      some (true)) some

def path_atom (s : ByteArray) : Option Bool :=
  bindS (S := Bool) (A := Bool)
    (cond ((!(s.toList == (⟨#[]⟩ : ByteArray).toList)))
      ((path_all_of_path_atom_1 s).bind fun v1 =>
      some (.inl v1))
      (some (.inl false)))
    (fun (s2 : Bool) =>
      some (s2)) some

def path_dotted_of_path_atom (s : ByteArray) : Option Bool :=
  (strings_SplitSeq s (⟨#[46]⟩ : ByteArray)).bind fun v1 =>
  bindS (S := (Unit)) (A := (Unit))
    (rangeS (S := (Unit)) (O := (Unit)) (fun Y st => Sh.strings_splitSeq_1 Y v1.1 v1.2.1 v1.2.2 st) (fun (x : ByteArray) (() : Unit) =>
      (path_atom x).bind fun v2 =>
      cond ((!v2))
        (some (.inr ()))
        (some (.inl ())))
      ())
    (fun (() : Unit) =>
      some (true))
    (fun (() : Unit) =>
      some (false))

def path_local (s : ByteArray) : Option Bool :=
  bindS (S := Bool) (A := Bool)
    (cond ((decide ((s.size : Int) ≤ 64)))
      ((path_dotted_of_path_atom s).bind fun v1 =>
      some (.inl v1))
      (some (.inl false)))
    (fun (s2 : Bool) =>
      some (s2)) some

def path_Check (p : T_Path) : Option Int :=
  bindS (S := Bool) (A := Int)
    (cond ((!p.Null))
      ((path_local p.Local).bind fun v1 =>
      cond (v1)
        ((path_Domain p.Domain).bind fun v2 =>
        some (.inl v2))
        (some (.inl false)))
      (some (.inl false)))
    (fun (s3 : Bool) =>
      bindS (S := Bool) (A := Int)
        (cond ((!(((p.Null == true) && ((p.Local.toList == (⟨#[]⟩ : ByteArray).toList) && ((p.Domain.toList == (⟨#[]⟩ : ByteArray).toList) && true))))))
          (some (.inl (!s3)))
          (some (.inl false)))
        (fun (s7 : Bool) =>
          cond (s7)
            (some (5))
            (some (0))) some) some

def path_Parse (s : ByteArray) : Option (T_Path × Int) :=
  cond ((s.toList == (⟨#[60, 62]⟩ : ByteArray).toList))
    (some (((T_Path.mk true (⟨#[]⟩ : ByteArray) (⟨#[]⟩ : ByteArray)), 0)))
    ((strings_CutPrefix s (⟨#[60]⟩ : ByteArray)).bind fun v2 =>
    (strings_CutSuffix v2.1 (⟨#[62]⟩ : ByteArray)).bind fun v3 =>
    (strings_Cut v3.1 (⟨#[64]⟩ : ByteArray)).bind fun v4 =>
    bindS (S := Bool) (A := (T_Path × Int))
      (cond ((!v2.2))
        (some (.inl true))
        (cond ((!v3.2))
          (some (.inl true))
          (cond ((!v4.2.2))
            (some (.inl true))
            ((path_Check (T_Path.mk false v4.1 v4.2.1)).bind fun v5 =>
            some (.inl (v5 != 0))))))
      (fun (s6 : Bool) =>
        cond (s6)
          (some (((T_Path.mk false (⟨#[]⟩ : ByteArray) (⟨#[]⟩ : ByteArray)), 5)))
          (some (((T_Path.mk false v4.1 v4.2.1), 0)))) some)

def path_Text (p : T_Path) : Option (ByteArray × Int) :=
  (path_Check p).bind fun v1 =>
  cond ((v1 != 0))
    (some (((⟨#[]⟩ : ByteArray), v1)))
    (cond (p.Null)
      (some (((⟨#[60, 62]⟩ : ByteArray), 0)))
      ((catO (⟨#[60]⟩ : ByteArray) p.Local).bind fun v4 =>
      (catO v4 (⟨#[64]⟩ : ByteArray)).bind fun v5 =>
      (catO v5 p.Domain).bind fun v6 =>
      (catO v6 (⟨#[62]⟩ : ByteArray)).bind fun v7 =>
      some ((v7, 0))))

def path_Fold (s : ByteArray) : Option ByteArray :=
  (some (sbytes s)).bind fun v1 =>
  bindS (S := ((List Int))) (A := ByteArray)
    (loopF (S := ((List Int) × Int)) (O := ((List Int)) ⊕ ByteArray) (fun ((s40, s41) : (List Int) × Int) =>
      cond ((decide (s41 < (v1.length : Int))))
        (bindS (S := (List Int)) (A := (((List Int) × Int) ⊕ (((List Int)) ⊕ ByteArray)))
          ((ixO s41 s40.length).bind fun v3 =>
          (getO s40 v3).bind fun v4 =>
          bindS (S := Bool) (A := (((List Int)) ⊕ (((List Int) × Int) ⊕ (((List Int)) ⊕ ByteArray))))
            (cond ((decide (65 ≤ v4)))
              (some (.inl ((decide (v4 ≤ 90)))))
              (some (.inl false)))
            (fun (s74 : Bool) =>
              cond (s74)
                ((some (IntKind.u8.wrap (v4 + 32))).bind fun v10 =>
                (ixO s41 s40.length).bind fun v11 =>
                (some (s40.set v11 v10)).bind fun v12 =>
                some (.inl v12))
                (some (.inl s40))) some)
          (fun (s70 : (List Int)) =>
            (some (IntKind.i64.wrap (s41 + 1))).bind fun v22 =>
            some (.inl (s70, v22))) some)
        (some (.inr (.inl s40))))
      BIG (v1, 0))
    (fun (s57 : (List Int)) =>
      (some (bstr s57)).bind fun v79 =>
      some (v79)) some

def path_At (p : T_Path) (domain : ByteArray) : Option Bool :=
  bindS (S := Bool) (A := Bool)
    ((path_Check p).bind fun v1 =>
    cond ((v1 == 0))
      (cond ((!p.Null))
        ((path_Fold p.Domain).bind fun v2 =>
        (path_Fold domain).bind fun v3 =>
        some (.inl (v2.toList == v3.toList)))
        (some (.inl false)))
      (some (.inl false)))
    (fun (s4 : Bool) =>
      some (s4)) some

def path_Same (a : T_Path) (b : T_Path) : Option Bool :=
  bindS (S := Bool) (A := Bool)
    ((path_Check a).bind fun v1 =>
    cond ((v1 == 0))
      ((path_Check b).bind fun v2 =>
      cond ((v2 == 0))
        ((some (a.Null == b.Null)).bind fun v3 =>
        cond ((a.Null == b.Null))
          (cond ((a.Local.toList == b.Local.toList))
            ((path_Fold a.Domain).bind fun v4 =>
            (path_Fold b.Domain).bind fun v5 =>
            some (.inl (v4.toList == v5.toList)))
            (some (.inl false)))
          (some (.inl false)))
        (some (.inl false)))
      (some (.inl false)))
    (fun (s6 : Bool) =>
      some (s6)) some

def wherrylaw11_wakes : Option Bool :=
  (path_Parse (⟨#[60, 97, 46, 98, 64, 99, 45, 100, 46, 101, 120, 97, 109, 112, 108, 101, 62]⟩ : ByteArray)).bind fun v1 =>
  (path_Text (T_Path.mk v1.1.Null v1.1.Local v1.1.Domain)).bind fun v2 =>
  (path_Parse (⟨#[60, 62]⟩ : ByteArray)).bind fun v3 =>
  (path_Parse (⟨#[60, 97, 46, 46, 98, 64, 99, 62]⟩ : ByteArray)).bind fun v4 =>
  bindS (S := Bool) (A := Bool)
    (cond ((v1.2 == 0))
      (cond ((v2.2 == 0))
        (cond ((v3.2 == 0))
          (cond ((v4.2 == 5))
            (cond ((v1.1.Local.toList == (⟨#[97, 46, 98]⟩ : ByteArray).toList))
              (cond ((v1.1.Domain.toList == (⟨#[99, 45, 100, 46, 101, 120, 97, 109, 112, 108, 101]⟩ : ByteArray).toList))
                (cond ((v2.1.toList == (⟨#[60, 97, 46, 98, 64, 99, 45, 100, 46, 101, 120, 97, 109, 112, 108, 101, 62]⟩ : ByteArray).toList))
                  (cond (v3.1.Null)
                    ((path_Domain (⟨#[120]⟩ : ByteArray)).bind fun v5 =>
                    cond (v5)
                      ((path_Fold (⟨#[97, 90]⟩ : ByteArray)).bind fun v6 =>
                      cond ((v6.toList == (⟨#[97, 122]⟩ : ByteArray).toList))
                        ((path_At (T_Path.mk v1.1.Null v1.1.Local v1.1.Domain) (⟨#[67, 45, 68, 46, 69, 88, 65, 77, 80, 76, 69]⟩ : ByteArray)).bind fun v7 =>
                        cond (v7)
                          ((path_Same (T_Path.mk v1.1.Null v1.1.Local v1.1.Domain) (T_Path.mk v1.1.Null v1.1.Local v1.1.Domain)).bind fun v8 =>
                          some (.inl v8))
                          (some (.inl false)))
                        (some (.inl false)))
                      (some (.inl false)))
                    (some (.inl false)))
                  (some (.inl false)))
                (some (.inl false)))
              (some (.inl false)))
            (some (.inl false)))
          (some (.inl false)))
        (some (.inl false)))
      (some (.inl false)))
    (fun (s9 : Bool) =>
      some (s9)) some

def wherrylaw11_PathDomains (a : ByteArray) (b : ByteArray) (c : Int) : Option Bool :=
  (some (IntKind.i64.wrap ((a.size : Int) + (b.size : Int)))).bind fun v1 =>
  cond ((decide (1000 < v1)))
    (some (true))
    (bindS (S := Bool) (A := Bool)
      ((path_Domain a).bind fun v3 =>
      cond ((!v3))
        (some (.inl true))
        ((path_Domain b).bind fun v4 =>
        some (.inl (!v4))))
      (fun (s5 : Bool) =>
        cond (s5)
          (bindS (S := Bool) (A := Bool)
            ((path_Domain (⟨#[]⟩ : ByteArray)).bind fun v10 =>
            cond ((!v10))
              ((wherrylaw11_wakes ).bind fun v11 =>
              some (.inl v11))
              (some (.inl false)))
            (fun (s12 : Bool) =>
              some (s12)) some)
          (bindS (S := Bool) (A := Bool)
            (cond ((decide (97 ≤ c)))
              (cond ((decide (c ≤ 122)))
                (some (.inl true))
                (cond ((decide (65 ≤ c)))
                  (cond ((decide (c ≤ 90)))
                    (some (.inl true))
                    (cond ((decide (48 ≤ c)))
                      (cond ((decide (c ≤ 57)))
                        (some (.inl true))
                        (cond ((c == 45))
                          (some (.inl true))
                          (some (.inl (c == 46)))))
                      (cond ((c == 45))
                        (some (.inl true))
                        (some (.inl (c == 46))))))
                  (cond ((decide (48 ≤ c)))
                    (cond ((decide (c ≤ 57)))
                      (some (.inl true))
                      (cond ((c == 45))
                        (some (.inl true))
                        (some (.inl (c == 46)))))
                    (cond ((c == 45))
                      (some (.inl true))
                      (some (.inl (c == 46)))))))
              (cond ((decide (65 ≤ c)))
                (cond ((decide (c ≤ 90)))
                  (some (.inl true))
                  (cond ((decide (48 ≤ c)))
                    (cond ((decide (c ≤ 57)))
                      (some (.inl true))
                      (cond ((c == 45))
                        (some (.inl true))
                        (some (.inl (c == 46)))))
                    (cond ((c == 45))
                      (some (.inl true))
                      (some (.inl (c == 46))))))
                (cond ((decide (48 ≤ c)))
                  (cond ((decide (c ≤ 57)))
                    (some (.inl true))
                    (cond ((c == 45))
                      (some (.inl true))
                      (some (.inl (c == 46)))))
                  (cond ((c == 45))
                    (some (.inl true))
                    (some (.inl (c == 46)))))))
            (fun (s16 : Bool) =>
              bindS (S := Bool) (A := Bool)
                ((catO a (⟨#[46]⟩ : ByteArray)).bind fun v20 =>
                (catO v20 b).bind fun v21 =>
                (path_Domain v21).bind fun v22 =>
                (some (IntKind.i64.wrap ((a.size : Int) + (b.size : Int)))).bind fun v23 =>
                (some (v22 == ((decide (v23 < 255))))).bind fun v24 =>
                cond ((v22 == ((decide (v23 < 255)))))
                  ((catO a (⟨#[46, 46]⟩ : ByteArray)).bind fun v25 =>
                  (catO v25 b).bind fun v26 =>
                  (path_Domain v26).bind fun v27 =>
                  cond ((!v27))
                    ((catO (⟨#[45]⟩ : ByteArray) a).bind fun v28 =>
                    (path_Domain v28).bind fun v29 =>
                    cond ((!v29))
                      ((catO a (⟨#[45]⟩ : ByteArray)).bind fun v30 =>
                      (path_Domain v30).bind fun v31 =>
                      cond ((!v31))
                        ((catO a (⟨#[46]⟩ : ByteArray)).bind fun v32 =>
                        (path_Domain v32).bind fun v33 =>
                        cond ((!v33))
                          ((catO (⟨#[46]⟩ : ByteArray) a).bind fun v34 =>
                          (path_Domain v34).bind fun v35 =>
                          cond ((!v35))
                            (cond (s16)
                              ((wherrylaw11_wakes ).bind fun v36 =>
                              some (.inl v36))
                              ((some (bstr [c])).bind fun v37 =>
                              (catO a v37).bind fun v38 =>
                              (catO v38 b).bind fun v39 =>
                              (path_Domain v39).bind fun v40 =>
                              cond ((!v40))
                                ((wherrylaw11_wakes ).bind fun v41 =>
                                some (.inl v41))
                                (some (.inl false))))
                            (some (.inl false)))
                          (some (.inl false)))
                        (some (.inl false)))
                      (some (.inl false)))
                    (some (.inl false)))
                  (some (.inl false)))
                (fun (s42 : Bool) =>
                  some (s42)) some) some)) some)

def wherrykeep_Path (a : T_Path) (b : T_Path) : Option Bool :=
  bindS (S := Bool) (A := Bool)
    ((some (a.Null == b.Null)).bind fun v1 =>
    cond ((a.Null == b.Null))
      (cond ((a.Local.toList == b.Local.toList))
        (some (.inl (a.Domain.toList == b.Domain.toList)))
        (some (.inl false)))
      (some (.inl false)))
    (fun (s2 : Bool) =>
      some (s2)) some

def wherryref11_in (n : Int) (lo : Int) (hi : Int) : Option Bool :=
  bindS (S := Bool) (A := Bool)
    (cond ((decide (lo ≤ n)))
      (some (.inl ((decide (n ≤ hi)))))
      (some (.inl false)))
    (fun (s1 : Bool) =>
      some (s1)) some

def wherryref11_letter (c : Int) : Option Bool :=
  bindS (S := Bool) (A := Bool)
    (cond ((decide (97 ≤ c)))
      (cond ((decide (c ≤ 122)))
        (some (.inl true))
        (cond ((decide (65 ≤ c)))
          (some (.inl ((decide (c ≤ 90)))))
          (some (.inl false))))
      (cond ((decide (65 ≤ c)))
        (some (.inl ((decide (c ≤ 90)))))
        (some (.inl false))))
    (fun (s1 : Bool) =>
      some (s1)) some

def wherryref11_digit (c : Int) : Option Bool :=
  bindS (S := Bool) (A := Bool)
    (cond ((decide (48 ≤ c)))
      (some (.inl ((decide (c ≤ 57)))))
      (some (.inl false)))
    (fun (s1 : Bool) =>
      some (s1)) some

def wherryref11_sign (c : Int) : Option Bool :=
  bindS (S := Bool) (A := Bool)
    ((wherryref11_letter c).bind fun v1 =>
    cond (v1)
      (some (.inl true))
      ((wherryref11_digit c).bind fun v2 =>
      some (.inl v2)))
    (fun (s3 : Bool) =>
      cond (s3)
        (some (true))
        (bindS (S := (Unit)) (A := Bool)
          (loopF (S := (Int)) (O := (Unit) ⊕ Bool) (fun (s15 : Int) =>
            cond ((decide (s15 < (((⟨#[33, 35, 36, 37, 38, 39, 42, 43, 45, 47, 61, 63, 94, 95, 123, 124, 125, 126]⟩ : ByteArray).size : Int)))))
              ((chrO (⟨#[33, 35, 36, 37, 38, 39, 42, 43, 45, 47, 61, 63, 94, 95, 123, 124, 125, 126]⟩ : ByteArray) s15).bind fun v9 =>
              cond ((v9 == c))
                (some (.inr (.inr (true))))
                ((some (IntKind.i64.wrap (s15 + 1))).bind fun v11 =>
                some (.inl v11)))
              (some (.inr (.inl ()))))
            BIG 0)
          (fun (() : Unit) =>
            some ((c == 96))) some)) some

def wherryref11_Local (s : ByteArray) : Option Bool :=
  bindS (S := Bool) (A := Bool)
    ((wherryref11_in (s.size : Int) 1 64).bind fun v1 =>
    cond ((!v1))
      (some (.inl true))
      ((chrO s 0).bind fun v2 =>
      cond ((v2 == 46))
        (some (.inl true))
        ((some (IntKind.i64.wrap ((s.size : Int) - 1))).bind fun v3 =>
        (chrO s v3).bind fun v4 =>
        some (.inl (v4 == 46)))))
    (fun (s5 : Bool) =>
      cond (s5)
        (some (false))
        (bindS (S := (Unit)) (A := Bool)
          (loopF (S := (Int)) (O := (Unit) ⊕ Bool) (fun (s33 : Int) =>
            cond ((decide (s33 < (s.size : Int))))
              (bindS (S := Bool) (A := ((Int) ⊕ ((Unit) ⊕ Bool)))
                ((chrO s s33).bind fun v11 =>
                cond ((v11 == 46))
                  ((some (IntKind.i64.wrap (s33 - 1))).bind fun v12 =>
                  (chrO s v12).bind fun v13 =>
                  cond ((v13 == 46))
                    (some (.inl true))
                    ((chrO s s33).bind fun v14 =>
                    cond ((v14 != 46))
                      ((chrO s s33).bind fun v15 =>
                      (wherryref11_sign v15).bind fun v16 =>
                      some (.inl (!v16)))
                      (some (.inl false))))
                  ((chrO s s33).bind fun v17 =>
                  cond ((v17 != 46))
                    ((chrO s s33).bind fun v18 =>
                    (wherryref11_sign v18).bind fun v19 =>
                    some (.inl (!v19)))
                    (some (.inl false))))
                (fun (s47 : Bool) =>
                  cond (s47)
                    (some (.inr (.inr (false))))
                    ((some (IntKind.i64.wrap (s33 + 1))).bind fun v25 =>
                    some (.inl v25))) some)
              (some (.inr (.inl ()))))
            BIG 0)
          (fun (() : Unit) =>
            some (true)) some)) some

def wherryref11_Domain (s : ByteArray) : Option Bool :=
  (wherryref11_in (s.size : Int) 1 255).bind fun v1 =>
  cond ((!v1))
    (some (false))
    (bindS (S := (Unit)) (A := Bool)
      (loopF (S := (Int × Int)) (O := (Unit) ⊕ Bool) (fun ((s88, s89) : Int × Int) =>
        cond ((decide (s89 ≤ (s.size : Int))))
          (bindS (S := Int) (A := ((Int × Int) ⊕ ((Unit) ⊕ Bool)))
            (bindS (S := Bool) (A := (Int ⊕ ((Int × Int) ⊕ ((Unit) ⊕ Bool))))
              (cond ((decide (s89 < (s.size : Int))))
                ((chrO s s89).bind fun v4 =>
                some (.inl (v4 != 46)))
                (some (.inl false)))
              (fun (s151 : Bool) =>
                cond (s151)
                  (bindS (S := Bool) (A := (Int ⊕ ((Int × Int) ⊕ ((Unit) ⊕ Bool))))
                    ((chrO s s89).bind fun v10 =>
                    (wherryref11_letter v10).bind fun v11 =>
                    cond ((!v11))
                      ((chrO s s89).bind fun v12 =>
                      (wherryref11_digit v12).bind fun v13 =>
                      cond ((!v13))
                        ((chrO s s89).bind fun v14 =>
                        some (.inl (v14 != 45)))
                        (some (.inl false)))
                      (some (.inl false)))
                    (fun (s156 : Bool) =>
                      cond (s156)
                        (some (.inr (.inr (.inr (false)))))
                        (some (.inl s88))) some)
                  (bindS (S := Bool) (A := (Int ⊕ ((Int × Int) ⊕ ((Unit) ⊕ Bool))))
                    ((some (IntKind.i64.wrap (s89 - s88))).bind fun v20 =>
                    (wherryref11_in v20 1 63).bind fun v21 =>
                    cond ((!v21))
                      (some (.inl true))
                      ((chrO s s88).bind fun v22 =>
                      cond ((v22 == 45))
                        (some (.inl true))
                        ((some (IntKind.i64.wrap (s89 - 1))).bind fun v23 =>
                        (chrO s v23).bind fun v24 =>
                        some (.inl (v24 == 45)))))
                    (fun (s161 : Bool) =>
                      cond (s161)
                        (some (.inr (.inr (.inr (false)))))
                        ((some (IntKind.i64.wrap (s89 + 1))).bind fun v30 =>
                        some (.inl v30))) some)) some)
            (fun (s147 : Int) =>
              (some (IntKind.i64.wrap (s89 + 1))).bind fun v50 =>
              some (.inl (s147, v50))) some)
          (some (.inr (.inl ()))))
        BIG (0, 0))
      (fun (() : Unit) =>
        some (true)) some)

def wherryref11_Path (p : T_Path) : Option Bool :=
  cond (p.Null)
    (bindS (S := Bool) (A := Bool)
      (cond ((p.Local.toList == (⟨#[]⟩ : ByteArray).toList))
        (some (.inl ((p.Domain.toList == (⟨#[]⟩ : ByteArray).toList))))
        (some (.inl false)))
      (fun (s2 : Bool) =>
        some (s2)) some)
    (bindS (S := Bool) (A := Bool)
      ((wherryref11_Local p.Local).bind fun v6 =>
      cond (v6)
        ((wherryref11_Domain p.Domain).bind fun v7 =>
        some (.inl v7))
        (some (.inl false)))
      (fun (s8 : Bool) =>
        some (s8)) some)

def wherryref11_keep (p : T_Path) (ok : Bool) : Option (T_Path × Bool) :=
  cond ((!ok))
    (some (((T_Path.mk false (⟨#[]⟩ : ByteArray) (⟨#[]⟩ : ByteArray)), false)))
    (some ((p, true)))

def wherryref11_Parse (s : ByteArray) : Option (T_Path × Bool) :=
  cond ((s.toList == (⟨#[60, 62]⟩ : ByteArray).toList))
    (some (((T_Path.mk true (⟨#[]⟩ : ByteArray) (⟨#[]⟩ : ByteArray)), true)))
    (bindS (S := Bool) (A := (T_Path × Bool))
      (cond ((decide ((s.size : Int) < 2)))
        (some (.inl true))
        ((chrO s 0).bind fun v2 =>
        cond ((v2 != 60))
          (some (.inl true))
          ((some (IntKind.i64.wrap ((s.size : Int) - 1))).bind fun v3 =>
          (chrO s v3).bind fun v4 =>
          some (.inl (v4 != 62)))))
      (fun (s5 : Bool) =>
        cond (s5)
          (some (((T_Path.mk false (⟨#[]⟩ : ByteArray) (⟨#[]⟩ : ByteArray)), false)))
          ((some (IntKind.i64.wrap ((s.size : Int) - 1))).bind fun v10 =>
          (subO s 1 v10).bind fun v11 =>
          bindS (S := (Unit)) (A := (T_Path × Bool))
            (loopF (S := (Int)) (O := (Unit) ⊕ (T_Path × Bool)) (fun (s24 : Int) =>
              cond ((decide (s24 < (v11.size : Int))))
                ((chrO v11 s24).bind fun v13 =>
                cond ((v13 == 64))
                  ((subO v11 0 s24).bind fun v15 =>
                  (some (IntKind.i64.wrap (s24 + 1))).bind fun v16 =>
                  (subO v11 v16 (v11.size : Int)).bind fun v17 =>
                  (wherryref11_Path (T_Path.mk false v15 v17)).bind fun v18 =>
                  (wherryref11_keep (T_Path.mk false v15 v17) v18).bind fun v19 =>
                  some (.inr (.inr ((v19.1, v19.2)))))
                  ((some (IntKind.i64.wrap (s24 + 1))).bind fun v20 =>
                  some (.inl v20)))
                (some (.inr (.inl ()))))
              BIG 0)
            (fun (() : Unit) =>
              some (((T_Path.mk false (⟨#[]⟩ : ByteArray) (⟨#[]⟩ : ByteArray)), false))) some)) some)

def wherryref11_Text (p : T_Path) : Option ByteArray :=
  cond (p.Null)
    (some ((⟨#[60, 62]⟩ : ByteArray)))
    ((catO (⟨#[60]⟩ : ByteArray) p.Local).bind fun v2 =>
    (catO v2 (⟨#[64]⟩ : ByteArray)).bind fun v3 =>
    (catO v3 p.Domain).bind fun v4 =>
    (catO v4 (⟨#[62]⟩ : ByteArray)).bind fun v5 =>
    some (v5))

def wherryref11_Fold (s : ByteArray) : Option ByteArray :=
  bindS (S := ((List Int))) (A := ByteArray)
    (loopF (S := ((List Int) × Int)) (O := ((List Int)) ⊕ ByteArray) (fun ((s37, s38) : (List Int) × Int) =>
      cond ((decide (s38 < (s.size : Int))))
        ((chrO s s38).bind fun v2 =>
        bindS (S := Int) (A := (((List Int) × Int) ⊕ (((List Int)) ⊕ ByteArray)))
          (bindS (S := Bool) (A := (Int ⊕ (((List Int) × Int) ⊕ (((List Int)) ⊕ ByteArray))))
            (cond ((decide (65 ≤ v2)))
              (some (.inl ((decide (v2 ≤ 90)))))
              (some (.inl false)))
            (fun (s71 : Bool) =>
              cond (s71)
                ((some (IntKind.u8.wrap (v2 + 32))).bind fun v8 =>
                some (.inl v8))
                (some (.inl v2))) some)
          (fun (s67 : Int) =>
            (appO 1 s37 [s67]).bind fun v18 =>
            (some (IntKind.i64.wrap (s38 + 1))).bind fun v19 =>
            some (.inl (v18, v19))) some)
        (some (.inr (.inl s37))))
      BIG ([], 0))
    (fun (s54 : (List Int)) =>
      (some (bstr s54)).bind fun v76 =>
      some (v76)) some

def wherryref11_Same (a : T_Path) (b : T_Path) : Option Bool :=
  bindS (S := Bool) (A := Bool)
    ((wherryref11_Path a).bind fun v1 =>
    cond (v1)
      ((wherryref11_Path b).bind fun v2 =>
      cond (v2)
        ((some (a.Null == b.Null)).bind fun v3 =>
        cond ((a.Null == b.Null))
          (cond ((a.Local.toList == b.Local.toList))
            ((wherryref11_Fold a.Domain).bind fun v4 =>
            (wherryref11_Fold b.Domain).bind fun v5 =>
            some (.inl (v4.toList == v5.toList)))
            (some (.inl false)))
          (some (.inl false)))
        (some (.inl false)))
      (some (.inl false)))
    (fun (s6 : Bool) =>
      some (s6)) some

def wherryref11_At (p : T_Path) (domain : ByteArray) : Option Bool :=
  bindS (S := Bool) (A := Bool)
    ((wherryref11_Path p).bind fun v1 =>
    cond (v1)
      (cond ((!p.Null))
        ((wherryref11_Fold p.Domain).bind fun v2 =>
        (wherryref11_Fold domain).bind fun v3 =>
        some (.inl (v2.toList == v3.toList)))
        (some (.inl false)))
      (some (.inl false)))
    (fun (s4 : Bool) =>
      some (s4)) some

def wherrylaw11_PathExact (p : T_Path) (q : T_Path) (s : ByteArray) : Option Bool :=
  (some (IntKind.i64.wrap ((p.Local.size : Int) + (p.Domain.size : Int)))).bind fun v1 =>
  (some (IntKind.i64.wrap (v1 + (q.Local.size : Int)))).bind fun v2 =>
  (some (IntKind.i64.wrap (v2 + (q.Domain.size : Int)))).bind fun v3 =>
  (some (IntKind.i64.wrap (v3 + (s.size : Int)))).bind fun v4 =>
  cond ((decide (2000 < v4)))
    (some (true))
    ((path_Parse s).bind fun v6 =>
    (wherryref11_Parse s).bind fun v7 =>
    (path_Text p).bind fun v8 =>
    (wherryref11_Path p).bind fun v9 =>
    bindS (S := Bool) (A := Bool)
      ((path_Check p).bind fun v10 =>
      (some (!((v10 == 0) == v9))).bind fun v11 =>
      cond ((!((v10 == 0) == v9)))
        (some (.inl true))
        (cond ((!v9))
          ((path_Check p).bind fun v12 =>
          cond ((v12 != 5))
            (some (.inl true))
            ((path_Domain s).bind fun v13 =>
            (wherryref11_Domain s).bind fun v14 =>
            (some (!(v13 == v14))).bind fun v15 =>
            cond ((!(v13 == v14)))
              (some (.inl true))
              ((some (!((v6.2 == 0) == v7.2))).bind fun v16 =>
              cond ((!((v6.2 == 0) == v7.2)))
                (some (.inl true))
                (cond ((!v7.2))
                  (cond ((v6.2 != 5))
                    (some (.inl true))
                    ((wherrykeep_Path v6.1 v7.1).bind fun v17 =>
                    some (.inl (!v17))))
                  ((wherrykeep_Path v6.1 v7.1).bind fun v18 =>
                  some (.inl (!v18)))))))
          ((path_Domain s).bind fun v19 =>
          (wherryref11_Domain s).bind fun v20 =>
          (some (!(v19 == v20))).bind fun v21 =>
          cond ((!(v19 == v20)))
            (some (.inl true))
            ((some (!((v6.2 == 0) == v7.2))).bind fun v22 =>
            cond ((!((v6.2 == 0) == v7.2)))
              (some (.inl true))
              (cond ((!v7.2))
                (cond ((v6.2 != 5))
                  (some (.inl true))
                  ((wherrykeep_Path v6.1 v7.1).bind fun v23 =>
                  some (.inl (!v23))))
                ((wherrykeep_Path v6.1 v7.1).bind fun v24 =>
                some (.inl (!v24))))))))
      (fun (s25 : Bool) =>
        cond (s25)
          (some (false))
          (bindS (S := Bool) (A := Bool)
            (cond (v9)
              (cond ((v8.2 != 0))
                (some (.inl true))
                ((wherryref11_Text p).bind fun v30 =>
                cond ((!(v8.1.toList == v30.toList)))
                  (some (.inl true))
                  (cond ((!v9))
                    (cond ((v8.2 != 5))
                      (some (.inl true))
                      (some (.inl ((!(v8.1.toList == (⟨#[]⟩ : ByteArray).toList))))))
                    (some (.inl false)))))
              (cond ((!v9))
                (cond ((v8.2 != 5))
                  (some (.inl true))
                  (some (.inl ((!(v8.1.toList == (⟨#[]⟩ : ByteArray).toList))))))
                (some (.inl false))))
            (fun (s31 : Bool) =>
              cond (s31)
                (some (false))
                (bindS (S := Bool) (A := Bool)
                  ((path_Same p q).bind fun v36 =>
                  (wherryref11_Same p q).bind fun v37 =>
                  (some (v36 == v37)).bind fun v38 =>
                  cond ((v36 == v37))
                    ((path_At p s).bind fun v39 =>
                    (wherryref11_At p s).bind fun v40 =>
                    (some (v39 == v40)).bind fun v41 =>
                    cond ((v39 == v40))
                      ((path_Fold s).bind fun v42 =>
                      (wherryref11_Fold s).bind fun v43 =>
                      cond ((v42.toList == v43.toList))
                        ((wherrylaw11_wakes ).bind fun v44 =>
                        some (.inl v44))
                        (some (.inl false)))
                      (some (.inl false)))
                    (some (.inl false)))
                  (fun (s45 : Bool) =>
                    some (s45)) some)) some)) some)

def wherrylaw11_PathBack (p : T_Path) (s : ByteArray) : Option Bool :=
  (some (IntKind.i64.wrap ((p.Local.size : Int) + (p.Domain.size : Int)))).bind fun v1 =>
  (some (IntKind.i64.wrap (v1 + (s.size : Int)))).bind fun v2 =>
  cond ((decide (2000 < v2)))
    (some (true))
    (bindS (S := Unit) (A := Bool)
      ((path_Text p).bind fun v4 =>
      cond ((v4.2 == 0))
        ((path_Parse v4.1).bind fun v6 =>
        bindS (S := Bool) (A := (Unit ⊕ Bool))
          (cond ((v6.2 != 0))
            (some (.inl true))
            ((wherrykeep_Path p v6.1).bind fun v7 =>
            cond ((!v7))
              (some (.inl true))
              ((path_Check p).bind fun v8 =>
              some (.inl (v8 != 0)))))
          (fun (s18 : Bool) =>
            cond (s18)
              (some (.inr (false)))
              (some (.inl ()))) some)
        (some (.inl ())))
      (fun (() : Unit) =>
        (path_Parse s).bind fun v23 =>
        cond ((v23.2 != 0))
          ((wherrylaw11_wakes ).bind fun v25 =>
          some (v25))
          ((path_Text v23.1).bind fun v26 =>
          bindS (S := Bool) (A := Bool)
            (cond ((v26.2 == 0))
              (cond ((v26.1.toList == s.toList))
                ((path_Check v23.1).bind fun v27 =>
                cond ((v27 == 0))
                  ((wherrylaw11_wakes ).bind fun v28 =>
                  some (.inl v28))
                  (some (.inl false)))
                (some (.inl false)))
              (some (.inl false)))
            (fun (s29 : Bool) =>
              some (s29)) some)) some)

end Go.Abs.Sh
