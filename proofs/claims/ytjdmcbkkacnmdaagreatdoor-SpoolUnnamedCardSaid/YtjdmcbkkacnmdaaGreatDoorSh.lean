/-
 The program told in Lean: plain functions; none where Go would panic or a slice outgrow its room.
-/
import Derived.Test.YtjdmcbkkacnmdaaGreatDoorAN
set_option linter.unusedVariables false
namespace Go.Abs.Sh

structure T_Path where
 Null : Bool
 Local : ByteArray
 Domain : ByteArray
 deriving DecidableEq, Inhabited
def T_Path.enc (x : T_Path) : List Value := [.bool x.Null, .string x.Local, .string x.Domain]
theorem T_Path.len (x : T_Path) : (T_Path.enc x).length = 3 := rfl
def T_Path.wf (x : T_Path) : Prop := True ∧ wfS x.Local ∧ wfS x.Domain
def T_Path.wz (x : T_Path) : Prop := True ∧ wzS x.Local ∧ wzS x.Domain

structure T_Mail where
 From : T_Path
 To : (List T_Path)
 Body : (List Int)
 Quiet : Bool
 Helo : ByteArray
 At : Int
 deriving DecidableEq, Inhabited
def T_Mail.ienc (x : T_Mail) : List IC := [.v (.bool x.From.Null), .v (.string x.From.Local), .v (.string x.From.Domain), .row 3 (List.map IC.v (List.flatten (List.map T_Path.enc x.To))), .row 1 (List.map IC.v (List.map (Value.int .u8) x.Body)), .v (.bool x.Quiet), .v (.string x.Helo), .v (.int .i64 x.At)]
theorem T_Mail.ilen (x : T_Mail) : (T_Mail.ienc x).length = 8 := rfl
def T_Mail.wf (x : T_Mail) : Prop := T_Path.wf x.From ∧ wfL T_Path.wf x.To ∧ wfL (wfI .u8) x.Body ∧ True ∧ wfS x.Helo ∧ wfI .i64 x.At
def T_Mail.wz (x : T_Mail) : Prop := T_Path.wz x.From ∧ (wzL 40 T_Path.wz) x.To ∧ (wzL 1 (wfI .u8)) x.Body ∧ True ∧ wzS x.Helo ∧ (wfI .i64) x.At

structure T_Rec where
 Kind : Int
 Mail : T_Mail
 Id : Int
 Ids : (List Int)
 Origin : Int
 Number : Int
 Offset : Int
 Data : (List Int)
 deriving DecidableEq, Inhabited
def T_Rec.ienc (x : T_Rec) : List IC := [.v (.int .i64 x.Kind), .v (.bool x.Mail.From.Null), .v (.string x.Mail.From.Local), .v (.string x.Mail.From.Domain), .row 3 (List.map IC.v (List.flatten (List.map T_Path.enc x.Mail.To))), .row 1 (List.map IC.v (List.map (Value.int .u8) x.Mail.Body)), .v (.bool x.Mail.Quiet), .v (.string x.Mail.Helo), .v (.int .i64 x.Mail.At), .v (.int .i64 x.Id), .row 1 (List.map IC.v (List.map (Value.int .i64) x.Ids)), .v (.int .i64 x.Origin), .v (.int .i64 x.Number), .v (.int .i64 x.Offset), .row 1 (List.map IC.v (List.map (Value.int .u8) x.Data))]
theorem T_Rec.ilen (x : T_Rec) : (T_Rec.ienc x).length = 15 := rfl
def T_Rec.wf (x : T_Rec) : Prop := wfI .i64 x.Kind ∧ T_Mail.wf x.Mail ∧ wfI .i64 x.Id ∧ wfL (wfI .i64) x.Ids ∧ wfI .i64 x.Origin ∧ wfI .i64 x.Number ∧ wfI .i64 x.Offset ∧ wfL (wfI .u8) x.Data
def T_Rec.wz (x : T_Rec) : Prop := (wfI .i64) x.Kind ∧ T_Mail.wz x.Mail ∧ (wfI .i64) x.Id ∧ (wzL 8 (wfI .i64)) x.Ids ∧ (wfI .i64) x.Origin ∧ (wfI .i64) x.Number ∧ (wfI .i64) x.Offset ∧ (wzL 1 (wfI .u8)) x.Data

structure T_Item where
 Id : Int
 Mail : T_Mail
 State : Int
 Pack : Int
 deriving DecidableEq, Inhabited
def T_Item.ienc (x : T_Item) : List IC := [.v (.int .i64 x.Id), .v (.bool x.Mail.From.Null), .v (.string x.Mail.From.Local), .v (.string x.Mail.From.Domain), .row 3 (List.map IC.v (List.flatten (List.map T_Path.enc x.Mail.To))), .row 1 (List.map IC.v (List.map (Value.int .u8) x.Mail.Body)), .v (.bool x.Mail.Quiet), .v (.string x.Mail.Helo), .v (.int .i64 x.Mail.At), .v (.int .i64 x.State), .v (.int .i64 x.Pack)]
theorem T_Item.ilen (x : T_Item) : (T_Item.ienc x).length = 11 := rfl
def T_Item.wf (x : T_Item) : Prop := wfI .i64 x.Id ∧ T_Mail.wf x.Mail ∧ wfI .i64 x.State ∧ wfI .i64 x.Pack
def T_Item.wz (x : T_Item) : Prop := (wfI .i64) x.Id ∧ T_Mail.wz x.Mail ∧ (wfI .i64) x.State ∧ (wfI .i64) x.Pack

structure T_Spool where
 Items : (List T_Item)
 Packs : Int
 Sent : (List Int)
 Part : (List Int)
 Of : Int
 Done : (List Int)
 deriving DecidableEq, Inhabited
def T_Spool.ienc (x : T_Spool) : List IC := [.row 11 (List.flatten (List.map T_Item.ienc x.Items)), .v (.int .i64 x.Packs), .row 1 (List.map IC.v (List.map (Value.int .i64) x.Sent)), .row 1 (List.map IC.v (List.map (Value.int .u8) x.Part)), .v (.int .i64 x.Of), .row 1 (List.map IC.v (List.map (Value.int .i64) x.Done))]
theorem T_Spool.ilen (x : T_Spool) : (T_Spool.ienc x).length = 6 := rfl
def T_Spool.wf (x : T_Spool) : Prop := wfL T_Item.wf x.Items ∧ wfI .i64 x.Packs ∧ wfL (wfI .i64) x.Sent ∧ wfL (wfI .u8) x.Part ∧ wfI .i64 x.Of ∧ wfL (wfI .i64) x.Done
def T_Spool.wz (x : T_Spool) : Prop := (wzL 144 T_Item.wz) x.Items ∧ (wfI .i64) x.Packs ∧ (wzL 8 (wfI .i64)) x.Sent ∧ (wzL 1 (wfI .u8)) x.Part ∧ (wfI .i64) x.Of ∧ (wzL 8 (wfI .i64)) x.Done

def wherrylaw17_Heavy (l : (List T_Mail)) : Option Bool :=
 cond ((decide (20 < (l.length : Int))))
  (some (true))
  (bindS (S := (Int)) (A := Bool)
   (loopF (S := (Int × Int)) (O := (Int) ⊕ Bool) (fun ((s66, s67) : Int × Int) =>
    cond ((decide (s67 < (l.length : Int))))
     ((ixO s67 l.length).bind fun v3 =>
     (getO l v3).bind fun v4 =>
     (some (IntKind.i64.wrap (s66 + (v4.Body.length : Int)))).bind fun v5 =>
     (ixO s67 l.length).bind fun v6 =>
     (getO l v6).bind fun v7 =>
     (some (IntKind.i64.wrap (v5 + (v7.Helo.size : Int)))).bind fun v8 =>
     (ixO s67 l.length).bind fun v9 =>
     (getO l v9).bind fun v10 =>
     (some (IntKind.i64.wrap (v8 + (v10.From.Local.size : Int)))).bind fun v11 =>
     (ixO s67 l.length).bind fun v12 =>
     (getO l v12).bind fun v13 =>
     (some (IntKind.i64.wrap (v11 + (v13.From.Domain.size : Int)))).bind fun v14 =>
     (ixO s67 l.length).bind fun v15 =>
     (getO l v15).bind fun v16 =>
     cond ((decide (40 < (v16.To.length : Int))))
      (some (.inr (.inr (true))))
      (bindS (S := (Int)) (A := ((Int × Int) ⊕ ((Int) ⊕ Bool)))
       (loopF (S := (Int × Int)) (O := (Int) ⊕ ((Int × Int) ⊕ ((Int) ⊕ Bool))) (fun ((s98, s99) : Int × Int) =>
        (ixO s67 l.length).bind fun v18 =>
        (getO l v18).bind fun v19 =>
        cond ((decide (s99 < (v19.To.length : Int))))
         ((ixO s67 l.length).bind fun v21 =>
         (getO l v21).bind fun v22 =>
         (ixO s99 v22.To.length).bind fun v23 =>
         (getO v22.To v23).bind fun v24 =>
         (some (IntKind.i64.wrap (s98 + (v24.Local.size : Int)))).bind fun v25 =>
         (ixO s67 l.length).bind fun v26 =>
         (getO l v26).bind fun v27 =>
         (ixO s99 v27.To.length).bind fun v28 =>
         (getO v27.To v28).bind fun v29 =>
         (some (IntKind.i64.wrap (v25 + (v29.Domain.size : Int)))).bind fun v30 =>
         (some (IntKind.i64.wrap (s99 + 1))).bind fun v31 =>
         some (.inl (v30, v31)))
         (some (.inr (.inl s98))))
        BIG (v14, 0))
       (fun (s101 : Int) =>
        (some (IntKind.i64.wrap (s67 + 1))).bind fun v46 =>
        some (.inl (s101, v46))) some))
     (some (.inr (.inl s66))))
    BIG (0, 0))
   (fun (s85 : Int) =>
    some ((decide (20000 < s85)))) some)

def wherrylaw18_Heavy (l : (List T_Rec)) : Option Bool :=
 cond ((decide (60 < (l.length : Int))))
  (some (true))
  (bindS (S := (Unit)) (A := Bool)
   (loopF (S := (Int)) (O := (Unit) ⊕ Bool) (fun (s23 : Int) =>
    cond ((decide (s23 < (l.length : Int))))
     (bindS (S := Bool) (A := ((Int) ⊕ ((Unit) ⊕ Bool)))
      ((ixO s23 l.length).bind fun v3 =>
      (getO l v3).bind fun v4 =>
      cond ((decide (600 < (v4.Data.length : Int))))
       (some (.inl true))
       ((ixO s23 l.length).bind fun v5 =>
       (getO l v5).bind fun v6 =>
       cond ((decide (60 < (v6.Ids.length : Int))))
        (some (.inl true))
        ((ixO s23 l.length).bind fun v7 =>
        (getO l v7).bind fun v8 =>
        (wherrylaw17_Heavy [(T_Mail.mk (T_Path.mk v8.Mail.From.Null v8.Mail.From.Local v8.Mail.From.Domain) v8.Mail.To v8.Mail.Body v8.Mail.Quiet v8.Mail.Helo v8.Mail.At)]).bind fun v9 =>
        some (.inl v9))))
      (fun (s37 : Bool) =>
       cond (s37)
        (some (.inr (.inr (true))))
        ((some (IntKind.i64.wrap (s23 + 1))).bind fun v15 =>
        some (.inl v15))) some)
     (some (.inr (.inl ()))))
    BIG 0)
   (fun (() : Unit) =>
    some (false)) some)

def wherryref18_Nothing : Option T_Spool :=
 some ((T_Spool.mk [] 0 [] [] (-1) []))

def wherrykeep_TwinInts (l : (List Int)) : Option (List Int) :=
 (appO 8 ([] : List Int) l).bind fun v1 =>
 some (v1)

def wherrykeep_Twin (l : (List Int)) : Option (List Int) :=
 (appO 1 ([] : List Int) l).bind fun v1 =>
 some (v1)

def wherrykeep_TwinPaths (l : (List T_Path)) : Option (List T_Path) :=
 (appO 40 ([] : List T_Path) l).bind fun v1 =>
 some (v1)

def wherrykeep_TwinMail (m : T_Mail) : Option T_Mail :=
 (wherrykeep_TwinPaths m.To).bind fun v1 =>
 (wherrykeep_Twin m.Body).bind fun v2 =>
 some ((T_Mail.mk (T_Path.mk m.From.Null m.From.Local m.From.Domain) v1 v2 m.Quiet m.Helo m.At))

def wherrykeep_TwinSpool (s : T_Spool) : Option T_Spool :=
 (wherrykeep_TwinInts s.Sent).bind fun v1 =>
 (wherrykeep_Twin s.Part).bind fun v2 =>
 (wherrykeep_TwinInts s.Done).bind fun v3 =>
 bindS (S := ((List T_Item))) (A := T_Spool)
  (loopF (S := ((List T_Item) × Int)) (O := ((List T_Item)) ⊕ T_Spool) (fun ((s13, s14) : (List T_Item) × Int) =>
   cond ((decide (s14 < (s.Items.length : Int))))
    ((ixO s14 s.Items.length).bind fun v5 =>
    (getO s.Items v5).bind fun v6 =>
    (wherrykeep_TwinMail ((T_Mail.mk (T_Path.mk v6.Mail.From.Null v6.Mail.From.Local v6.Mail.From.Domain) v6.Mail.To v6.Mail.Body v6.Mail.Quiet v6.Mail.Helo v6.Mail.At))).bind fun v7 =>
    (appO 144 s13 [(T_Item.mk v6.Id ((T_Mail.mk (T_Path.mk v7.From.Null v7.From.Local v7.From.Domain) v7.To v7.Body v7.Quiet v7.Helo v7.At)) v6.State v6.Pack)]).bind fun v8 =>
    (some (IntKind.i64.wrap (s14 + 1))).bind fun v9 =>
    some (.inl (v8, v9)))
    (some (.inr (.inl s13))))
   BIG ([], 0))
  (fun (s16 : (List T_Item)) =>
   some ((T_Spool.mk s16 s.Packs v1 v2 s.Of v3))) some

def wherryref18_in (n : Int) (lo : Int) (hi : Int) : Option Bool :=
 bindS (S := Bool) (A := Bool)
  (cond ((decide (lo ≤ n)))
   (some (.inl ((decide (n ≤ hi)))))
   (some (.inl false)))
  (fun (s1 : Bool) =>
   some (s1)) some

def wherryref11_in (n : Int) (lo : Int) (hi : Int) : Option Bool :=
 bindS (S := Bool) (A := Bool)
  (cond ((decide (lo ≤ n)))
   (some (.inl ((decide (n ≤ hi)))))
   (some (.inl false)))
  (fun (s1 : Bool) =>
   some (s1)) some

def wherryref11_letter (c : Int) : Option Bool :=
 bindS (S := Bool) (A := Bool)
  (cond ((decide (97 ≤ c)))
   (cond ((decide (c ≤ 122)))
    (some (.inl true))
    (cond ((decide (65 ≤ c)))
     (some (.inl ((decide (c ≤ 90)))))
     (some (.inl false))))
   (cond ((decide (65 ≤ c)))
    (some (.inl ((decide (c ≤ 90)))))
    (some (.inl false))))
  (fun (s1 : Bool) =>
   some (s1)) some

def wherryref11_digit (c : Int) : Option Bool :=
 bindS (S := Bool) (A := Bool)
  (cond ((decide (48 ≤ c)))
   (some (.inl ((decide (c ≤ 57)))))
   (some (.inl false)))
  (fun (s1 : Bool) =>
   some (s1)) some

def wherryref11_sign (c : Int) : Option Bool :=
 bindS (S := Bool) (A := Bool)
  ((wherryref11_letter c).bind fun v1 =>
  cond (v1)
   (some (.inl true))
   ((wherryref11_digit c).bind fun v2 =>
   some (.inl v2)))
  (fun (s3 : Bool) =>
   cond (s3)
    (some (true))
    (bindS (S := (Unit)) (A := Bool)
     (loopF (S := (Int)) (O := (Unit) ⊕ Bool) (fun (s15 : Int) =>
      cond ((decide (s15 < (((⟨#[33, 35, 36, 37, 38, 39, 42, 43, 45, 47, 61, 63, 94, 95, 123, 124, 125, 126]⟩ : ByteArray).size : Int)))))
       ((chrO (⟨#[33, 35, 36, 37, 38, 39, 42, 43, 45, 47, 61, 63, 94, 95, 123, 124, 125, 126]⟩ : ByteArray) s15).bind fun v9 =>
       cond ((v9 == c))
        (some (.inr (.inr (true))))
        ((some (IntKind.i64.wrap (s15 + 1))).bind fun v11 =>
        some (.inl v11)))
       (some (.inr (.inl ()))))
      BIG 0)
     (fun (() : Unit) =>
      some ((c == 96))) some)) some

def wherryref11_Local (s : ByteArray) : Option Bool :=
 bindS (S := Bool) (A := Bool)
  ((wherryref11_in (s.size : Int) 1 64).bind fun v1 =>
  cond ((!v1))
   (some (.inl true))
   ((chrO s 0).bind fun v2 =>
   cond ((v2 == 46))
    (some (.inl true))
    ((some (IntKind.i64.wrap ((s.size : Int) - 1))).bind fun v3 =>
    (chrO s v3).bind fun v4 =>
    some (.inl (v4 == 46)))))
  (fun (s5 : Bool) =>
   cond (s5)
    (some (false))
    (bindS (S := (Unit)) (A := Bool)
     (loopF (S := (Int)) (O := (Unit) ⊕ Bool) (fun (s33 : Int) =>
      cond ((decide (s33 < (s.size : Int))))
       (bindS (S := Bool) (A := ((Int) ⊕ ((Unit) ⊕ Bool)))
        ((chrO s s33).bind fun v11 =>
        cond ((v11 == 46))
         ((some (IntKind.i64.wrap (s33 - 1))).bind fun v12 =>
         (chrO s v12).bind fun v13 =>
         cond ((v13 == 46))
          (some (.inl true))
          ((chrO s s33).bind fun v14 =>
          cond ((v14 != 46))
           ((chrO s s33).bind fun v15 =>
           (wherryref11_sign v15).bind fun v16 =>
           some (.inl (!v16)))
           (some (.inl false))))
         ((chrO s s33).bind fun v17 =>
         cond ((v17 != 46))
          ((chrO s s33).bind fun v18 =>
          (wherryref11_sign v18).bind fun v19 =>
          some (.inl (!v19)))
          (some (.inl false))))
        (fun (s47 : Bool) =>
         cond (s47)
          (some (.inr (.inr (false))))
          ((some (IntKind.i64.wrap (s33 + 1))).bind fun v25 =>
          some (.inl v25))) some)
       (some (.inr (.inl ()))))
      BIG 0)
     (fun (() : Unit) =>
      some (true)) some)) some

def wherryref11_Domain (s : ByteArray) : Option Bool :=
 (wherryref11_in (s.size : Int) 1 255).bind fun v1 =>
 cond ((!v1))
  (some (false))
  (bindS (S := (Unit)) (A := Bool)
   (loopF (S := (Int × Int)) (O := (Unit) ⊕ Bool) (fun ((s88, s89) : Int × Int) =>
    cond ((decide (s89 ≤ (s.size : Int))))
     (bindS (S := Int) (A := ((Int × Int) ⊕ ((Unit) ⊕ Bool)))
      (bindS (S := Bool) (A := (Int ⊕ ((Int × Int) ⊕ ((Unit) ⊕ Bool))))
       (cond ((decide (s89 < (s.size : Int))))
        ((chrO s s89).bind fun v4 =>
        some (.inl (v4 != 46)))
        (some (.inl false)))
       (fun (s151 : Bool) =>
        cond (s151)
         (bindS (S := Bool) (A := (Int ⊕ ((Int × Int) ⊕ ((Unit) ⊕ Bool))))
          ((chrO s s89).bind fun v10 =>
          (wherryref11_letter v10).bind fun v11 =>
          cond ((!v11))
           ((chrO s s89).bind fun v12 =>
           (wherryref11_digit v12).bind fun v13 =>
           cond ((!v13))
            ((chrO s s89).bind fun v14 =>
            some (.inl (v14 != 45)))
            (some (.inl false)))
           (some (.inl false)))
          (fun (s156 : Bool) =>
           cond (s156)
            (some (.inr (.inr (.inr (false)))))
            (some (.inl s88))) some)
         (bindS (S := Bool) (A := (Int ⊕ ((Int × Int) ⊕ ((Unit) ⊕ Bool))))
          ((some (IntKind.i64.wrap (s89 - s88))).bind fun v20 =>
          (wherryref11_in v20 1 63).bind fun v21 =>
          cond ((!v21))
           (some (.inl true))
           ((chrO s s88).bind fun v22 =>
           cond ((v22 == 45))
            (some (.inl true))
            ((some (IntKind.i64.wrap (s89 - 1))).bind fun v23 =>
            (chrO s v23).bind fun v24 =>
            some (.inl (v24 == 45)))))
          (fun (s161 : Bool) =>
           cond (s161)
            (some (.inr (.inr (.inr (false)))))
            ((some (IntKind.i64.wrap (s89 + 1))).bind fun v30 =>
            some (.inl v30))) some)) some)
      (fun (s147 : Int) =>
       (some (IntKind.i64.wrap (s89 + 1))).bind fun v50 =>
       some (.inl (s147, v50))) some)
     (some (.inr (.inl ()))))
    BIG (0, 0))
   (fun (() : Unit) =>
    some (true)) some)

def wherryref11_Path (p : T_Path) : Option Bool :=
 cond (p.Null)
  (bindS (S := Bool) (A := Bool)
   (cond ((p.Local.toList == (⟨#[]⟩ : ByteArray).toList))
    (some (.inl ((p.Domain.toList == (⟨#[]⟩ : ByteArray).toList))))
    (some (.inl false)))
   (fun (s2 : Bool) =>
    some (s2)) some)
  (bindS (S := Bool) (A := Bool)
   ((wherryref11_Local p.Local).bind fun v6 =>
   cond (v6)
    ((wherryref11_Domain p.Domain).bind fun v7 =>
    some (.inl v7))
    (some (.inl false)))
   (fun (s8 : Bool) =>
    some (s8)) some)

def wherryref11_Body (b : (List Int)) : Option Bool :=
 bindS (S := (Unit)) (A := Bool)
  (loopF (S := (Int)) (O := (Unit) ⊕ Bool) (fun (s31 : Int) =>
   cond ((decide (s31 < (b.length : Int))))
    (bindS (S := Bool) (A := ((Int) ⊕ ((Unit) ⊕ Bool)))
     ((ixO s31 b.length).bind fun v2 =>
     (getO b v2).bind fun v3 =>
     cond ((v3 == 13))
      ((some (IntKind.i64.wrap (s31 + 1))).bind fun v4 =>
      cond ((decide ((b.length : Int) ≤ v4)))
       (some (.inl true))
       ((some (IntKind.i64.wrap (s31 + 1))).bind fun v5 =>
       (ixO v5 b.length).bind fun v6 =>
       (getO b v6).bind fun v7 =>
       cond ((v7 != 10))
        (some (.inl true))
        ((ixO s31 b.length).bind fun v8 =>
        (getO b v8).bind fun v9 =>
        cond ((v9 == 10))
         (cond ((s31 == 0))
          (some (.inl true))
          ((some (IntKind.i64.wrap (s31 - 1))).bind fun v10 =>
          (ixO v10 b.length).bind fun v11 =>
          (getO b v11).bind fun v12 =>
          some (.inl (v12 != 13))))
         (some (.inl false)))))
      ((ixO s31 b.length).bind fun v13 =>
      (getO b v13).bind fun v14 =>
      cond ((v14 == 10))
       (cond ((s31 == 0))
        (some (.inl true))
        ((some (IntKind.i64.wrap (s31 - 1))).bind fun v15 =>
        (ixO v15 b.length).bind fun v16 =>
        (getO b v16).bind fun v17 =>
        some (.inl (v17 != 13))))
       (some (.inl false))))
     (fun (s45 : Bool) =>
      cond (s45)
       (some (.inr (.inr (false))))
       ((some (IntKind.i64.wrap (s31 + 1))).bind fun v23 =>
       some (.inl v23))) some)
    (some (.inr (.inl ()))))
   BIG 0)
  (fun (() : Unit) =>
   bindS (S := Bool) (A := Bool)
    (cond (((b.length : Int) == 0))
     (some (.inl true))
     ((some (IntKind.i64.wrap ((b.length : Int) - 1))).bind fun v50 =>
     (ixO v50 b.length).bind fun v51 =>
     (getO b v51).bind fun v52 =>
     some (.inl (v52 == 10))))
    (fun (s53 : Bool) =>
     some (s53)) some) some

def wherryref18_mail (m : T_Mail) : Option Bool :=
 bindS (S := Bool) (A := Bool)
  ((wherryref11_Path (T_Path.mk m.From.Null m.From.Local m.From.Domain)).bind fun v1 =>
  cond ((!v1))
   (some (.inl true))
   ((wherryref18_in (m.To.length : Int) 1 8).bind fun v2 =>
   cond ((!v2))
    (some (.inl true))
    ((wherryref11_Body m.Body).bind fun v3 =>
    cond ((!v3))
     (some (.inl true))
     ((wherryref18_in m.At 0 1099511627776).bind fun v4 =>
     some (.inl (!v4))))))
  (fun (s5 : Bool) =>
   cond (s5)
    (some (false))
    (bindS (S := (Unit)) (A := Bool)
     (loopF (S := (Int)) (O := (Unit) ⊕ Bool) (fun (s29 : Int) =>
      cond ((decide (s29 < (m.To.length : Int))))
       (bindS (S := Bool) (A := ((Int) ⊕ ((Unit) ⊕ Bool)))
        ((ixO s29 m.To.length).bind fun v11 =>
        (getO m.To v11).bind fun v12 =>
        (wherryref11_Path v12).bind fun v13 =>
        cond ((!v13))
         (some (.inl true))
         ((ixO s29 m.To.length).bind fun v14 =>
         (getO m.To v14).bind fun v15 =>
         some (.inl v15.Null)))
        (fun (s43 : Bool) =>
         cond (s43)
          (some (.inr (.inr (false))))
          ((some (IntKind.i64.wrap (s29 + 1))).bind fun v21 =>
          some (.inl v21))) some)
       (some (.inr (.inl ()))))
      BIG 0)
     (fun (() : Unit) =>
      some (true)) some)) some

def wherryref18_has (l : (List Int)) (n : Int) : Option Bool :=
 bindS (S := (Unit)) (A := Bool)
  (loopF (S := (Int)) (O := (Unit) ⊕ Bool) (fun (s9 : Int) =>
   cond ((decide (s9 < (l.length : Int))))
    ((ixO s9 l.length).bind fun v2 =>
    (getO l v2).bind fun v3 =>
    cond ((v3 == n))
     (some (.inr (.inr (true))))
     ((some (IntKind.i64.wrap (s9 + 1))).bind fun v5 =>
     some (.inl v5)))
    (some (.inr (.inl ()))))
   BIG 0)
  (fun (() : Unit) =>
   some (false)) some

def wherrykeep_Path (a : T_Path) (b : T_Path) : Option Bool :=
 bindS (S := Bool) (A := Bool)
  ((some (a.Null == b.Null)).bind fun v1 =>
  cond ((a.Null == b.Null))
   (cond ((a.Local.toList == b.Local.toList))
    (some (.inl (a.Domain.toList == b.Domain.toList)))
    (some (.inl false)))
   (some (.inl false)))
  (fun (s2 : Bool) =>
   some (s2)) some

def wherrykeep_Paths (a : (List T_Path)) (b : (List T_Path)) : Option Bool :=
 cond (((a.length : Int) != (b.length : Int)))
  (some (false))
  (bindS (S := (Unit)) (A := Bool)
   (loopF (S := (Int)) (O := (Unit) ⊕ Bool) (fun (s13 : Int) =>
    cond ((decide (s13 < (a.length : Int))))
     ((ixO s13 a.length).bind fun v3 =>
     (getO a v3).bind fun v4 =>
     (ixO s13 b.length).bind fun v5 =>
     (getO b v5).bind fun v6 =>
     (wherrykeep_Path v4 v6).bind fun v7 =>
     cond ((!v7))
      (some (.inr (.inr (false))))
      ((some (IntKind.i64.wrap (s13 + 1))).bind fun v9 =>
      some (.inl v9)))
     (some (.inr (.inl ()))))
    BIG 0)
   (fun (() : Unit) =>
    some (true)) some)

def wherrykeep_Bytes (a : (List Int)) (b : (List Int)) : Option Bool :=
 cond (((a.length : Int) != (b.length : Int)))
  (some (false))
  (bindS (S := (Unit)) (A := Bool)
   (loopF (S := (Int)) (O := (Unit) ⊕ Bool) (fun (s12 : Int) =>
    cond ((decide (s12 < (a.length : Int))))
     ((ixO s12 a.length).bind fun v3 =>
     (getO a v3).bind fun v4 =>
     (ixO s12 b.length).bind fun v5 =>
     (getO b v5).bind fun v6 =>
     cond ((v4 != v6))
      (some (.inr (.inr (false))))
      ((some (IntKind.i64.wrap (s12 + 1))).bind fun v8 =>
      some (.inl v8)))
     (some (.inr (.inl ()))))
    BIG 0)
   (fun (() : Unit) =>
    some (true)) some)

def wherrykeep_Mail (a : T_Mail) (b : T_Mail) : Option Bool :=
 bindS (S := Bool) (A := Bool)
  ((wherrykeep_Path (T_Path.mk a.From.Null a.From.Local a.From.Domain) (T_Path.mk b.From.Null b.From.Local b.From.Domain)).bind fun v1 =>
  cond (v1)
   ((wherrykeep_Paths a.To b.To).bind fun v2 =>
   cond (v2)
    ((wherrykeep_Bytes a.Body b.Body).bind fun v3 =>
    cond (v3)
     ((some (a.Quiet == b.Quiet)).bind fun v4 =>
     cond ((a.Quiet == b.Quiet))
      (cond ((a.Helo.toList == b.Helo.toList))
       (some (.inl (a.At == b.At)))
       (some (.inl false)))
      (some (.inl false)))
     (some (.inl false)))
    (some (.inl false)))
   (some (.inl false)))
  (fun (s5 : Bool) =>
   some (s5)) some

def wherrykeep_Ints (a : (List Int)) (b : (List Int)) : Option Bool :=
 cond (((a.length : Int) != (b.length : Int)))
  (some (false))
  (bindS (S := (Unit)) (A := Bool)
   (loopF (S := (Int)) (O := (Unit) ⊕ Bool) (fun (s12 : Int) =>
    cond ((decide (s12 < (a.length : Int))))
     ((ixO s12 a.length).bind fun v3 =>
     (getO a v3).bind fun v4 =>
     (ixO s12 b.length).bind fun v5 =>
     (getO b v5).bind fun v6 =>
     cond ((v4 != v6))
      (some (.inr (.inr (false))))
      ((some (IntKind.i64.wrap (s12 + 1))).bind fun v8 =>
      some (.inl v8)))
     (some (.inr (.inl ()))))
    BIG 0)
   (fun (() : Unit) =>
    some (true)) some)

def wherrykeep_Rec (a : T_Rec) (b : T_Rec) : Option Bool :=
 bindS (S := Bool) (A := Bool)
  (cond ((a.Kind == b.Kind))
   ((wherrykeep_Mail ((T_Mail.mk (T_Path.mk a.Mail.From.Null a.Mail.From.Local a.Mail.From.Domain) a.Mail.To a.Mail.Body a.Mail.Quiet a.Mail.Helo a.Mail.At)) ((T_Mail.mk (T_Path.mk b.Mail.From.Null b.Mail.From.Local b.Mail.From.Domain) b.Mail.To b.Mail.Body b.Mail.Quiet b.Mail.Helo b.Mail.At))).bind fun v1 =>
   cond (v1)
    (cond ((a.Id == b.Id))
     ((wherrykeep_Ints a.Ids b.Ids).bind fun v2 =>
     cond (v2)
      (cond ((a.Origin == b.Origin))
       (cond ((a.Number == b.Number))
        (cond ((a.Offset == b.Offset))
         ((wherrykeep_Bytes a.Data b.Data).bind fun v3 =>
         some (.inl v3))
         (some (.inl false)))
        (some (.inl false)))
       (some (.inl false)))
      (some (.inl false)))
     (some (.inl false)))
    (some (.inl false)))
   (some (.inl false)))
  (fun (s4 : Bool) =>
   some (s4)) some

def wherryref18_Add (s : T_Spool) (p_r : T_Rec) : Option (T_Spool × Int) :=
 (wherrykeep_TwinSpool s).bind fun v1 =>
 bindS (S := (List T_Item) × Int × (List Int) × (List Int) × Int × (List Int) × Bool × ByteArray × ByteArray × (List T_Path) × (List Int) × Bool × ByteArray × Int × Int × (List Int) × Int × Int × Int × (List Int) × Bool) (A := (T_Spool × Int))
  (bindS (S := (List T_Item) × Int × (List Int) × (List Int) × Int × (List Int) × Bool × ByteArray × ByteArray × (List T_Path) × (List Int) × Bool × ByteArray × Int × Int × (List Int) × Int × Int × Int × (List Int) × Bool) (A := (((List T_Item) × Int × (List Int) × (List Int) × Int × (List Int) × Bool × ByteArray × ByteArray × (List T_Path) × (List Int) × Bool × ByteArray × Int × Int × (List Int) × Int × Int × Int × (List Int) × Bool) ⊕ (T_Spool × Int)))
   (cond ((p_r.Kind == 1))
    (bindS (S := Bool) (A := (((List T_Item) × Int × (List Int) × (List Int) × Int × (List Int) × Bool × ByteArray × ByteArray × (List T_Path) × (List Int) × Bool × ByteArray × Int × Int × (List Int) × Int × Int × Int × (List Int) × Bool) ⊕ (((List T_Item) × Int × (List Int) × (List Int) × Int × (List Int) × Bool × ByteArray × ByteArray × (List T_Path) × (List Int) × Bool × ByteArray × Int × Int × (List Int) × Int × Int × Int × (List Int) × Bool) ⊕ (T_Spool × Int))))
     ((some (IntKind.i64.wrap ((s.Items.length : Int) + 1))).bind fun v3 =>
     cond ((p_r.Id == v3))
      (cond ((decide ((s.Items.length : Int) < 60)))
       ((wherryref18_in p_r.Origin 0 1).bind fun v4 =>
       cond (v4)
        ((wherryref18_mail ((T_Mail.mk (T_Path.mk p_r.Mail.From.Null p_r.Mail.From.Local p_r.Mail.From.Domain) p_r.Mail.To p_r.Mail.Body p_r.Mail.Quiet p_r.Mail.Helo p_r.Mail.At))).bind fun v5 =>
        some (.inl v5))
        (some (.inl false)))
       (some (.inl false)))
      (some (.inl false)))
     (fun (s1036 : Bool) =>
      bindS (S := Int) (A := (((List T_Item) × Int × (List Int) × (List Int) × Int × (List Int) × Bool × ByteArray × ByteArray × (List T_Path) × (List Int) × Bool × ByteArray × Int × Int × (List Int) × Int × Int × Int × (List Int) × Bool) ⊕ (((List T_Item) × Int × (List Int) × (List Int) × Int × (List Int) × Bool × ByteArray × ByteArray × (List T_Path) × (List Int) × Bool × ByteArray × Int × Int × (List Int) × Int × Int × Int × (List Int) × Bool) ⊕ (T_Spool × Int))))
       (cond ((p_r.Origin == 0))
        (some (.inl 3))
        (some (.inl 1)))
       (fun (s1041 : Int) =>
        (wherrykeep_TwinMail ((T_Mail.mk (T_Path.mk p_r.Mail.From.Null p_r.Mail.From.Local p_r.Mail.From.Domain) p_r.Mail.To p_r.Mail.Body p_r.Mail.Quiet p_r.Mail.Helo p_r.Mail.At))).bind fun v16 =>
        (appO 144 v1.Items [(T_Item.mk p_r.Id ((T_Mail.mk (T_Path.mk v16.From.Null v16.From.Local v16.From.Domain) v16.To v16.Body v16.Quiet v16.Helo v16.At)) s1041 0)]).bind fun v17 =>
        some (.inl (v17, v1.Packs, v1.Sent, v1.Part, v1.Of, v1.Done, p_r.Mail.From.Null, p_r.Mail.From.Local, p_r.Mail.From.Domain, p_r.Mail.To, p_r.Mail.Body, p_r.Mail.Quiet, p_r.Mail.Helo, p_r.Mail.At, p_r.Id, [], p_r.Origin, 0, 0, [], s1036))) some) some)
    (cond ((p_r.Kind == 2))
     (bindS (S := Bool) (A := (((List T_Item) × Int × (List Int) × (List Int) × Int × (List Int) × Bool × ByteArray × ByteArray × (List T_Path) × (List Int) × Bool × ByteArray × Int × Int × (List Int) × Int × Int × Int × (List Int) × Bool) ⊕ (((List T_Item) × Int × (List Int) × (List Int) × Int × (List Int) × Bool × ByteArray × ByteArray × (List T_Path) × (List Int) × Bool × ByteArray × Int × Int × (List Int) × Int × Int × Int × (List Int) × Bool) ⊕ (T_Spool × Int))))
      ((some (IntKind.i64.wrap (s.Packs + 1))).bind fun v19 =>
      cond ((p_r.Number == v19))
       ((wherryref18_in (p_r.Ids.length : Int) 1 4).bind fun v20 =>
       some (.inl v20))
       (some (.inl false)))
      (fun (s1047 : Bool) =>
       bindS (S := ((List T_Item) × Bool)) (A := (((List T_Item) × Int × (List Int) × (List Int) × Int × (List Int) × Bool × ByteArray × ByteArray × (List T_Path) × (List Int) × Bool × ByteArray × Int × Int × (List Int) × Int × Int × Int × (List Int) × Bool) ⊕ (((List T_Item) × Int × (List Int) × (List Int) × Int × (List Int) × Bool × ByteArray × ByteArray × (List T_Path) × (List Int) × Bool × ByteArray × Int × Int × (List Int) × Int × Int × Int × (List Int) × Bool) ⊕ (T_Spool × Int))))
        (loopF (S := ((List T_Item) × Bool × Int)) (O := ((List T_Item) × Bool) ⊕ (((List T_Item) × Int × (List Int) × (List Int) × Int × (List Int) × Bool × ByteArray × ByteArray × (List T_Path) × (List Int) × Bool × ByteArray × Int × Int × (List Int) × Int × Int × Int × (List Int) × Bool) ⊕ (((List T_Item) × Int × (List Int) × (List Int) × Int × (List Int) × Bool × ByteArray × ByteArray × (List T_Path) × (List Int) × Bool × ByteArray × Int × Int × (List Int) × Int × Int × Int × (List Int) × Bool) ⊕ (T_Spool × Int)))) (fun ((s1094, s1095, s1096) : (List T_Item) × Bool × Int) =>
         bindS (S := Bool) (A := (((List T_Item) × Bool × Int) ⊕ (((List T_Item) × Bool) ⊕ (((List T_Item) × Int × (List Int) × (List Int) × Int × (List Int) × Bool × ByteArray × ByteArray × (List T_Path) × (List Int) × Bool × ByteArray × Int × Int × (List Int) × Int × Int × Int × (List Int) × Bool) ⊕ (((List T_Item) × Int × (List Int) × (List Int) × Int × (List Int) × Bool × ByteArray × ByteArray × (List T_Path) × (List Int) × Bool × ByteArray × Int × Int × (List Int) × Int × Int × Int × (List Int) × Bool) ⊕ (T_Spool × Int))))))
          (cond ((decide (s1096 < (p_r.Ids.length : Int))))
           (some (.inl s1095))
           (some (.inl false)))
          (fun (s1125 : Bool) =>
           cond (s1125)
            (bindS (S := (List T_Item) × Bool) (A := (((List T_Item) × Bool × Int) ⊕ (((List T_Item) × Bool) ⊕ (((List T_Item) × Int × (List Int) × (List Int) × Int × (List Int) × Bool × ByteArray × ByteArray × (List T_Path) × (List Int) × Bool × ByteArray × Int × Int × (List Int) × Int × Int × Int × (List Int) × Bool) ⊕ (((List T_Item) × Int × (List Int) × (List Int) × Int × (List Int) × Bool × ByteArray × ByteArray × (List T_Path) × (List Int) × Bool × ByteArray × Int × Int × (List Int) × Int × Int × Int × (List Int) × Bool) ⊕ (T_Spool × Int))))))
             (bindS (S := Bool) (A := (((List T_Item) × Bool) ⊕ (((List T_Item) × Bool × Int) ⊕ (((List T_Item) × Bool) ⊕ (((List T_Item) × Int × (List Int) × (List Int) × Int × (List Int) × Bool × ByteArray × ByteArray × (List T_Path) × (List Int) × Bool × ByteArray × Int × Int × (List Int) × Int × Int × Int × (List Int) × Bool) ⊕ (((List T_Item) × Int × (List Int) × (List Int) × Int × (List Int) × Bool × ByteArray × ByteArray × (List T_Path) × (List Int) × Bool × ByteArray × Int × Int × (List Int) × Int × Int × Int × (List Int) × Bool) ⊕ (T_Spool × Int)))))))
              ((ixO s1096 p_r.Ids.length).bind fun v30 =>
              (getO p_r.Ids v30).bind fun v31 =>
              (wherryref18_in v31 1 (s.Items.length : Int)).bind fun v32 =>
              cond (v32)
               ((ixO s1096 p_r.Ids.length).bind fun v33 =>
               (getO p_r.Ids v33).bind fun v34 =>
               (some (IntKind.i64.wrap (v34 - 1))).bind fun v35 =>
               (ixO v35 s.Items.length).bind fun v36 =>
               (getO s.Items v36).bind fun v37 =>
               cond ((v37.State == 1))
                (cond ((s1096 == 0))
                 (some (.inl true))
                 ((ixO s1096 p_r.Ids.length).bind fun v38 =>
                 (getO p_r.Ids v38).bind fun v39 =>
                 (some (IntKind.i64.wrap (s1096 - 1))).bind fun v40 =>
                 (ixO v40 p_r.Ids.length).bind fun v41 =>
                 (getO p_r.Ids v41).bind fun v42 =>
                 some (.inl ((decide (v42 < v39))))))
                (some (.inl false)))
               (some (.inl false)))
              (fun (s1140 : Bool) =>
               cond (s1140)
                ((ixO s1096 p_r.Ids.length).bind fun v48 =>
                (getO p_r.Ids v48).bind fun v49 =>
                (some (IntKind.i64.wrap (v49 - 1))).bind fun v50 =>
                (ixO s1096 p_r.Ids.length).bind fun v51 =>
                (getO p_r.Ids v51).bind fun v52 =>
                (some (IntKind.i64.wrap (v52 - 1))).bind fun v53 =>
                (ixO v50 s1094.length).bind fun v54 =>
                (getO s1094 v54).bind fun v55 =>
                (some (s1094.set v54 ((T_Item.mk v55.Id ((T_Mail.mk (T_Path.mk v55.Mail.From.Null v55.Mail.From.Local v55.Mail.From.Domain) v55.Mail.To v55.Mail.Body v55.Mail.Quiet v55.Mail.Helo v55.Mail.At)) 2 v55.Pack)))).bind fun v56 =>
                (ixO v53 s1094.length).bind fun v57 =>
                (getO v56 v57).bind fun v58 =>
                (some (v56.set v57 ((T_Item.mk v58.Id ((T_Mail.mk (T_Path.mk v58.Mail.From.Null v58.Mail.From.Local v58.Mail.From.Domain) v58.Mail.To v58.Mail.Body v58.Mail.Quiet v58.Mail.Helo v58.Mail.At)) v58.State p_r.Number)))).bind fun v59 =>
                some (.inl (v59, s1140)))
                (some (.inl (s1094, s1140)))) some)
             (fun ((s1135, s1136) : (List T_Item) × Bool) =>
              (some (IntKind.i64.wrap (s1096 + 1))).bind fun v70 =>
              some (.inl (s1135, s1136, v70))) some)
            (some (.inr (.inl (s1094, s1095))))) some)
         BIG (v1.Items, s1047, 0))
        (fun ((s1117, s1118) : (List T_Item) × Bool) =>
         some (.inl ((s1117, p_r.Number, v1.Sent, v1.Part, v1.Of, v1.Done, false, (⟨#[]⟩ : ByteArray), (⟨#[]⟩ : ByteArray), [], [], false, (⟨#[]⟩ : ByteArray), 0, 0, p_r.Ids, 0, p_r.Number, 0, [], s1118)))) some) some)
     (cond ((p_r.Kind == 3))
      (bindS (S := Bool) (A := (((List T_Item) × Int × (List Int) × (List Int) × Int × (List Int) × Bool × ByteArray × ByteArray × (List T_Path) × (List Int) × Bool × ByteArray × Int × Int × (List Int) × Int × Int × Int × (List Int) × Bool) ⊕ (((List T_Item) × Int × (List Int) × (List Int) × Int × (List Int) × Bool × ByteArray × ByteArray × (List T_Path) × (List Int) × Bool × ByteArray × Int × Int × (List Int) × Int × Int × Int × (List Int) × Bool) ⊕ (T_Spool × Int))))
       ((wherryref18_in p_r.Number 1 s.Packs).bind fun v146 =>
       cond (v146)
        ((wherryref18_has s.Sent p_r.Number).bind fun v147 =>
        some (.inl (!v147)))
        (some (.inl false)))
       (fun (s1146 : Bool) =>
        bindS (S := ((List T_Item))) (A := (((List T_Item) × Int × (List Int) × (List Int) × Int × (List Int) × Bool × ByteArray × ByteArray × (List T_Path) × (List Int) × Bool × ByteArray × Int × Int × (List Int) × Int × Int × Int × (List Int) × Bool) ⊕ (((List T_Item) × Int × (List Int) × (List Int) × Int × (List Int) × Bool × ByteArray × ByteArray × (List T_Path) × (List Int) × Bool × ByteArray × Int × Int × (List Int) × Int × Int × Int × (List Int) × Bool) ⊕ (T_Spool × Int))))
         (loopF (S := ((List T_Item) × Int)) (O := ((List T_Item)) ⊕ (((List T_Item) × Int × (List Int) × (List Int) × Int × (List Int) × Bool × ByteArray × ByteArray × (List T_Path) × (List Int) × Bool × ByteArray × Int × Int × (List Int) × Int × Int × Int × (List Int) × Bool) ⊕ (((List T_Item) × Int × (List Int) × (List Int) × Int × (List Int) × Bool × ByteArray × ByteArray × (List T_Path) × (List Int) × Bool × ByteArray × Int × Int × (List Int) × Int × Int × Int × (List Int) × Bool) ⊕ (T_Spool × Int)))) (fun ((s1182, s1183) : (List T_Item) × Int) =>
          cond ((decide (s1183 < (s1182.length : Int))))
           (bindS (S := (List T_Item)) (A := (((List T_Item) × Int) ⊕ (((List T_Item)) ⊕ (((List T_Item) × Int × (List Int) × (List Int) × Int × (List Int) × Bool × ByteArray × ByteArray × (List T_Path) × (List Int) × Bool × ByteArray × Int × Int × (List Int) × Int × Int × Int × (List Int) × Bool) ⊕ (((List T_Item) × Int × (List Int) × (List Int) × Int × (List Int) × Bool × ByteArray × ByteArray × (List T_Path) × (List Int) × Bool × ByteArray × Int × Int × (List Int) × Int × Int × Int × (List Int) × Bool) ⊕ (T_Spool × Int))))))
            (bindS (S := Bool) (A := (((List T_Item)) ⊕ (((List T_Item) × Int) ⊕ (((List T_Item)) ⊕ (((List T_Item) × Int × (List Int) × (List Int) × Int × (List Int) × Bool × ByteArray × ByteArray × (List T_Path) × (List Int) × Bool × ByteArray × Int × Int × (List Int) × Int × Int × Int × (List Int) × Bool) ⊕ (((List T_Item) × Int × (List Int) × (List Int) × Int × (List Int) × Bool × ByteArray × ByteArray × (List T_Path) × (List Int) × Bool × ByteArray × Int × Int × (List Int) × Int × Int × Int × (List Int) × Bool) ⊕ (T_Spool × Int)))))))
             ((ixO s1183 s1182.length).bind fun v153 =>
             (getO s1182 v153).bind fun v154 =>
             cond ((v154.Pack == p_r.Number))
              ((ixO s1183 s1182.length).bind fun v155 =>
              (getO s1182 v155).bind fun v156 =>
              some (.inl (v156.State == 2)))
              (some (.inl false)))
             (fun (s1216 : Bool) =>
              cond (s1216)
               ((ixO s1183 s1182.length).bind fun v162 =>
               (getO s1182 v162).bind fun v163 =>
               (some (s1182.set v162 ((T_Item.mk v163.Id ((T_Mail.mk (T_Path.mk v163.Mail.From.Null v163.Mail.From.Local v163.Mail.From.Domain) v163.Mail.To v163.Mail.Body v163.Mail.Quiet v163.Mail.Helo v163.Mail.At)) 3 v163.Pack)))).bind fun v164 =>
               some (.inl v164))
               (some (.inl s1182))) some)
            (fun (s1212 : (List T_Item)) =>
             (some (IntKind.i64.wrap (s1183 + 1))).bind fun v174 =>
             some (.inl (s1212, v174))) some)
           (some (.inr (.inl s1182))))
          BIG (v1.Items, 0))
         (fun (s1199 : (List T_Item)) =>
          (appO 8 v1.Sent [p_r.Number]).bind fun v231 =>
          some (.inl ((s1199, v1.Packs, v231, v1.Part, v1.Of, v1.Done, false, (⟨#[]⟩ : ByteArray), (⟨#[]⟩ : ByteArray), [], [], false, (⟨#[]⟩ : ByteArray), 0, 0, [], 0, p_r.Number, 0, [], s1146)))) some) some)
      (cond ((p_r.Kind == 4))
       (bindS (S := Bool) (A := (((List T_Item) × Int × (List Int) × (List Int) × Int × (List Int) × Bool × ByteArray × ByteArray × (List T_Path) × (List Int) × Bool × ByteArray × Int × Int × (List Int) × Int × Int × Int × (List Int) × Bool) ⊕ (((List T_Item) × Int × (List Int) × (List Int) × Int × (List Int) × Bool × ByteArray × ByteArray × (List T_Path) × (List Int) × Bool × ByteArray × Int × Int × (List Int) × Int × Int × Int × (List Int) × Bool) ⊕ (T_Spool × Int))))
        ((wherryref18_in p_r.Id 1 (s.Items.length : Int)).bind fun v233 =>
        cond (v233)
         ((some (IntKind.i64.wrap (p_r.Id - 1))).bind fun v234 =>
         (ixO v234 s.Items.length).bind fun v235 =>
         (getO s.Items v235).bind fun v236 =>
         some (.inl (v236.State == 1)))
         (some (.inl false)))
        (fun (s1222 : Bool) =>
         cond (s1222)
          ((some (IntKind.i64.wrap (p_r.Id - 1))).bind fun v242 =>
          (ixO v242 v1.Items.length).bind fun v243 =>
          (getO v1.Items v243).bind fun v244 =>
          (some (v1.Items.set v243 ((T_Item.mk v244.Id ((T_Mail.mk (T_Path.mk v244.Mail.From.Null v244.Mail.From.Local v244.Mail.From.Domain) v244.Mail.To v244.Mail.Body v244.Mail.Quiet v244.Mail.Helo v244.Mail.At)) 4 v244.Pack)))).bind fun v245 =>
          some (.inl ((v245, v1.Packs, v1.Sent, v1.Part, v1.Of, v1.Done, false, (⟨#[]⟩ : ByteArray), (⟨#[]⟩ : ByteArray), [], [], false, (⟨#[]⟩ : ByteArray), 0, p_r.Id, [], 0, 0, 0, [], s1222))))
          (some (.inl ((v1.Items, v1.Packs, v1.Sent, v1.Part, v1.Of, v1.Done, false, (⟨#[]⟩ : ByteArray), (⟨#[]⟩ : ByteArray), [], [], false, (⟨#[]⟩ : ByteArray), 0, p_r.Id, [], 0, 0, 0, [], s1222))))) some)
       (cond ((p_r.Kind == 5))
        (bindS (S := Bool) (A := (((List T_Item) × Int × (List Int) × (List Int) × Int × (List Int) × Bool × ByteArray × ByteArray × (List T_Path) × (List Int) × Bool × ByteArray × Int × Int × (List Int) × Int × Int × Int × (List Int) × Bool) ⊕ (((List T_Item) × Int × (List Int) × (List Int) × Int × (List Int) × Bool × ByteArray × ByteArray × (List T_Path) × (List Int) × Bool × ByteArray × Int × Int × (List Int) × Int × Int × Int × (List Int) × Bool) ⊕ (T_Spool × Int))))
         ((wherryref18_in p_r.Number 1 65535).bind fun v247 =>
         cond (v247)
          ((wherryref18_has s.Done p_r.Number).bind fun v248 =>
          cond ((!v248))
           ((wherryref18_in (p_r.Data.length : Int) 1 48).bind fun v249 =>
           cond (v249)
            (cond ((p_r.Offset == 0))
             (some (.inl true))
             (cond ((s.Of == p_r.Number))
              (some (.inl ((p_r.Offset == (s.Part.length : Int)))))
              (some (.inl false))))
            (some (.inl false)))
           (some (.inl false)))
          (some (.inl false)))
         (fun (s1228 : Bool) =>
          bindS (S := (List Int) × Int) (A := (((List T_Item) × Int × (List Int) × (List Int) × Int × (List Int) × Bool × ByteArray × ByteArray × (List T_Path) × (List Int) × Bool × ByteArray × Int × Int × (List Int) × Int × Int × Int × (List Int) × Bool) ⊕ (((List T_Item) × Int × (List Int) × (List Int) × Int × (List Int) × Bool × ByteArray × ByteArray × (List T_Path) × (List Int) × Bool × ByteArray × Int × Int × (List Int) × Int × Int × Int × (List Int) × Bool) ⊕ (T_Spool × Int))))
           (cond ((p_r.Offset == 0))
            ((wherrykeep_Twin p_r.Data).bind fun v255 =>
            some (.inl (v255, p_r.Number)))
            ((appO 1 v1.Part p_r.Data).bind fun v256 =>
            some (.inl (v256, v1.Of))))
           (fun ((s1233, s1234) : (List Int) × Int) =>
            bindS (S := Bool) (A := (((List T_Item) × Int × (List Int) × (List Int) × Int × (List Int) × Bool × ByteArray × ByteArray × (List T_Path) × (List Int) × Bool × ByteArray × Int × Int × (List Int) × Int × Int × Int × (List Int) × Bool) ⊕ (((List T_Item) × Int × (List Int) × (List Int) × Int × (List Int) × Bool × ByteArray × ByteArray × (List T_Path) × (List Int) × Bool × ByteArray × Int × Int × (List Int) × Int × Int × Int × (List Int) × Bool) ⊕ (T_Spool × Int))))
             (cond (s1228)
              (some (.inl ((decide ((s1233.length : Int) ≤ 5000)))))
              (some (.inl false)))
             (fun (s1239 : Bool) =>
              some (.inl ((v1.Items, v1.Packs, v1.Sent, s1233, s1234, v1.Done, false, (⟨#[]⟩ : ByteArray), (⟨#[]⟩ : ByteArray), [], [], false, (⟨#[]⟩ : ByteArray), 0, 0, [], 0, p_r.Number, p_r.Offset, p_r.Data, s1239)))) some) some) some)
        (cond ((p_r.Kind == 6))
         (bindS (S := Bool) (A := (((List T_Item) × Int × (List Int) × (List Int) × Int × (List Int) × Bool × ByteArray × ByteArray × (List T_Path) × (List Int) × Bool × ByteArray × Int × Int × (List Int) × Int × Int × Int × (List Int) × Bool) ⊕ (((List T_Item) × Int × (List Int) × (List Int) × Int × (List Int) × Bool × ByteArray × ByteArray × (List T_Path) × (List Int) × Bool × ByteArray × Int × Int × (List Int) × Int × Int × Int × (List Int) × Bool) ⊕ (T_Spool × Int))))
          ((wherryref18_in p_r.Number 1 65535).bind fun v268 =>
          cond (v268)
           ((wherryref18_has s.Done p_r.Number).bind fun v269 =>
           some (.inl (!v269)))
           (some (.inl false)))
          (fun (s1244 : Bool) =>
           bindS (S := ((List Int) × Bool)) (A := (((List T_Item) × Int × (List Int) × (List Int) × Int × (List Int) × Bool × ByteArray × ByteArray × (List T_Path) × (List Int) × Bool × ByteArray × Int × Int × (List Int) × Int × Int × Int × (List Int) × Bool) ⊕ (((List T_Item) × Int × (List Int) × (List Int) × Int × (List Int) × Bool × ByteArray × ByteArray × (List T_Path) × (List Int) × Bool × ByteArray × Int × Int × (List Int) × Int × Int × Int × (List Int) × Bool) ⊕ (T_Spool × Int))))
            (loopF (S := ((List Int) × Bool × Int)) (O := ((List Int) × Bool) ⊕ (((List T_Item) × Int × (List Int) × (List Int) × Int × (List Int) × Bool × ByteArray × ByteArray × (List T_Path) × (List Int) × Bool × ByteArray × Int × Int × (List Int) × Int × Int × Int × (List Int) × Bool) ⊕ (((List T_Item) × Int × (List Int) × (List Int) × Int × (List Int) × Bool × ByteArray × ByteArray × (List T_Path) × (List Int) × Bool × ByteArray × Int × Int × (List Int) × Int × Int × Int × (List Int) × Bool) ⊕ (T_Spool × Int)))) (fun ((s1283, s1284, s1285) : (List Int) × Bool × Int) =>
             cond ((decide (s1285 < (s.Done.length : Int))))
              (bindS (S := (List Int) × Bool) (A := (((List Int) × Bool × Int) ⊕ (((List Int) × Bool) ⊕ (((List T_Item) × Int × (List Int) × (List Int) × Int × (List Int) × Bool × ByteArray × ByteArray × (List T_Path) × (List Int) × Bool × ByteArray × Int × Int × (List Int) × Int × Int × Int × (List Int) × Bool) ⊕ (((List T_Item) × Int × (List Int) × (List Int) × Int × (List Int) × Bool × ByteArray × ByteArray × (List T_Path) × (List Int) × Bool × ByteArray × Int × Int × (List Int) × Int × Int × Int × (List Int) × Bool) ⊕ (T_Spool × Int))))))
               (bindS (S := Bool) (A := (((List Int) × Bool) ⊕ (((List Int) × Bool × Int) ⊕ (((List Int) × Bool) ⊕ (((List T_Item) × Int × (List Int) × (List Int) × Int × (List Int) × Bool × ByteArray × ByteArray × (List T_Path) × (List Int) × Bool × ByteArray × Int × Int × (List Int) × Int × Int × Int × (List Int) × Bool) ⊕ (((List T_Item) × Int × (List Int) × (List Int) × Int × (List Int) × Bool × ByteArray × ByteArray × (List T_Path) × (List Int) × Bool × ByteArray × Int × Int × (List Int) × Int × Int × Int × (List Int) × Bool) ⊕ (T_Spool × Int)))))))
                ((ixO s1285 s.Done.length).bind fun v275 =>
                (getO s.Done v275).bind fun v276 =>
                cond ((decide (p_r.Number < v276)))
                 (some (.inl (!s1284)))
                 (some (.inl false)))
                (fun (s1321 : Bool) =>
                 cond (s1321)
                  ((appO 8 s1283 [p_r.Number]).bind fun v282 =>
                  some (.inl (v282, true)))
                  (some (.inl (s1283, s1284)))) some)
               (fun ((s1316, s1317) : (List Int) × Bool) =>
                (ixO s1285 s.Done.length).bind fun v293 =>
                (getO s.Done v293).bind fun v294 =>
                (appO 8 s1316 [v294]).bind fun v295 =>
                (some (IntKind.i64.wrap (s1285 + 1))).bind fun v296 =>
                some (.inl (v295, s1317, v296))) some)
              (some (.inr (.inl (s1283, s1284)))))
             BIG ([], false, 0))
            (fun ((s1302, s1303) : (List Int) × Bool) =>
             bindS (S := (List Int)) (A := (((List T_Item) × Int × (List Int) × (List Int) × Int × (List Int) × Bool × ByteArray × ByteArray × (List T_Path) × (List Int) × Bool × ByteArray × Int × Int × (List Int) × Int × Int × Int × (List Int) × Bool) ⊕ (((List T_Item) × Int × (List Int) × (List Int) × Int × (List Int) × Bool × ByteArray × ByteArray × (List T_Path) × (List Int) × Bool × ByteArray × Int × Int × (List Int) × Int × Int × Int × (List Int) × Bool) ⊕ (T_Spool × Int))))
              (cond ((!s1303))
               ((appO 8 s1302 [p_r.Number]).bind fun v360 =>
               some (.inl v360))
               (some (.inl s1302)))
              (fun (s1327 : (List Int)) =>
               cond ((s.Of == p_r.Number))
                (some (.inl ((v1.Items, v1.Packs, v1.Sent, [], (-1), s1327, false, (⟨#[]⟩ : ByteArray), (⟨#[]⟩ : ByteArray), [], [], false, (⟨#[]⟩ : ByteArray), 0, 0, [], 0, p_r.Number, 0, [], s1244))))
                (some (.inl ((v1.Items, v1.Packs, v1.Sent, v1.Part, v1.Of, s1327, false, (⟨#[]⟩ : ByteArray), (⟨#[]⟩ : ByteArray), [], [], false, (⟨#[]⟩ : ByteArray), 0, 0, [], 0, p_r.Number, 0, [], s1244))))) some) some) some)
         (some (.inl ((v1.Items, v1.Packs, v1.Sent, v1.Part, v1.Of, v1.Done, false, (⟨#[]⟩ : ByteArray), (⟨#[]⟩ : ByteArray), [], [], false, (⟨#[]⟩ : ByteArray), 0, 0, [], 0, 0, 0, [], false))))))))))
   (fun ((s1011, s1012, s1013, s1014, s1015, s1016, s1017, s1018, s1019, s1020, s1021, s1022, s1023, s1024, s1025, s1026, s1027, s1028, s1029, s1030, s1031) : (List T_Item) × Int × (List Int) × (List Int) × Int × (List Int) × Bool × ByteArray × ByteArray × (List T_Path) × (List Int) × Bool × ByteArray × Int × Int × (List Int) × Int × Int × Int × (List Int) × Bool) =>
    some (.inl (s1011, s1012, s1013, s1014, s1015, s1016, s1017, s1018, s1019, s1020, s1021, s1022, s1023, s1024, s1025, s1026, s1027, s1028, s1029, s1030, s1031))) some)
  (fun ((s689, s690, s691, s692, s693, s694, s695, s696, s697, s698, s699, s700, s701, s702, s703, s704, s705, s706, s707, s708, s709) : (List T_Item) × Int × (List Int) × (List Int) × Int × (List Int) × Bool × ByteArray × ByteArray × (List T_Path) × (List Int) × Bool × ByteArray × Int × Int × (List Int) × Int × Int × Int × (List Int) × Bool) =>
   bindS (S := Bool) (A := (T_Spool × Int))
    (cond ((!s709))
     (some (.inl true))
     ((wherrykeep_Rec ((T_Rec.mk p_r.Kind ((T_Mail.mk (T_Path.mk s695 s696 s697) s698 s699 s700 s701 s702)) s703 s704 s705 s706 s707 s708)) ((T_Rec.mk p_r.Kind ((T_Mail.mk (T_Path.mk p_r.Mail.From.Null p_r.Mail.From.Local p_r.Mail.From.Domain) p_r.Mail.To p_r.Mail.Body p_r.Mail.Quiet p_r.Mail.Helo p_r.Mail.At)) p_r.Id p_r.Ids p_r.Origin p_r.Number p_r.Offset p_r.Data))).bind fun v1333 =>
     some (.inl (!v1333))))
    (fun (s1334 : Bool) =>
     cond (s1334)
      (some (((T_Spool.mk [] 0 [] [] 0 []), 5)))
      (some (((T_Spool.mk s689 s690 s691 s692 s693 s694), 0)))) some) some

def wherryref18_Fold (l : (List T_Rec)) : Option (T_Spool × Int) :=
 (wherryref18_Nothing ).bind fun v1 =>
 bindS (S := ((List T_Item) × Int × (List Int) × (List Int) × Int × (List Int))) (A := (T_Spool × Int))
  (loopF (S := ((List T_Item) × Int × (List Int) × (List Int) × Int × (List Int) × Int)) (O := ((List T_Item) × Int × (List Int) × (List Int) × Int × (List Int)) ⊕ (T_Spool × Int)) (fun ((s17, s18, s19, s20, s21, s22, s23) : (List T_Item) × Int × (List Int) × (List Int) × Int × (List Int) × Int) =>
   cond ((decide (s23 < (l.length : Int))))
    ((ixO s23 l.length).bind fun v3 =>
    (getO l v3).bind fun v4 =>
    (wherryref18_Add (T_Spool.mk s17 s18 s19 s20 s21 s22) ((T_Rec.mk v4.Kind ((T_Mail.mk (T_Path.mk v4.Mail.From.Null v4.Mail.From.Local v4.Mail.From.Domain) v4.Mail.To v4.Mail.Body v4.Mail.Quiet v4.Mail.Helo v4.Mail.At)) v4.Id v4.Ids v4.Origin v4.Number v4.Offset v4.Data))).bind fun v5 =>
    cond ((v5.2 != 0))
     (some (.inr (.inr (((T_Spool.mk s17 s18 s19 s20 s21 s22), s23)))))
     ((some (IntKind.i64.wrap (s23 + 1))).bind fun v7 =>
     some (.inl (v5.1.Items, v5.1.Packs, v5.1.Sent, v5.1.Part, v5.1.Of, v5.1.Done, v7))))
    (some (.inr (.inl (s17, s18, s19, s20, s21, s22)))))
   BIG (v1.Items, v1.Packs, v1.Sent, v1.Part, v1.Of, v1.Done, 0))
  (fun ((s26, s27, s28, s29, s30, s31) : (List T_Item) × Int × (List Int) × (List Int) × Int × (List Int)) =>
   some (((T_Spool.mk s26 s27 s28 s29 s30 s31), (l.length : Int)))) some

def wherrykeep_TwinRec (p_r : T_Rec) : Option T_Rec :=
 (wherrykeep_TwinMail ((T_Mail.mk (T_Path.mk p_r.Mail.From.Null p_r.Mail.From.Local p_r.Mail.From.Domain) p_r.Mail.To p_r.Mail.Body p_r.Mail.Quiet p_r.Mail.Helo p_r.Mail.At))).bind fun v1 =>
 (wherrykeep_TwinInts p_r.Ids).bind fun v2 =>
 (wherrykeep_Twin p_r.Data).bind fun v3 =>
 some ((T_Rec.mk p_r.Kind ((T_Mail.mk (T_Path.mk v1.From.Null v1.From.Local v1.From.Domain) v1.To v1.Body v1.Quiet v1.Helo v1.At)) p_r.Id v2 p_r.Origin p_r.Number p_r.Offset v3))

def spool_rest_sh (p_r : T_Rec) : Option T_Rec :=
 bindS (S := Bool × ByteArray × ByteArray × (List T_Path) × (List Int) × Bool × ByteArray × Int × Int × (List Int) × Int × Int × Int × (List Int)) (A := T_Rec)
  (bindS (S := Bool × ByteArray × ByteArray × (List T_Path) × (List Int) × Bool × ByteArray × Int × Int × (List Int) × Int × Int × Int × (List Int)) (A := ((Bool × ByteArray × ByteArray × (List T_Path) × (List Int) × Bool × ByteArray × Int × Int × (List Int) × Int × Int × Int × (List Int)) ⊕ T_Rec))
   (cond ((p_r.Kind == 1))
    (some (.inl ((false, (⟨#[]⟩ : ByteArray), (⟨#[]⟩ : ByteArray), [], [], false, (⟨#[]⟩ : ByteArray), 0, 0, p_r.Ids, 0, p_r.Number, p_r.Offset, p_r.Data))))
    (cond ((p_r.Kind == 2))
     (some (.inl (p_r.Mail.From.Null, p_r.Mail.From.Local, p_r.Mail.From.Domain, p_r.Mail.To, p_r.Mail.Body, p_r.Mail.Quiet, p_r.Mail.Helo, p_r.Mail.At, p_r.Id, [], p_r.Origin, 0, p_r.Offset, p_r.Data)))
     (bindS (S := Bool) (A := ((Bool × ByteArray × ByteArray × (List T_Path) × (List Int) × Bool × ByteArray × Int × Int × (List Int) × Int × Int × Int × (List Int)) ⊕ ((Bool × ByteArray × ByteArray × (List T_Path) × (List Int) × Bool × ByteArray × Int × Int × (List Int) × Int × Int × Int × (List Int)) ⊕ T_Rec)))
      (cond ((p_r.Kind == 3))
       (some (.inl (p_r.Kind == 3)))
       (some (.inl (p_r.Kind == 6))))
      (fun (s88 : Bool) =>
       cond (s88)
        (some (.inl (p_r.Mail.From.Null, p_r.Mail.From.Local, p_r.Mail.From.Domain, p_r.Mail.To, p_r.Mail.Body, p_r.Mail.Quiet, p_r.Mail.Helo, p_r.Mail.At, p_r.Id, p_r.Ids, p_r.Origin, 0, p_r.Offset, p_r.Data)))
        (cond ((p_r.Kind == 4))
         (some (.inl (p_r.Mail.From.Null, p_r.Mail.From.Local, p_r.Mail.From.Domain, p_r.Mail.To, p_r.Mail.Body, p_r.Mail.Quiet, p_r.Mail.Helo, p_r.Mail.At, 0, p_r.Ids, p_r.Origin, p_r.Number, p_r.Offset, p_r.Data)))
         (cond ((p_r.Kind == 5))
          (some (.inl (p_r.Mail.From.Null, p_r.Mail.From.Local, p_r.Mail.From.Domain, p_r.Mail.To, p_r.Mail.Body, p_r.Mail.Quiet, p_r.Mail.Helo, p_r.Mail.At, p_r.Id, p_r.Ids, p_r.Origin, 0, 0, [])))
          (some (.inl (p_r.Mail.From.Null, p_r.Mail.From.Local, p_r.Mail.From.Domain, p_r.Mail.To, p_r.Mail.Body, p_r.Mail.Quiet, p_r.Mail.Helo, p_r.Mail.At, p_r.Id, p_r.Ids, p_r.Origin, p_r.Number, p_r.Offset, p_r.Data)))))) some)))
   (fun ((s68, s69, s70, s71, s72, s73, s74, s75, s76, s77, s78, s79, s80, s81) : Bool × ByteArray × ByteArray × (List T_Path) × (List Int) × Bool × ByteArray × Int × Int × (List Int) × Int × Int × Int × (List Int)) =>
    some (.inl (s68, s69, s70, s71, s72, s73, s74, s75, s76, s77, s78, s79, s80, s81))) some)
  (fun ((s40, s41, s42, s43, s44, s45, s46, s47, s48, s49, s50, s51, s52, s53) : Bool × ByteArray × ByteArray × (List T_Path) × (List Int) × Bool × ByteArray × Int × Int × (List Int) × Int × Int × Int × (List Int)) =>
   some ((T_Rec.mk 0 ((T_Mail.mk (T_Path.mk s40 s41 s42) s43 s44 s45 s46 s47)) s48 s49 s50 s51 s52 s53))) some

def spool_empty (p_r : T_Rec) : Option Bool :=
 bindS (S := Bool) (A := Bool)
  (cond (((p_r.Mail.From.Null == false) && ((p_r.Mail.From.Local.toList == (⟨#[]⟩ : ByteArray).toList) && ((p_r.Mail.From.Domain.toList == (⟨#[]⟩ : ByteArray).toList) && true))))
   (cond (((p_r.Mail.To.length : Int) == 0))
    (cond (((p_r.Mail.Body.length : Int) == 0))
     (cond ((!p_r.Mail.Quiet))
      (cond ((p_r.Mail.Helo.toList == (⟨#[]⟩ : ByteArray).toList))
       (some (.inl (p_r.Mail.At == 0)))
       (some (.inl false)))
      (some (.inl false)))
     (some (.inl false)))
    (some (.inl false)))
   (some (.inl false)))
  (fun (s1 : Bool) =>
   bindS (S := Bool) (A := Bool)
    (cond (s1)
     (cond ((p_r.Kind == 0))
      (cond ((p_r.Id == 0))
       (cond (((p_r.Ids.length : Int) == 0))
        (cond ((p_r.Origin == 0))
         (cond ((p_r.Number == 0))
          (cond ((p_r.Offset == 0))
           (some (.inl (((p_r.Data.length : Int) == 0))))
           (some (.inl false)))
          (some (.inl false)))
         (some (.inl false)))
        (some (.inl false)))
       (some (.inl false)))
      (some (.inl false)))
     (some (.inl false)))
    (fun (s5 : Bool) =>
     some (s5)) some) some

def strings_splitSeq (s : ByteArray) (sep : ByteArray) (sepSave : Int) : Option (ByteArray × ByteArray × Int) :=
 some ((sep, s, sepSave))

def strings_SplitSeq (s : ByteArray) (sep : ByteArray) : Option (ByteArray × ByteArray × Int) :=
 (strings_splitSeq s sep 0).bind fun v1 =>
 some ((v1.1, v1.2.1, v1.2.2))

set_option maxRecDepth 100000 in
def utf8_first : List Int := (240 :: 240 :: 240 :: 240 :: 240 :: 240 :: 240 :: 240 :: 240 :: 240 :: 240 :: 240 :: 240 :: 240 :: 240 :: 240 :: 240 :: 240 :: 240 :: 240 :: 240 :: 240 :: 240 :: 240 :: 240 :: 240 :: 240 :: 240 :: 240 :: 240 :: 240 :: 240 :: 240 :: 240 :: 240 :: 240 :: 240 :: 240 :: 240 :: 240 :: 240 :: 240 :: 240 :: 240 :: 240 :: 240 :: 240 :: 240 :: 240 :: 240 :: 240 :: 240 :: 240 :: 240 :: 240 :: 240 :: 240 :: 240 :: 240 :: 240 :: 240 :: 240 :: 240 :: 240 :: 240 :: 240 :: 240 :: 240 :: 240 :: 240 :: 240 :: 240 :: 240 :: 240 :: 240 :: 240 :: 240 :: 240 :: 240 :: 240 :: 240 :: 240 :: 240 :: 240 :: 240 :: 240 :: 240 :: 240 :: 240 :: 240 :: 240 :: 240 :: 240 :: 240 :: 240 :: 240 :: 240 :: 240 :: 240 :: 240 :: 240 :: 240 :: 240 :: 240 :: 240 :: 240 :: 240 :: 240 :: 240 :: 240 :: 240 :: 240 :: 240 :: 240 :: 240 :: 240 :: 240 :: 240 :: 240 :: 240 :: 240 :: 240 :: 240 :: 240 :: 240 :: 240 :: 240 :: 240 :: 241 :: 241 :: 241 :: 241 :: 241 :: 241 :: 241 :: 241 :: 241 :: 241 :: 241 :: 241 :: 241 :: 241 :: 241 :: 241 :: 241 :: 241 :: 241 :: 241 :: 241 :: 241 :: 241 :: 241 :: 241 :: 241 :: 241 :: 241 :: 241 :: 241 :: 241 :: 241 :: 241 :: 241 :: 241 :: 241 :: 241 :: 241 :: 241 :: 241 :: 241 :: 241 :: 241 :: 241 :: 241 :: 241 :: 241 :: 241 :: 241 :: 241 :: 241 :: 241 :: 241 :: 241 :: 241 :: 241 :: 241 :: 241 :: 241 :: 241 :: 241 :: 241 :: 241 :: 241 :: 241 :: 241 :: 2 :: 2 :: 2 :: 2 :: 2 :: 2 :: 2 :: 2 :: 2 :: 2 :: 2 :: 2 :: 2 :: 2 :: 2 :: 2 :: 2 :: 2 :: 2 :: 2 :: 2 :: 2 :: 2 :: 2 :: 2 :: 2 :: 2 :: 2 :: 2 :: 2 :: 19 :: 3 :: 3 :: 3 :: 3 :: 3 :: 3 :: 3 :: 3 :: 3 :: 3 :: 3 :: 3 :: 35 :: 3 :: 3 :: 52 :: 4 :: 4 :: 4 :: 68 :: 241 :: 241 :: 241 :: 241 :: 241 :: 241 :: 241 :: 241 :: 241 :: 241 :: 241 :: [])

set_option maxRecDepth 100000 in
def utf8_accept : List Int := (128 :: 191 :: 160 :: 191 :: 128 :: 159 :: 144 :: 191 :: 128 :: 143 :: 0 :: 0 :: 0 :: 0 :: 0 :: 0 :: 0 :: 0 :: 0 :: 0 :: 0 :: 0 :: 0 :: 0 :: 0 :: 0 :: 0 :: 0 :: 0 :: 0 :: 0 :: 0 :: [])

def unicode_utf8_decodeRuneInStringSlow (s : ByteArray) : Option (Int × Int) :=
 cond ((decide ((s.size : Int) < 1)))
  (some ((65533, 0)))
  ((chrO s 0).bind fun v2 =>
  (ixO v2 256).bind fun v3 =>
  (getO utf8_first (0 + v3 * 1)).bind fun v4 =>
  cond ((decide (240 ≤ v4)))
   ((some (IntKind.i32.wrap v4)).bind fun v6 =>
   (shlO .i32 v6 31).bind fun v7 =>
   (shrO .i32 v7 31).bind fun v8 =>
   (chrO s 0).bind fun v9 =>
   (some (IntKind.i32.wrap v9)).bind fun v10 =>
   (some (bits .andNot .i32 v10 v8)).bind fun v11 =>
   (some (bits .and .i32 65533 v8)).bind fun v12 =>
   (some (bits .or .i32 v11 v12)).bind fun v13 =>
   some ((v13, 1)))
   (none))

def unicode_utf8_DecodeRuneInString (s : ByteArray) : Option (Int × Int) :=
 bindS (S := Bool) (A := (Int × Int))
  (cond ((!(s.toList == (⟨#[]⟩ : ByteArray).toList)))
   ((chrO s 0).bind fun v1 =>
   some (.inl ((decide (v1 < 128)))))
   (some (.inl false)))
  (fun (s2 : Bool) =>
   cond (s2)
    ((chrO s 0).bind fun v7 =>
    (some (IntKind.i32.wrap v7)).bind fun v8 =>
    some ((v8, 1)))
    ((unicode_utf8_decodeRuneInStringSlow s).bind fun v9 =>
    some ((v9.1, v9.2)))) some

def strings_splitSeq_1 {S : Type} (Y : ByteArray → S → Option (S × Bool)) (c0 : ByteArray) (c1 : ByteArray) (c2 : Int) (st : S) : Option S :=
 cond (((c0.size : Int) == 0))
  (bindS (S := (S)) (A := S)
   (loopF (S := (ByteArray × S)) (O := (S) ⊕ S) (fun ((s12, s13) : ByteArray × S) =>
    cond ((decide (0 < (s12.size : Int))))
     ((unicode_utf8_DecodeRuneInString s12).bind fun v3 =>
     (subO s12 0 v3.2).bind fun v4 =>
     (Y v4 s13).bind fun v5 =>
     cond ((!v5.2))
      (some (.inr (.inr (v5.1))))
      ((subO s12 v3.2 (s12.size : Int)).bind fun v7 =>
      some (.inl (v7, v5.1))))
     (some (.inr (.inl s13))))
    BIG (c1, st))
   (fun (s16 : S) =>
    some (s16)) some)
  (bindS (S := (ByteArray × S)) (A := S)
   (loopF (S := (ByteArray × S)) (O := (ByteArray × S) ⊕ S) (fun ((s37, s38) : ByteArray × S) =>
    (strings_Index s37 c0).bind fun v25 =>
    cond ((decide (v25 < 0)))
     (some (.inr (.inl (s37, s38))))
     ((some (IntKind.i64.wrap (v25 + c2))).bind fun v27 =>
     (subO s37 0 v27).bind fun v28 =>
     (Y v28 s38).bind fun v29 =>
     cond ((!v29.2))
      (some (.inr (.inr (v29.1))))
      ((some (IntKind.i64.wrap (v25 + (c0.size : Int)))).bind fun v31 =>
      (subO s37 v31 (s37.size : Int)).bind fun v32 =>
      some (.inl (v32, v29.1)))))
    BIG (c1, st))
   (fun ((s41, s42) : ByteArray × S) =>
    (Y s41 s42).bind fun v51 =>
    some (v51.1)) some)

def path_alphanumeric (c : Int) : Option Bool :=
 bindS (S := Bool) (A := Bool)
  (cond ((decide (48 ≤ c)))
   (cond ((decide (c ≤ 57)))
    (some (.inl true))
    (cond ((decide (65 ≤ c)))
     (cond ((decide (c ≤ 90)))
      (some (.inl true))
      (cond ((decide (97 ≤ c)))
       (some (.inl ((decide (c ≤ 122)))))
       (some (.inl false))))
     (cond ((decide (97 ≤ c)))
      (some (.inl ((decide (c ≤ 122)))))
      (some (.inl false)))))
   (cond ((decide (65 ≤ c)))
    (cond ((decide (c ≤ 90)))
     (some (.inl true))
     (cond ((decide (97 ≤ c)))
      (some (.inl ((decide (c ≤ 122)))))
      (some (.inl false))))
    (cond ((decide (97 ≤ c)))
     (some (.inl ((decide (c ≤ 122)))))
     (some (.inl false)))))
  (fun (s1 : Bool) =>
   some (s1)) some

def path_atom_1 (c : Int) : Option Bool :=
 bindS (S := Bool) (A := Bool)
  ((path_alphanumeric c).bind fun v1 =>
  cond (v1)
   (some (.inl true))
   ((strings_IndexByte (⟨#[33, 35, 36, 37, 38, 39, 42, 43, 45, 47, 61, 63, 94, 95, 96, 123, 124, 125, 126]⟩ : ByteArray) c).bind fun v2 =>
   some (.inl ((decide (0 ≤ v2))))))
  (fun (s3 : Bool) =>
   some (s3)) some

def path_all_of_path_atom_1 (s : ByteArray) : Option Bool :=
 bindS (S := (Unit)) (A := Bool)
  (loopF (S := (Int)) (O := (Unit) ⊕ Bool) (fun (s9 : Int) =>
   cond ((decide (s9 < (s.size : Int))))
    ((chrO s s9).bind fun v2 =>
    (path_atom_1 v2).bind fun v3 =>
    cond ((!v3))
     (some (.inr (.inr (false))))
     ((some (IntKind.i64.wrap (s9 + 1))).bind fun v5 =>
     some (.inl v5)))
    (some (.inr (.inl ()))))
   BIG 0)
  (fun (() : Unit) =>
   some (true)) some

def path_atom (s : ByteArray) : Option Bool :=
 bindS (S := Bool) (A := Bool)
  (cond ((!(s.toList == (⟨#[]⟩ : ByteArray).toList)))
   ((path_all_of_path_atom_1 s).bind fun v1 =>
   some (.inl v1))
   (some (.inl false)))
  (fun (s2 : Bool) =>
   some (s2)) some

def path_dotted_of_path_atom (s : ByteArray) : Option Bool :=
 (strings_SplitSeq s (⟨#[46]⟩ : ByteArray)).bind fun v1 =>
 bindS (S := (Unit)) (A := (Unit))
  (rangeS (S := (Unit)) (O := (Unit)) (fun Y st => Sh.strings_splitSeq_1 Y v1.1 v1.2.1 v1.2.2 st) (fun (x : ByteArray) (() : Unit) =>
   (path_atom x).bind fun v2 =>
   cond ((!v2))
    (some (.inr ()))
    (some (.inl ())))
   ())
  (fun (() : Unit) =>
   some (true))
  (fun (() : Unit) =>
   some (false))

def path_local (s : ByteArray) : Option Bool :=
 bindS (S := Bool) (A := Bool)
  (cond ((decide ((s.size : Int) ≤ 64)))
   ((path_dotted_of_path_atom s).bind fun v1 =>
   some (.inl v1))
   (some (.inl false)))
  (fun (s2 : Bool) =>
   some (s2)) some

def path_label_1 (c : Int) : Option Bool :=
 bindS (S := Bool) (A := Bool)
  ((path_alphanumeric c).bind fun v1 =>
  cond (v1)
   (some (.inl true))
   (some (.inl (c == 45))))
  (fun (s2 : Bool) =>
   some (s2)) some

def path_all_of_path_label_1 (s : ByteArray) : Option Bool :=
 bindS (S := (Unit)) (A := Bool)
  (loopF (S := (Int)) (O := (Unit) ⊕ Bool) (fun (s9 : Int) =>
   cond ((decide (s9 < (s.size : Int))))
    ((chrO s s9).bind fun v2 =>
    (path_label_1 v2).bind fun v3 =>
    cond ((!v3))
     (some (.inr (.inr (false))))
     ((some (IntKind.i64.wrap (s9 + 1))).bind fun v5 =>
     some (.inl v5)))
    (some (.inr (.inl ()))))
   BIG 0)
  (fun (() : Unit) =>
   some (true)) some

def path_label (s : ByteArray) : Option Bool :=
 bindS (S := Bool) (A := Bool)
  (cond ((!(s.toList == (⟨#[]⟩ : ByteArray).toList)))
   (cond ((decide ((s.size : Int) ≤ 63)))
    ((chrO s 0).bind fun v1 =>
    cond ((v1 != 45))
     ((some (IntKind.i64.wrap ((s.size : Int) - 1))).bind fun v2 =>
     (chrO s v2).bind fun v3 =>
     cond ((v3 != 45))
      ((path_all_of_path_label_1 s).bind fun v4 =>
      some (.inl v4))
      (some (.inl false)))
     (some (.inl false)))
    (some (.inl false)))
   (some (.inl false)))
  (fun (s5 : Bool) =>
   some (s5)) some

def path_dotted_of_path_label (s : ByteArray) : Option Bool :=
 (strings_SplitSeq s (⟨#[46]⟩ : ByteArray)).bind fun v1 =>
 bindS (S := (Unit)) (A := (Unit))
  (rangeS (S := (Unit)) (O := (Unit)) (fun Y st => Sh.strings_splitSeq_1 Y v1.1 v1.2.1 v1.2.2 st) (fun (x : ByteArray) (() : Unit) =>
   (path_label x).bind fun v2 =>
   cond ((!v2))
    (some (.inr ()))
    (some (.inl ())))
   ())
  (fun (() : Unit) =>
   some (true))
  (fun (() : Unit) =>
   some (false))

def path_Domain (s : ByteArray) : Option Bool :=
 bindS (S := Bool) (A := Bool)
  (cond ((decide ((s.size : Int) ≤ 255)))
   ((path_dotted_of_path_label s).bind fun v1 =>
   some (.inl v1))
   (some (.inl false)))
  (fun (s2 : Bool) =>
   some (s2)) some

def path_Check (p : T_Path) : Option Int :=
 bindS (S := Bool) (A := Int)
  (cond ((!p.Null))
   ((path_local p.Local).bind fun v1 =>
   cond (v1)
    ((path_Domain p.Domain).bind fun v2 =>
    some (.inl v2))
    (some (.inl false)))
   (some (.inl false)))
  (fun (s3 : Bool) =>
   bindS (S := Bool) (A := Int)
    (cond ((!(((p.Null == true) && ((p.Local.toList == (⟨#[]⟩ : ByteArray).toList) && ((p.Domain.toList == (⟨#[]⟩ : ByteArray).toList) && true))))))
     (some (.inl (!s3)))
     (some (.inl false)))
    (fun (s7 : Bool) =>
     cond (s7)
      (some (5))
      (some (0))) some) some

def envelope_Valid (m : T_Mail) : Option Bool :=
 bindS (S := Bool) (A := Bool)
  ((path_Check (T_Path.mk m.From.Null m.From.Local m.From.Domain)).bind fun v1 =>
  cond ((v1 != 0))
   (some (.inl true))
   (cond ((decide ((m.To.length : Int) < 1)))
    (some (.inl true))
    (some (.inl ((decide (8 < (m.To.length : Int))))))))
  (fun (s2 : Bool) =>
   cond (s2)
    (some (false))
    (bindS (S := (Unit)) (A := Bool)
     (loopF (S := (Int)) (O := (Unit) ⊕ Bool) (fun (s24 : Int) =>
      cond ((decide (s24 < (m.To.length : Int))))
       ((ixO s24 m.To.length).bind fun v8 =>
       (getO m.To v8).bind fun v9 =>
       bindS (S := Bool) (A := ((Int) ⊕ ((Unit) ⊕ Bool)))
        ((path_Check v9).bind fun v10 =>
        cond ((v10 != 0))
         (some (.inl true))
         (some (.inl v9.Null)))
        (fun (s38 : Bool) =>
         cond (s38)
          (some (.inr (.inr (false))))
          ((some (IntKind.i64.wrap (s24 + 1))).bind fun v16 =>
          some (.inl v16))) some)
       (some (.inr (.inl ()))))
      BIG 0)
     (fun (() : Unit) =>
      some (true)) some)) some

def dots_lines (b : (List Int)) : Option (List Int) :=
 some (b)

def bytes_Cut_sh (s : (List Int)) (sep : (List Int)) : Option ((List Int) × (List Int) × Bool) :=
 (bytes_Index s sep).bind fun v1 =>
 cond ((decide (0 ≤ v1)))
  ((sliO s 0 v1).bind fun v3 =>
  (some (IntKind.i64.wrap (v1 + (sep.length : Int)))).bind fun v4 =>
  (sliO s v4 (s.length : Int)).bind fun v5 =>
  some ((v3, v5, true)))
  (some ((s, [], false)))

def dots_lines_1 {S : Type} (Y : (List Int) → S → Option (S × Bool)) (c0 : (List Int)) (st : S) : Option S :=
 bindS (S := (Unit)) (A := S)
  (loopF (S := ((List Int) × S)) (O := (Unit) ⊕ S) (fun ((s17, s18) : (List Int) × S) =>
   (bytes_Cut_sh s17 [13, 10]).bind fun v1 =>
   bindS (S := S × Bool) (A := (((List Int) × S) ⊕ ((Unit) ⊕ S)))
    (cond ((!v1.2.2))
     (some (.inl (s18, true)))
     ((Y v1.1 s18).bind fun v2 =>
     some (.inl ((v2.1, (!v2.2))))))
    (fun ((s31, s32) : S × Bool) =>
     cond (s32)
      (some (.inr (.inr (s31))))
      (some (.inl (v1.2.1, s31)))) some)
   BIG (c0, st))
  (fun (() : Unit) =>
   none) some

def bytes_ContainsAny (b : (List Int)) (chars : ByteArray) : Option Bool :=
 (bytes_IndexAny b chars).bind fun v1 =>
 some ((decide (0 ≤ v1)))

def dots_Check (b : (List Int)) : Option Int :=
 (dots_lines b).bind fun v1 =>
 bindS (S := (Int)) (A := (Int))
  (rangeS (S := (Int)) (O := (Int)) (fun Y st => Sh.dots_lines_1 Y v1 st) (fun (x : (List Int)) (s8 : Int) =>
   (bytes_ContainsAny x (⟨#[13, 10]⟩ : ByteArray)).bind fun v2 =>
   cond (v2)
    (some (.inr s8))
    ((some (IntKind.i64.wrap ((x.length : Int) + 2))).bind fun v4 =>
    (some (IntKind.i64.wrap (s8 + v4))).bind fun v5 =>
    some (.inl v5)))
   0)
  (fun (s8 : Int) =>
   cond ((s8 != (b.length : Int)))
    (some (5))
    (some (0)))
  (fun (s10 : Int) =>
   some (5))

def spool_validMail (m : T_Mail) : Option Bool :=
 bindS (S := Bool) (A := Bool)
  ((envelope_Valid ((T_Mail.mk (T_Path.mk m.From.Null m.From.Local m.From.Domain) m.To m.Body m.Quiet m.Helo m.At))).bind fun v1 =>
  cond (v1)
   ((dots_Check m.Body).bind fun v2 =>
   cond ((v2 == 0))
    (cond ((decide (0 ≤ m.At)))
     (some (.inl ((decide (m.At ≤ 1099511627776)))))
     (some (.inl false)))
    (some (.inl false)))
   (some (.inl false)))
  (fun (s3 : Bool) =>
   some (s3)) some

def spool_find_1_cap (x : T_Item) (cap : Int) : Option Bool :=
 some ((x.Id == cap))

def slices_IndexFunc_api_Item_api_Item_of_spool_find_1 (s : (List T_Item)) (cap : Int) : Option Int :=
 bindS (S := (Unit)) (A := Int)
  (loopF (S := (Int)) (O := (Unit) ⊕ Int) (fun (s10 : Int) =>
   cond ((decide (s10 < (s.length : Int))))
    ((ixO s10 s.length).bind fun v2 =>
    (getO s v2).bind fun v3 =>
    (spool_find_1_cap ((T_Item.mk v3.Id ((T_Mail.mk (T_Path.mk v3.Mail.From.Null v3.Mail.From.Local v3.Mail.From.Domain) v3.Mail.To v3.Mail.Body v3.Mail.Quiet v3.Mail.Helo v3.Mail.At)) v3.State v3.Pack)) cap).bind fun v4 =>
    cond (v4)
     (some (.inr (.inr (s10))))
     ((some (IntKind.i64.wrap (s10 + 1))).bind fun v6 =>
     some (.inl v6)))
    (some (.inr (.inl ()))))
   BIG 0)
  (fun (() : Unit) =>
   some ((-1))) some

def spool_find (s : T_Spool) (p_id : Int) : Option Int :=
 (slices_IndexFunc_api_Item_api_Item_of_spool_find_1 s.Items p_id).bind fun v1 =>
 some (v1)

def spool_waits (s : T_Spool) (p_id : Int) : Option Bool :=
 (spool_find s p_id).bind fun v1 =>
 bindS (S := Bool) (A := Bool)
  (cond ((decide (0 ≤ v1)))
   ((ixO v1 s.Items.length).bind fun v2 =>
   (getO s.Items v2).bind fun v3 =>
   some (.inl (v3.State == 1)))
   (some (.inl false)))
  (fun (s4 : Bool) =>
   some (s4)) some

def spool_validIds (s : T_Spool) (ids : (List Int)) : Option Bool :=
 bindS (S := Bool) (A := Bool)
  (cond ((decide ((ids.length : Int) < 1)))
   (some (.inl true))
   (some (.inl ((decide (4 < (ids.length : Int)))))))
  (fun (s1 : Bool) =>
   cond (s1)
    (some (false))
    (bindS (S := (Unit)) (A := Bool)
     (loopF (S := (Int)) (O := (Unit) ⊕ Bool) (fun (s27 : Int) =>
      cond ((decide (s27 < (ids.length : Int))))
       ((ixO s27 ids.length).bind fun v7 =>
       (getO ids v7).bind fun v8 =>
       bindS (S := Bool) (A := ((Int) ⊕ ((Unit) ⊕ Bool)))
        (cond ((decide (0 < s27)))
         ((some (IntKind.i64.wrap (s27 - 1))).bind fun v9 =>
         (ixO v9 ids.length).bind fun v10 =>
         (getO ids v10).bind fun v11 =>
         cond ((decide (v8 ≤ v11)))
          (some (.inl true))
          ((spool_waits s v8).bind fun v12 =>
          some (.inl (!v12))))
         ((spool_waits s v8).bind fun v13 =>
         some (.inl (!v13))))
        (fun (s41 : Bool) =>
         cond (s41)
          (some (.inr (.inr (false))))
          ((some (IntKind.i64.wrap (s27 + 1))).bind fun v19 =>
          some (.inl v19))) some)
       (some (.inr (.inl ()))))
      BIG 0)
     (fun (() : Unit) =>
      some (true)) some)) some

def slices_Index_int_int (s : (List Int)) (v : Int) : Option Int :=
 bindS (S := (Unit)) (A := Int)
  (loopF (S := (Int)) (O := (Unit) ⊕ Int) (fun (s9 : Int) =>
   cond ((decide (s9 < (s.length : Int))))
    ((ixO s9 s.length).bind fun v2 =>
    (getO s v2).bind fun v3 =>
    cond ((v == v3))
     (some (.inr (.inr (s9))))
     ((some (IntKind.i64.wrap (s9 + 1))).bind fun v5 =>
     some (.inl v5)))
    (some (.inr (.inl ()))))
   BIG 0)
  (fun (() : Unit) =>
   some ((-1))) some

def slices_Contains_int_int (s : (List Int)) (v : Int) : Option Bool :=
 (slices_Index_int_int s v).bind fun v1 =>
 some ((decide (0 ≤ v1)))

def spool_open (s : T_Spool) (number : Int) : Option Bool :=
 bindS (S := Bool) (A := Bool)
  (cond ((decide (1 ≤ number)))
   (cond ((decide (number ≤ 65535)))
    ((slices_Contains_int_int s.Done number).bind fun v1 =>
    some (.inl (!v1)))
    (some (.inl false)))
   (some (.inl false)))
  (fun (s2 : Bool) =>
   some (s2)) some

def spool_validChunk (s : T_Spool) (p_r : T_Rec) : Option Bool :=
 bindS (S := Bool) (A := Bool)
  (cond ((decide ((p_r.Data.length : Int) < 1)))
   (some (.inl true))
   (some (.inl ((decide (48 < (p_r.Data.length : Int)))))))
  (fun (s1 : Bool) =>
   cond (s1)
    (some (false))
    (cond ((p_r.Offset == 0))
     (some (true))
     (bindS (S := Bool) (A := Bool)
      (cond ((s.Of == p_r.Number))
       (cond ((p_r.Offset == (s.Part.length : Int)))
        ((some (IntKind.i64.wrap ((s.Part.length : Int) + (p_r.Data.length : Int)))).bind fun v7 =>
        some (.inl ((decide (v7 ≤ 5000)))))
        (some (.inl false)))
       (some (.inl false)))
      (fun (s8 : Bool) =>
       some (s8)) some))) some

def spool_valid (s : T_Spool) (p_r : T_Rec) : Option Bool :=
 (spool_rest_sh ((T_Rec.mk p_r.Kind ((T_Mail.mk (T_Path.mk p_r.Mail.From.Null p_r.Mail.From.Local p_r.Mail.From.Domain) p_r.Mail.To p_r.Mail.Body p_r.Mail.Quiet p_r.Mail.Helo p_r.Mail.At)) p_r.Id p_r.Ids p_r.Origin p_r.Number p_r.Offset p_r.Data))).bind fun v1 =>
 (spool_empty ((T_Rec.mk v1.Kind ((T_Mail.mk (T_Path.mk v1.Mail.From.Null v1.Mail.From.Local v1.Mail.From.Domain) v1.Mail.To v1.Mail.Body v1.Mail.Quiet v1.Mail.Helo v1.Mail.At)) v1.Id v1.Ids v1.Origin v1.Number v1.Offset v1.Data))).bind fun v2 =>
 cond ((!v2))
  (some (false))
  (cond ((p_r.Kind == 1))
   (bindS (S := Bool) (A := Bool)
    (cond ((decide ((s.Items.length : Int) < 60)))
     ((some (IntKind.i64.wrap ((s.Items.length : Int) + 1))).bind fun v5 =>
     cond ((p_r.Id == v5))
      (cond ((p_r.Origin == 0))
       ((spool_validMail ((T_Mail.mk (T_Path.mk p_r.Mail.From.Null p_r.Mail.From.Local p_r.Mail.From.Domain) p_r.Mail.To p_r.Mail.Body p_r.Mail.Quiet p_r.Mail.Helo p_r.Mail.At))).bind fun v6 =>
       some (.inl v6))
       (cond ((p_r.Origin == 1))
        ((spool_validMail ((T_Mail.mk (T_Path.mk p_r.Mail.From.Null p_r.Mail.From.Local p_r.Mail.From.Domain) p_r.Mail.To p_r.Mail.Body p_r.Mail.Quiet p_r.Mail.Helo p_r.Mail.At))).bind fun v7 =>
        some (.inl v7))
        (some (.inl false))))
      (some (.inl false)))
     (some (.inl false)))
    (fun (s8 : Bool) =>
     some (s8)) some)
   (cond ((p_r.Kind == 2))
    (bindS (S := Bool) (A := Bool)
     ((some (IntKind.i64.wrap (s.Packs + 1))).bind fun v13 =>
     cond ((p_r.Number == v13))
      ((spool_validIds s p_r.Ids).bind fun v14 =>
      some (.inl v14))
      (some (.inl false)))
     (fun (s15 : Bool) =>
      some (s15)) some)
    (cond ((p_r.Kind == 3))
     (bindS (S := Bool) (A := Bool)
      (cond ((decide (1 ≤ p_r.Number)))
       (cond ((decide (p_r.Number ≤ s.Packs)))
        ((slices_Contains_int_int s.Sent p_r.Number).bind fun v20 =>
        some (.inl (!v20)))
        (some (.inl false)))
       (some (.inl false)))
      (fun (s21 : Bool) =>
       some (s21)) some)
     (cond ((p_r.Kind == 4))
      ((spool_waits s p_r.Id).bind fun v26 =>
      some (v26))
      (cond ((p_r.Kind == 5))
       (bindS (S := Bool) (A := Bool)
        ((spool_open s p_r.Number).bind fun v28 =>
        cond (v28)
         ((spool_validChunk s ((T_Rec.mk p_r.Kind ((T_Mail.mk (T_Path.mk p_r.Mail.From.Null p_r.Mail.From.Local p_r.Mail.From.Domain) p_r.Mail.To p_r.Mail.Body p_r.Mail.Quiet p_r.Mail.Helo p_r.Mail.At)) p_r.Id p_r.Ids p_r.Origin p_r.Number p_r.Offset p_r.Data))).bind fun v29 =>
         some (.inl v29))
         (some (.inl false)))
        (fun (s30 : Bool) =>
         some (s30)) some)
       (cond ((p_r.Kind == 6))
        ((spool_open s p_r.Number).bind fun v35 =>
        some (v35))
        (some (false))))))))

def clone_List_api_Path (l : (List T_Path)) : Option (List T_Path) :=
 (appO 40 ([] : List T_Path) l).bind fun v1 =>
 some (v1)

def clone_List_byte (l : (List Int)) : Option (List Int) :=
 (appO 1 ([] : List Int) l).bind fun v1 =>
 some (v1)

def clone_Mail (m : T_Mail) : Option T_Mail :=
 (clone_List_api_Path m.To).bind fun v1 =>
 (clone_List_byte m.Body).bind fun v2 =>
 some ((T_Mail.mk (T_Path.mk m.From.Null m.From.Local m.From.Domain) v1 v2 m.Quiet m.Helo m.At))

def clone_Item (x : T_Item) : Option T_Item :=
 (clone_Mail ((T_Mail.mk (T_Path.mk x.Mail.From.Null x.Mail.From.Local x.Mail.From.Domain) x.Mail.To x.Mail.Body x.Mail.Quiet x.Mail.Helo x.Mail.At))).bind fun v1 =>
 some ((T_Item.mk x.Id ((T_Mail.mk (T_Path.mk v1.From.Null v1.From.Local v1.From.Domain) v1.To v1.Body v1.Quiet v1.Helo v1.At)) x.State x.Pack))

def clone_Each_api_Item_of_clone_Item (l : (List T_Item)) : Option (List T_Item) :=
 bindS (S := ((List T_Item))) (A := (List T_Item))
  (loopF (S := ((List T_Item) × Int)) (O := ((List T_Item)) ⊕ (List T_Item)) (fun ((s10, s11) : (List T_Item) × Int) =>
   cond ((decide (s11 < (l.length : Int))))
    ((ixO s11 l.length).bind fun v2 =>
    (getO l v2).bind fun v3 =>
    (clone_Item ((T_Item.mk v3.Id ((T_Mail.mk (T_Path.mk v3.Mail.From.Null v3.Mail.From.Local v3.Mail.From.Domain) v3.Mail.To v3.Mail.Body v3.Mail.Quiet v3.Mail.Helo v3.Mail.At)) v3.State v3.Pack))).bind fun v4 =>
    (appO 144 s10 [(T_Item.mk v4.Id ((T_Mail.mk (T_Path.mk v4.Mail.From.Null v4.Mail.From.Local v4.Mail.From.Domain) v4.Mail.To v4.Mail.Body v4.Mail.Quiet v4.Mail.Helo v4.Mail.At)) v4.State v4.Pack)]).bind fun v5 =>
    (some (IntKind.i64.wrap (s11 + 1))).bind fun v6 =>
    some (.inl (v5, v6)))
    (some (.inr (.inl s10))))
   BIG ([], 0))
  (fun (s13 : (List T_Item)) =>
   some (s13)) some

def clone_List_int (l : (List Int)) : Option (List Int) :=
 (appO 8 ([] : List Int) l).bind fun v1 =>
 some (v1)

def clone_Spool (s : T_Spool) : Option T_Spool :=
 (clone_Each_api_Item_of_clone_Item s.Items).bind fun v1 =>
 (clone_List_int s.Sent).bind fun v2 =>
 (clone_List_byte s.Part).bind fun v3 =>
 (clone_List_int s.Done).bind fun v4 =>
 some ((T_Spool.mk v1 s.Packs v2 v3 s.Of v4))

def cmp_isNaN_int (x : Int) : Option Bool :=
 some ((x != x))

def cmp_Less_int (x : Int) (y : Int) : Option Bool :=
 bindS (S := Bool) (A := Bool)
  ((cmp_isNaN_int x).bind fun v1 =>
  cond (v1)
   ((cmp_isNaN_int y).bind fun v2 =>
   cond ((!v2))
    (some (.inl true))
    (some (.inl ((decide (x < y))))))
   (some (.inl ((decide (x < y))))))
  (fun (s3 : Bool) =>
   some (s3)) some

def slices_isNaN_int (x : Int) : Option Bool :=
 some ((x != x))

def slices_BinarySearch_int_int (x : (List Int)) (target : Int) : Option (Int × Bool) :=
 bindS (S := (Int)) (A := (Int × Bool))
  (loopF (S := (Int × Int)) (O := (Int) ⊕ (Int × Bool)) (fun ((s27, s28) : Int × Int) =>
   cond ((decide (s27 < s28)))
    (bindS (S := Int × Int) (A := ((Int × Int) ⊕ ((Int) ⊕ (Int × Bool))))
     ((some (IntKind.i64.wrap (s27 + s28))).bind fun v2 =>
     (some (IntKind.u64.wrap v2)).bind fun v3 =>
     (shrO .u64 v3 1).bind fun v4 =>
     (some (IntKind.i64.wrap v4)).bind fun v5 =>
     (ixO v5 x.length).bind fun v6 =>
     (getO x v6).bind fun v7 =>
     (cmp_Less_int v7 target).bind fun v8 =>
     cond (v8)
      ((some (IntKind.i64.wrap (v5 + 1))).bind fun v10 =>
      some (.inl (s28, v10)))
      (some (.inl (v5, s27))))
     (fun ((s46, s47) : Int × Int) =>
      some (.inl (s47, s46))) some)
    (some (.inr (.inl s27))))
   BIG ((0, (x.length : Int))))
  (fun (s37 : Int) =>
   bindS (S := Bool) (A := (Int × Bool))
    (cond ((decide (s37 < (x.length : Int))))
     ((ixO s37 x.length).bind fun v52 =>
     (getO x v52).bind fun v53 =>
     cond ((v53 == target))
      (some (.inl true))
      ((ixO s37 x.length).bind fun v54 =>
      (getO x v54).bind fun v55 =>
      (slices_isNaN_int v55).bind fun v56 =>
      cond (v56)
       ((slices_isNaN_int target).bind fun v57 =>
       some (.inl v57))
       (some (.inl false))))
     (some (.inl false)))
    (fun (s58 : Bool) =>
     some ((s37, s58))) some) some

def spool_apply (s : T_Spool) (p_r : T_Rec) : Option T_Spool :=
 bindS (S := (List T_Item) × Int × (List Int) × (List Int) × Int × (List Int)) (A := T_Spool)
  (cond ((p_r.Kind == 1))
   (bindS (S := Int) (A := (((List T_Item) × Int × (List Int) × (List Int) × Int × (List Int)) ⊕ T_Spool))
    (cond ((p_r.Origin == 0))
     (some (.inl 3))
     (some (.inl 1)))
    (fun (s136 : Int) =>
     (clone_Mail ((T_Mail.mk (T_Path.mk p_r.Mail.From.Null p_r.Mail.From.Local p_r.Mail.From.Domain) p_r.Mail.To p_r.Mail.Body p_r.Mail.Quiet p_r.Mail.Helo p_r.Mail.At))).bind fun v8 =>
     (appO 144 s.Items [(T_Item.mk p_r.Id ((T_Mail.mk (T_Path.mk v8.From.Null v8.From.Local v8.From.Domain) v8.To v8.Body v8.Quiet v8.Helo v8.At)) s136 0)]).bind fun v9 =>
     some (.inl (v9, s.Packs, s.Sent, s.Part, s.Of, s.Done))) some)
   (cond ((p_r.Kind == 2))
    (bindS (S := ((List T_Item))) (A := (((List T_Item) × Int × (List Int) × (List Int) × Int × (List Int)) ⊕ T_Spool))
     (loopF (S := ((List T_Item) × Int)) (O := ((List T_Item)) ⊕ (((List T_Item) × Int × (List Int) × (List Int) × Int × (List Int)) ⊕ T_Spool)) (fun ((s158, s159) : (List T_Item) × Int) =>
      cond ((decide (s159 < (s.Items.length : Int))))
       (bindS (S := (List T_Item)) (A := (((List T_Item) × Int) ⊕ (((List T_Item)) ⊕ (((List T_Item) × Int × (List Int) × (List Int) × Int × (List Int)) ⊕ T_Spool))))
        ((ixO s159 s158.length).bind fun v12 =>
        (getO s158 v12).bind fun v13 =>
        (slices_Contains_int_int p_r.Ids v13.Id).bind fun v14 =>
        cond (v14)
         ((ixO s159 s158.length).bind fun v16 =>
         (getO s158 v16).bind fun v17 =>
         (some (s158.set v16 ((T_Item.mk v17.Id ((T_Mail.mk (T_Path.mk v17.Mail.From.Null v17.Mail.From.Local v17.Mail.From.Domain) v17.Mail.To v17.Mail.Body v17.Mail.Quiet v17.Mail.Helo v17.Mail.At)) 2 v17.Pack)))).bind fun v18 =>
         (ixO s159 v18.length).bind fun v19 =>
         (getO v18 v19).bind fun v20 =>
         (some (v18.set v19 ((T_Item.mk v20.Id ((T_Mail.mk (T_Path.mk v20.Mail.From.Null v20.Mail.From.Local v20.Mail.From.Domain) v20.Mail.To v20.Mail.Body v20.Mail.Quiet v20.Mail.Helo v20.Mail.At)) v20.State p_r.Number)))).bind fun v21 =>
         some (.inl v21))
         (some (.inl s158)))
        (fun (s176 : (List T_Item)) =>
         (some (IntKind.i64.wrap (s159 + 1))).bind fun v27 =>
         some (.inl (s176, v27))) some)
       (some (.inr (.inl s158))))
      BIG (s.Items, 0))
     (fun (s167 : (List T_Item)) =>
      some (.inl (s167, p_r.Number, s.Sent, s.Part, s.Of, s.Done))) some)
    (cond ((p_r.Kind == 3))
     (bindS (S := ((List T_Item))) (A := (((List T_Item) × Int × (List Int) × (List Int) × Int × (List Int)) ⊕ T_Spool))
      (loopF (S := ((List T_Item) × Int)) (O := ((List T_Item)) ⊕ (((List T_Item) × Int × (List Int) × (List Int) × Int × (List Int)) ⊕ T_Spool)) (fun ((s198, s199) : (List T_Item) × Int) =>
       cond ((decide (s199 < (s.Items.length : Int))))
        (bindS (S := (List T_Item)) (A := (((List T_Item) × Int) ⊕ (((List T_Item)) ⊕ (((List T_Item) × Int × (List Int) × (List Int) × Int × (List Int)) ⊕ T_Spool))))
         ((ixO s199 s198.length).bind fun v62 =>
         (getO s198 v62).bind fun v63 =>
         cond ((v63.Pack == p_r.Number))
          ((ixO s199 s198.length).bind fun v65 =>
          (getO s198 v65).bind fun v66 =>
          (some (s198.set v65 ((T_Item.mk v66.Id ((T_Mail.mk (T_Path.mk v66.Mail.From.Null v66.Mail.From.Local v66.Mail.From.Domain) v66.Mail.To v66.Mail.Body v66.Mail.Quiet v66.Mail.Helo v66.Mail.At)) 3 v66.Pack)))).bind fun v67 =>
          some (.inl v67))
          (some (.inl s198)))
         (fun (s216 : (List T_Item)) =>
          (some (IntKind.i64.wrap (s199 + 1))).bind fun v73 =>
          some (.inl (s216, v73))) some)
        (some (.inr (.inl s198))))
       BIG (s.Items, 0))
      (fun (s207 : (List T_Item)) =>
       (appO 8 s.Sent [p_r.Number]).bind fun v106 =>
       some (.inl (s207, s.Packs, v106, s.Part, s.Of, s.Done))) some)
     (cond ((p_r.Kind == 4))
      ((spool_find s p_r.Id).bind fun v108 =>
      (ixO v108 s.Items.length).bind fun v109 =>
      (getO s.Items v109).bind fun v110 =>
      (some (s.Items.set v109 ((T_Item.mk v110.Id ((T_Mail.mk (T_Path.mk v110.Mail.From.Null v110.Mail.From.Local v110.Mail.From.Domain) v110.Mail.To v110.Mail.Body v110.Mail.Quiet v110.Mail.Helo v110.Mail.At)) 4 v110.Pack)))).bind fun v111 =>
      some (.inl (v111, s.Packs, s.Sent, s.Part, s.Of, s.Done)))
      (cond ((p_r.Kind == 5))
       (bindS (S := (List Int) × Int) (A := (((List T_Item) × Int × (List Int) × (List Int) × Int × (List Int)) ⊕ T_Spool))
        (cond ((p_r.Offset == 0))
         (some (.inl ([], p_r.Number)))
         (some (.inl (s.Part, s.Of))))
        (fun ((s224, s225) : (List Int) × Int) =>
         (appO 1 s224 p_r.Data).bind fun v120 =>
         some (.inl (s.Items, s.Packs, s.Sent, v120, s225, s.Done))) some)
       (cond ((p_r.Kind == 6))
        ((slices_BinarySearch_int_int s.Done p_r.Number).bind fun v122 =>
        (slices_Insert_int_int s.Done v122.1 [p_r.Number]).bind fun v123 =>
        cond ((s.Of == p_r.Number))
         (some (.inl ((s.Items, s.Packs, s.Sent, [], (-1), v123))))
         (some (.inl (s.Items, s.Packs, s.Sent, s.Part, s.Of, v123))))
        (some (.inl (s.Items, s.Packs, s.Sent, s.Part, s.Of, s.Done)))))))))
  (fun ((s125, s126, s127, s128, s129, s130) : (List T_Item) × Int × (List Int) × (List Int) × Int × (List Int)) =>
   some ((T_Spool.mk s125 s126 s127 s128 s129 s130))) some

def spool_Add (s : T_Spool) (p_r : T_Rec) : Option (T_Spool × Int) :=
 (spool_valid s ((T_Rec.mk p_r.Kind ((T_Mail.mk (T_Path.mk p_r.Mail.From.Null p_r.Mail.From.Local p_r.Mail.From.Domain) p_r.Mail.To p_r.Mail.Body p_r.Mail.Quiet p_r.Mail.Helo p_r.Mail.At)) p_r.Id p_r.Ids p_r.Origin p_r.Number p_r.Offset p_r.Data))).bind fun v1 =>
 cond ((!v1))
  (some (((T_Spool.mk [] 0 [] [] 0 []), 5)))
  ((clone_Spool s).bind fun v3 =>
  (spool_apply v3 ((T_Rec.mk p_r.Kind ((T_Mail.mk (T_Path.mk p_r.Mail.From.Null p_r.Mail.From.Local p_r.Mail.From.Domain) p_r.Mail.To p_r.Mail.Body p_r.Mail.Quiet p_r.Mail.Helo p_r.Mail.At)) p_r.Id p_r.Ids p_r.Origin p_r.Number p_r.Offset p_r.Data))).bind fun v4 =>
  some ((v4, 0)))

def wherrykeep_Spool (a : T_Spool) (b : T_Spool) : Option Bool :=
 bindS (S := Bool) (A := Bool)
  (cond (((a.Items.length : Int) != (b.Items.length : Int)))
   (some (.inl true))
   (cond ((a.Packs != b.Packs))
    (some (.inl true))
    ((wherrykeep_Ints a.Sent b.Sent).bind fun v1 =>
    cond ((!v1))
     (some (.inl true))
     ((wherrykeep_Bytes a.Part b.Part).bind fun v2 =>
     cond ((!v2))
      (some (.inl true))
      (cond ((a.Of != b.Of))
       (some (.inl true))
       ((wherrykeep_Ints a.Done b.Done).bind fun v3 =>
       some (.inl (!v3))))))))
  (fun (s4 : Bool) =>
   cond (s4)
    (some (false))
    (bindS (S := (Unit)) (A := Bool)
     (loopF (S := (Int)) (O := (Unit) ⊕ Bool) (fun (s28 : Int) =>
      cond ((decide (s28 < (a.Items.length : Int))))
       ((ixO s28 a.Items.length).bind fun v10 =>
       (getO a.Items v10).bind fun v11 =>
       (ixO s28 b.Items.length).bind fun v12 =>
       (getO b.Items v12).bind fun v13 =>
       bindS (S := Bool) (A := ((Int) ⊕ ((Unit) ⊕ Bool)))
        (cond ((v11.Id != v13.Id))
         (some (.inl true))
         ((wherrykeep_Mail ((T_Mail.mk (T_Path.mk v11.Mail.From.Null v11.Mail.From.Local v11.Mail.From.Domain) v11.Mail.To v11.Mail.Body v11.Mail.Quiet v11.Mail.Helo v11.Mail.At)) ((T_Mail.mk (T_Path.mk v13.Mail.From.Null v13.Mail.From.Local v13.Mail.From.Domain) v13.Mail.To v13.Mail.Body v13.Mail.Quiet v13.Mail.Helo v13.Mail.At))).bind fun v14 =>
         cond ((!v14))
          (some (.inl true))
          (cond ((v11.State != v13.State))
           (some (.inl true))
           (some (.inl (v11.Pack != v13.Pack))))))
        (fun (s42 : Bool) =>
         cond (s42)
          (some (.inr (.inr (false))))
          ((some (IntKind.i64.wrap (s28 + 1))).bind fun v20 =>
          some (.inl v20))) some)
       (some (.inr (.inl ()))))
      BIG 0)
     (fun (() : Unit) =>
      some (true)) some)) some

def wherrylaw19_some (p_id : Int) (origin : Int) : Option T_Rec :=
 some ((T_Rec.mk 1 ((T_Mail.mk ((T_Path.mk true (⟨#[]⟩ : ByteArray) (⟨#[]⟩ : ByteArray))) ([(T_Path.mk false (⟨#[97]⟩ : ByteArray) (⟨#[98]⟩ : ByteArray))]) [] false (⟨#[]⟩ : ByteArray) 0)) p_id [] origin 0 0 []))

def spool_New : Option T_Spool :=
 some ((T_Spool.mk [] 0 [] [] (-1) []))

def spool_Fold (l : (List T_Rec)) : Option (T_Spool × Int) :=
 (spool_New ).bind fun v1 =>
 bindS (S := ((List T_Item) × Int × (List Int) × (List Int) × Int × (List Int))) (A := (T_Spool × Int))
  (loopF (S := ((List T_Item) × Int × (List Int) × (List Int) × Int × (List Int) × Int)) (O := ((List T_Item) × Int × (List Int) × (List Int) × Int × (List Int)) ⊕ (T_Spool × Int)) (fun ((s18, s19, s20, s21, s22, s23, s24) : (List T_Item) × Int × (List Int) × (List Int) × Int × (List Int) × Int) =>
   cond ((decide (s24 < (l.length : Int))))
    ((ixO s24 l.length).bind fun v3 =>
    (getO l v3).bind fun v4 =>
    (spool_valid (T_Spool.mk s18 s19 s20 s21 s22 s23) ((T_Rec.mk v4.Kind ((T_Mail.mk (T_Path.mk v4.Mail.From.Null v4.Mail.From.Local v4.Mail.From.Domain) v4.Mail.To v4.Mail.Body v4.Mail.Quiet v4.Mail.Helo v4.Mail.At)) v4.Id v4.Ids v4.Origin v4.Number v4.Offset v4.Data))).bind fun v5 =>
    cond ((!v5))
     (some (.inr (.inr (((T_Spool.mk s18 s19 s20 s21 s22 s23), s24)))))
     ((spool_apply (T_Spool.mk s18 s19 s20 s21 s22 s23) ((T_Rec.mk v4.Kind ((T_Mail.mk (T_Path.mk v4.Mail.From.Null v4.Mail.From.Local v4.Mail.From.Domain) v4.Mail.To v4.Mail.Body v4.Mail.Quiet v4.Mail.Helo v4.Mail.At)) v4.Id v4.Ids v4.Origin v4.Number v4.Offset v4.Data))).bind fun v7 =>
     (some (IntKind.i64.wrap (s24 + 1))).bind fun v8 =>
     some (.inl (v7.Items, v7.Packs, v7.Sent, v7.Part, v7.Of, v7.Done, v8))))
    (some (.inr (.inl (s18, s19, s20, s21, s22, s23)))))
   BIG (v1.Items, v1.Packs, v1.Sent, v1.Part, v1.Of, v1.Done, 0))
  (fun ((s27, s28, s29, s30, s31, s32) : (List T_Item) × Int × (List Int) × (List Int) × Int × (List Int)) =>
   some (((T_Spool.mk s27 s28 s29 s30 s31 s32), (l.length : Int)))) some

def clone_Rec (p_r : T_Rec) : Option T_Rec :=
 (clone_Mail ((T_Mail.mk (T_Path.mk p_r.Mail.From.Null p_r.Mail.From.Local p_r.Mail.From.Domain) p_r.Mail.To p_r.Mail.Body p_r.Mail.Quiet p_r.Mail.Helo p_r.Mail.At))).bind fun v1 =>
 (clone_List_int p_r.Ids).bind fun v2 =>
 (clone_List_byte p_r.Data).bind fun v3 =>
 some ((T_Rec.mk p_r.Kind ((T_Mail.mk (T_Path.mk v1.From.Null v1.From.Local v1.From.Domain) v1.To v1.Body v1.Quiet v1.Helo v1.At)) p_r.Id v2 p_r.Origin p_r.Number p_r.Offset v3))

def spool_Lean (l : (List T_Rec)) : Option (List T_Rec) :=
 (spool_Fold l).bind fun v1 =>
 (sliO l 0 v1.2).bind fun v2 =>
 bindS (S := (Int)) (A := (List T_Rec))
  (loopF (S := (Int × Int)) (O := (Int) ⊕ (List T_Rec)) (fun ((s53, s54) : Int × Int) =>
   cond ((decide (s54 < (v2.length : Int))))
    (bindS (S := Int) (A := ((Int × Int) ⊕ ((Int) ⊕ (List T_Rec))))
     ((ixO s54 v2.length).bind fun v4 =>
     (getO v2 v4).bind fun v5 =>
     bindS (S := Bool) (A := (Int ⊕ ((Int × Int) ⊕ ((Int) ⊕ (List T_Rec)))))
      (cond ((v5.Kind == 5))
       (some (.inl (v5.Offset == 0)))
       (some (.inl false)))
      (fun (s87 : Bool) =>
       cond (s87)
        (some (.inl s54))
        (some (.inl s53))) some)
     (fun (s83 : Int) =>
      (some (IntKind.i64.wrap (s54 + 1))).bind fun v19 =>
      some (.inl (s83, v19))) some)
    (some (.inr (.inl s53))))
   BIG (0, 0))
  (fun (s70 : Int) =>
   bindS (S := ((List T_Rec))) (A := (List T_Rec))
    (loopF (S := ((List T_Rec) × Int)) (O := ((List T_Rec)) ⊕ (List T_Rec)) (fun ((s130, s131) : (List T_Rec) × Int) =>
     cond ((decide (s131 < (v2.length : Int))))
      (bindS (S := (List T_Rec)) (A := (((List T_Rec) × Int) ⊕ (((List T_Rec)) ⊕ (List T_Rec))))
       ((ixO s131 v2.length).bind fun v93 =>
       (getO v2 v93).bind fun v94 =>
       bindS (S := Bool) (A := (((List T_Rec)) ⊕ (((List T_Rec) × Int) ⊕ (((List T_Rec)) ⊕ (List T_Rec)))))
        (cond ((v94.Kind == 5))
         (cond ((decide (s131 < s70)))
          (some (.inl true))
          ((slices_Contains_int_int v1.1.Done v94.Number).bind fun v95 =>
          some (.inl v95)))
         (some (.inl false)))
        (fun (s164 : Bool) =>
         cond (s164)
          (some (.inl s130))
          ((clone_Rec ((T_Rec.mk v94.Kind ((T_Mail.mk (T_Path.mk v94.Mail.From.Null v94.Mail.From.Local v94.Mail.From.Domain) v94.Mail.To v94.Mail.Body v94.Mail.Quiet v94.Mail.Helo v94.Mail.At)) v94.Id v94.Ids v94.Origin v94.Number v94.Offset v94.Data))).bind fun v101 =>
          (appO 208 s130 [(T_Rec.mk v101.Kind ((T_Mail.mk (T_Path.mk v101.Mail.From.Null v101.Mail.From.Local v101.Mail.From.Domain) v101.Mail.To v101.Mail.Body v101.Mail.Quiet v101.Mail.Helo v101.Mail.At)) v101.Id v101.Ids v101.Origin v101.Number v101.Offset v101.Data)]).bind fun v102 =>
          some (.inl v102))) some)
       (fun (s160 : (List T_Rec)) =>
        (some (IntKind.i64.wrap (s131 + 1))).bind fun v112 =>
        some (.inl (s160, v112))) some)
      (some (.inr (.inl s130))))
     BIG ([], 0))
    (fun (s147 : (List T_Rec)) =>
     some (s147)) some) some

def wherrylaw19_wakes : Option Bool :=
 (wherrylaw19_some 1 1).bind fun v1 =>
 (spool_Fold ([(T_Rec.mk v1.Kind ((T_Mail.mk (T_Path.mk v1.Mail.From.Null v1.Mail.From.Local v1.Mail.From.Domain) v1.Mail.To v1.Mail.Body v1.Mail.Quiet v1.Mail.Helo v1.Mail.At)) v1.Id v1.Ids v1.Origin v1.Number v1.Offset v1.Data), (T_Rec.mk 2 ((T_Mail.mk ((T_Path.mk false (⟨#[]⟩ : ByteArray) (⟨#[]⟩ : ByteArray))) [] [] false (⟨#[]⟩ : ByteArray) 0)) 0 [1] 0 1 0 []), (T_Rec.mk 3 ((T_Mail.mk ((T_Path.mk false (⟨#[]⟩ : ByteArray) (⟨#[]⟩ : ByteArray))) [] [] false (⟨#[]⟩ : ByteArray) 0)) 0 [] 0 1 0 [])])).bind fun v2 =>
 (spool_Add v2.1 ((T_Rec.mk 4 ((T_Mail.mk ((T_Path.mk false (⟨#[]⟩ : ByteArray) (⟨#[]⟩ : ByteArray))) [] [] false (⟨#[]⟩ : ByteArray) 0)) 1 [] 0 0 0 []))).bind fun v3 =>
 bindS (S := Bool) (A := Bool)
  (cond ((v2.2 == 3))
   (cond (((v2.1.Items.length : Int) == 1))
    ((ixO 0 v2.1.Items.length).bind fun v4 =>
    (getO v2.1.Items v4).bind fun v5 =>
    cond ((v5.State == 3))
     (cond ((v2.1.Of == (-1)))
      (cond ((v3.2 == 5))
       ((spool_Lean ([(T_Rec.mk v1.Kind ((T_Mail.mk (T_Path.mk v1.Mail.From.Null v1.Mail.From.Local v1.Mail.From.Domain) v1.Mail.To v1.Mail.Body v1.Mail.Quiet v1.Mail.Helo v1.Mail.At)) v1.Id v1.Ids v1.Origin v1.Number v1.Offset v1.Data), (T_Rec.mk 2 ((T_Mail.mk ((T_Path.mk false (⟨#[]⟩ : ByteArray) (⟨#[]⟩ : ByteArray))) [] [] false (⟨#[]⟩ : ByteArray) 0)) 0 [1] 0 1 0 []), (T_Rec.mk 3 ((T_Mail.mk ((T_Path.mk false (⟨#[]⟩ : ByteArray) (⟨#[]⟩ : ByteArray))) [] [] false (⟨#[]⟩ : ByteArray) 0)) 0 [] 0 1 0 [])])).bind fun v6 =>
       cond (((v6.length : Int) == 3))
        ((spool_New ).bind fun v7 =>
        some (.inl ((v7.Of == (-1)))))
        (some (.inl false)))
       (some (.inl false)))
      (some (.inl false)))
     (some (.inl false)))
    (some (.inl false)))
   (some (.inl false)))
  (fun (s8 : Bool) =>
   some (s8)) some

def wherrylaw19_SpoolUnnamed (l : (List T_Rec)) (p_r : T_Rec) (how : Int) : Option Bool :=
 bindS (S := Bool) (A := Bool)
  ((wherrylaw18_Heavy l).bind fun v1 =>
  cond (v1)
   (some (.inl true))
   ((wherrylaw18_Heavy [(T_Rec.mk p_r.Kind ((T_Mail.mk (T_Path.mk p_r.Mail.From.Null p_r.Mail.From.Local p_r.Mail.From.Domain) p_r.Mail.To p_r.Mail.Body p_r.Mail.Quiet p_r.Mail.Helo p_r.Mail.At)) p_r.Id p_r.Ids p_r.Origin p_r.Number p_r.Offset p_r.Data)]).bind fun v2 =>
   some (.inl v2)))
  (fun (s3 : Bool) =>
   cond (s3)
    (some (true))
    ((wherryref18_Fold l).bind fun v8 =>
    (wherryref18_Add v8.1 ((T_Rec.mk p_r.Kind ((T_Mail.mk (T_Path.mk p_r.Mail.From.Null p_r.Mail.From.Local p_r.Mail.From.Domain) p_r.Mail.To p_r.Mail.Body p_r.Mail.Quiet p_r.Mail.Helo p_r.Mail.At)) p_r.Id p_r.Ids p_r.Origin p_r.Number p_r.Offset p_r.Data))).bind fun v9 =>
    cond ((v9.2 != 0))
     (some (true))
     ((wherrykeep_TwinRec ((T_Rec.mk p_r.Kind ((T_Mail.mk (T_Path.mk p_r.Mail.From.Null p_r.Mail.From.Local p_r.Mail.From.Domain) p_r.Mail.To p_r.Mail.Body p_r.Mail.Quiet p_r.Mail.Helo p_r.Mail.At)) p_r.Id p_r.Ids p_r.Origin p_r.Number p_r.Offset p_r.Data))).bind fun v11 =>
     bindS (S := Int × (List Int) × Int × Int × (List Int)) (A := Bool)
      ((some (IntKind.u64.wrap how)).bind fun v12 =>
      (remO v12 5).bind fun v13 =>
      bindS (S := Int × (List Int) × Int × Int × (List Int)) (A := ((Int × (List Int) × Int × Int × (List Int)) ⊕ Bool))
       (cond ((v13 == 0))
        (bindS (S := Bool) (A := ((Int × (List Int) × Int × Int × (List Int)) ⊕ ((Int × (List Int) × Int × Int × (List Int)) ⊕ Bool)))
         (cond ((p_r.Kind == 1))
          (some (.inl true))
          (some (.inl (p_r.Kind == 4))))
         (fun (s78 : Bool) =>
          cond (s78)
           (some (.inr (.inr (true))))
           (some (.inl (1, v11.Ids, v11.Origin, v11.Offset, v11.Data)))) some)
        (cond ((v13 == 1))
         (cond ((p_r.Kind == 2))
          (some (.inr (.inr (true))))
          (some (.inl (v11.Id, [1], v11.Origin, v11.Offset, v11.Data))))
         (cond ((v13 == 2))
          (cond ((p_r.Kind == 5))
           (some (.inr (.inr (true))))
           (some (.inl (v11.Id, v11.Ids, v11.Origin, 1, v11.Data))))
          (cond ((v13 == 3))
           (cond ((p_r.Kind == 5))
            (some (.inr (.inr (true))))
            (some (.inl (v11.Id, v11.Ids, v11.Origin, v11.Offset, [0]))))
           (cond ((p_r.Kind == 1))
            (some (.inr (.inr (true))))
            (some (.inl (v11.Id, v11.Ids, 1, v11.Offset, v11.Data))))))))
       (fun ((s69, s70, s71, s72, s73) : Int × (List Int) × Int × Int × (List Int)) =>
        some (.inl (s69, s70, s71, s72, s73))) some)
      (fun ((s48, s49, s50, s51, s52) : Int × (List Int) × Int × Int × (List Int)) =>
       (spool_Add v8.1 ((T_Rec.mk v11.Kind ((T_Mail.mk (T_Path.mk v11.Mail.From.Null v11.Mail.From.Local v11.Mail.From.Domain) v11.Mail.To v11.Mail.Body v11.Mail.Quiet v11.Mail.Helo v11.Mail.At)) s48 s49 s50 v11.Number s51 s52))).bind fun v90 =>
       (spool_Add v8.1 ((T_Rec.mk p_r.Kind ((T_Mail.mk (T_Path.mk p_r.Mail.From.Null p_r.Mail.From.Local p_r.Mail.From.Domain) p_r.Mail.To p_r.Mail.Body p_r.Mail.Quiet p_r.Mail.Helo p_r.Mail.At)) p_r.Id p_r.Ids p_r.Origin p_r.Number p_r.Offset p_r.Data))).bind fun v91 =>
       bindS (S := Bool) (A := Bool)
        (cond ((v90.2 == 5))
         ((wherrykeep_Spool (T_Spool.mk v90.1.Items v90.1.Packs v90.1.Sent v90.1.Part v90.1.Of v90.1.Done) (T_Spool.mk [] 0 [] [] 0 [])).bind fun v92 =>
         cond (v92)
          (cond ((v91.2 == 0))
           ((wherrylaw19_wakes ).bind fun v93 =>
           some (.inl v93))
           (some (.inl false)))
          (some (.inl false)))
         (some (.inl false)))
        (fun (s94 : Bool) =>
         some (s94)) some) some))) some

end Go.Abs.Sh
