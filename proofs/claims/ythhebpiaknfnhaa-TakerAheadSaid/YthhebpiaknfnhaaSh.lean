/-
 The program told in Lean: plain functions; none where Go would panic or a slice outgrow its room.
-/
import Derived.Test.YthhebpiaknfnhaaAN
set_option linter.unusedVariables false
namespace Go.Abs.Sh

structure T_Path where
 Null : Bool
 Local : ByteArray
 Domain : ByteArray
 deriving DecidableEq, Inhabited
def T_Path.enc (x : T_Path) : List Value := [.bool x.Null, .string x.Local, .string x.Domain]
theorem T_Path.len (x : T_Path) : (T_Path.enc x).length = 3 := rfl
def T_Path.wf (x : T_Path) : Prop := True ∧ wfS x.Local ∧ wfS x.Domain
def T_Path.wz (x : T_Path) : Prop := True ∧ wzS x.Local ∧ wzS x.Domain

structure T_Mail where
 From : T_Path
 To : (List T_Path)
 Body : (List Int)
 Quiet : Bool
 Helo : ByteArray
 At : Int
 deriving DecidableEq, Inhabited
def T_Mail.ienc (x : T_Mail) : List IC := [.v (.bool x.From.Null), .v (.string x.From.Local), .v (.string x.From.Domain), .row 3 (List.map IC.v (List.flatten (List.map T_Path.enc x.To))), .row 1 (List.map IC.v (List.map (Value.int .u8) x.Body)), .v (.bool x.Quiet), .v (.string x.Helo), .v (.int .i64 x.At)]
theorem T_Mail.ilen (x : T_Mail) : (T_Mail.ienc x).length = 8 := rfl
def T_Mail.wf (x : T_Mail) : Prop := T_Path.wf x.From ∧ wfL T_Path.wf x.To ∧ wfL (wfI .u8) x.Body ∧ True ∧ wfS x.Helo ∧ wfI .i64 x.At
def T_Mail.wz (x : T_Mail) : Prop := T_Path.wz x.From ∧ (wzL 40 T_Path.wz) x.To ∧ (wzL 1 (wfI .u8)) x.Body ∧ True ∧ wzS x.Helo ∧ (wfI .i64) x.At

structure T_Rec where
 Kind : Int
 Mail : T_Mail
 Id : Int
 Ids : (List Int)
 Origin : Int
 Number : Int
 Offset : Int
 Data : (List Int)
 deriving DecidableEq, Inhabited
def T_Rec.ienc (x : T_Rec) : List IC := [.v (.int .i64 x.Kind), .v (.bool x.Mail.From.Null), .v (.string x.Mail.From.Local), .v (.string x.Mail.From.Domain), .row 3 (List.map IC.v (List.flatten (List.map T_Path.enc x.Mail.To))), .row 1 (List.map IC.v (List.map (Value.int .u8) x.Mail.Body)), .v (.bool x.Mail.Quiet), .v (.string x.Mail.Helo), .v (.int .i64 x.Mail.At), .v (.int .i64 x.Id), .row 1 (List.map IC.v (List.map (Value.int .i64) x.Ids)), .v (.int .i64 x.Origin), .v (.int .i64 x.Number), .v (.int .i64 x.Offset), .row 1 (List.map IC.v (List.map (Value.int .u8) x.Data))]
theorem T_Rec.ilen (x : T_Rec) : (T_Rec.ienc x).length = 15 := rfl
def T_Rec.wf (x : T_Rec) : Prop := wfI .i64 x.Kind ∧ T_Mail.wf x.Mail ∧ wfI .i64 x.Id ∧ wfL (wfI .i64) x.Ids ∧ wfI .i64 x.Origin ∧ wfI .i64 x.Number ∧ wfI .i64 x.Offset ∧ wfL (wfI .u8) x.Data
def T_Rec.wz (x : T_Rec) : Prop := (wfI .i64) x.Kind ∧ T_Mail.wz x.Mail ∧ (wfI .i64) x.Id ∧ (wzL 8 (wfI .i64)) x.Ids ∧ (wfI .i64) x.Origin ∧ (wfI .i64) x.Number ∧ (wfI .i64) x.Offset ∧ (wzL 1 (wfI .u8)) x.Data

structure T_Item where
 Id : Int
 Mail : T_Mail
 State : Int
 Pack : Int
 deriving DecidableEq, Inhabited
def T_Item.ienc (x : T_Item) : List IC := [.v (.int .i64 x.Id), .v (.bool x.Mail.From.Null), .v (.string x.Mail.From.Local), .v (.string x.Mail.From.Domain), .row 3 (List.map IC.v (List.flatten (List.map T_Path.enc x.Mail.To))), .row 1 (List.map IC.v (List.map (Value.int .u8) x.Mail.Body)), .v (.bool x.Mail.Quiet), .v (.string x.Mail.Helo), .v (.int .i64 x.Mail.At), .v (.int .i64 x.State), .v (.int .i64 x.Pack)]
theorem T_Item.ilen (x : T_Item) : (T_Item.ienc x).length = 11 := rfl
def T_Item.wf (x : T_Item) : Prop := wfI .i64 x.Id ∧ T_Mail.wf x.Mail ∧ wfI .i64 x.State ∧ wfI .i64 x.Pack
def T_Item.wz (x : T_Item) : Prop := (wfI .i64) x.Id ∧ T_Mail.wz x.Mail ∧ (wfI .i64) x.State ∧ (wfI .i64) x.Pack

structure T_Spool where
 Items : (List T_Item)
 Packs : Int
 Sent : (List Int)
 Part : (List Int)
 Of : Int
 Done : (List Int)
 deriving DecidableEq, Inhabited
def T_Spool.ienc (x : T_Spool) : List IC := [.row 11 (List.flatten (List.map T_Item.ienc x.Items)), .v (.int .i64 x.Packs), .row 1 (List.map IC.v (List.map (Value.int .i64) x.Sent)), .row 1 (List.map IC.v (List.map (Value.int .u8) x.Part)), .v (.int .i64 x.Of), .row 1 (List.map IC.v (List.map (Value.int .i64) x.Done))]
theorem T_Spool.ilen (x : T_Spool) : (T_Spool.ienc x).length = 6 := rfl
def T_Spool.wf (x : T_Spool) : Prop := wfL T_Item.wf x.Items ∧ wfI .i64 x.Packs ∧ wfL (wfI .i64) x.Sent ∧ wfL (wfI .u8) x.Part ∧ wfI .i64 x.Of ∧ wfL (wfI .i64) x.Done
def T_Spool.wz (x : T_Spool) : Prop := (wzL 144 T_Item.wz) x.Items ∧ (wfI .i64) x.Packs ∧ (wzL 8 (wfI .i64)) x.Sent ∧ (wzL 1 (wfI .u8)) x.Part ∧ (wfI .i64) x.Of ∧ (wzL 8 (wfI .i64)) x.Done

structure T_Take where
 Open : Bool
 Number : Int
 Total : Int
 deriving DecidableEq, Inhabited
def T_Take.enc (x : T_Take) : List Value := [.bool x.Open, .int .i64 x.Number, .int .i64 x.Total]
theorem T_Take.len (x : T_Take) : (T_Take.enc x).length = 3 := rfl
def T_Take.wf (x : T_Take) : Prop := True ∧ wfI .i64 x.Number ∧ wfI .i64 x.Total
def T_Take.wz (x : T_Take) : Prop := True ∧ (wfI .i64) x.Number ∧ (wfI .i64) x.Total

structure T_Frame where
 Kind : Int
 Number : Int
 Offset : Int
 Seq : Int
 Data : (List Int)
 deriving DecidableEq, Inhabited
def T_Frame.ienc (x : T_Frame) : List IC := [.v (.int .i64 x.Kind), .v (.int .i64 x.Number), .v (.int .i64 x.Offset), .v (.int .i64 x.Seq), .row 1 (List.map IC.v (List.map (Value.int .u8) x.Data))]
theorem T_Frame.ilen (x : T_Frame) : (T_Frame.ienc x).length = 5 := rfl
def T_Frame.wf (x : T_Frame) : Prop := wfI .i64 x.Kind ∧ wfI .i64 x.Number ∧ wfI .i64 x.Offset ∧ wfI .i64 x.Seq ∧ wfL (wfI .u8) x.Data
def T_Frame.wz (x : T_Frame) : Prop := (wfI .i64) x.Kind ∧ (wfI .i64) x.Number ∧ (wfI .i64) x.Offset ∧ (wfI .i64) x.Seq ∧ (wzL 1 (wfI .u8)) x.Data

structure T_taker_result where
 take : T_Take
 recs : (List T_Rec)
 out : (List T_Frame)
 deriving DecidableEq, Inhabited
def T_taker_result.ienc (x : T_taker_result) : List IC := [.v (.bool x.take.Open), .v (.int .i64 x.take.Number), .v (.int .i64 x.take.Total), .row 15 (List.flatten (List.map T_Rec.ienc x.recs)), .row 5 (List.flatten (List.map T_Frame.ienc x.out))]
theorem T_taker_result.ilen (x : T_taker_result) : (T_taker_result.ienc x).length = 5 := rfl
def T_taker_result.wf (x : T_taker_result) : Prop := T_Take.wf x.take ∧ wfL T_Rec.wf x.recs ∧ wfL T_Frame.wf x.out
def T_taker_result.wz (x : T_taker_result) : Prop := T_Take.wz x.take ∧ (wzL 208 T_Rec.wz) x.recs ∧ (wzL 56 T_Frame.wz) x.out

def wherrylaw17_Heavy (l : (List T_Mail)) : Option Bool :=
 cond ((decide (20 < (l.length : Int))))
  (some (true))
  (bindS (S := (Int)) (A := Bool)
   (loopF (S := (Int × Int)) (O := (Int) ⊕ Bool) (fun ((s66, s67) : Int × Int) =>
    cond ((decide (s67 < (l.length : Int))))
     ((ixO s67 l.length).bind fun v3 =>
     (getO l v3).bind fun v4 =>
     (some (IntKind.i64.wrap (s66 + (v4.Body.length : Int)))).bind fun v5 =>
     (ixO s67 l.length).bind fun v6 =>
     (getO l v6).bind fun v7 =>
     (some (IntKind.i64.wrap (v5 + (v7.Helo.size : Int)))).bind fun v8 =>
     (ixO s67 l.length).bind fun v9 =>
     (getO l v9).bind fun v10 =>
     (some (IntKind.i64.wrap (v8 + (v10.From.Local.size : Int)))).bind fun v11 =>
     (ixO s67 l.length).bind fun v12 =>
     (getO l v12).bind fun v13 =>
     (some (IntKind.i64.wrap (v11 + (v13.From.Domain.size : Int)))).bind fun v14 =>
     (ixO s67 l.length).bind fun v15 =>
     (getO l v15).bind fun v16 =>
     cond ((decide (40 < (v16.To.length : Int))))
      (some (.inr (.inr (true))))
      (bindS (S := (Int)) (A := ((Int × Int) ⊕ ((Int) ⊕ Bool)))
       (loopF (S := (Int × Int)) (O := (Int) ⊕ ((Int × Int) ⊕ ((Int) ⊕ Bool))) (fun ((s98, s99) : Int × Int) =>
        (ixO s67 l.length).bind fun v18 =>
        (getO l v18).bind fun v19 =>
        cond ((decide (s99 < (v19.To.length : Int))))
         ((ixO s67 l.length).bind fun v21 =>
         (getO l v21).bind fun v22 =>
         (ixO s99 v22.To.length).bind fun v23 =>
         (getO v22.To v23).bind fun v24 =>
         (some (IntKind.i64.wrap (s98 + (v24.Local.size : Int)))).bind fun v25 =>
         (ixO s67 l.length).bind fun v26 =>
         (getO l v26).bind fun v27 =>
         (ixO s99 v27.To.length).bind fun v28 =>
         (getO v27.To v28).bind fun v29 =>
         (some (IntKind.i64.wrap (v25 + (v29.Domain.size : Int)))).bind fun v30 =>
         (some (IntKind.i64.wrap (s99 + 1))).bind fun v31 =>
         some (.inl (v30, v31)))
         (some (.inr (.inl s98))))
        BIG (v14, 0))
       (fun (s101 : Int) =>
        (some (IntKind.i64.wrap (s67 + 1))).bind fun v46 =>
        some (.inl (s101, v46))) some))
     (some (.inr (.inl s66))))
    BIG (0, 0))
   (fun (s85 : Int) =>
    some ((decide (20000 < s85)))) some)

def wherrylaw18_Heavy (l : (List T_Rec)) : Option Bool :=
 cond ((decide (60 < (l.length : Int))))
  (some (true))
  (bindS (S := (Unit)) (A := Bool)
   (loopF (S := (Int)) (O := (Unit) ⊕ Bool) (fun (s23 : Int) =>
    cond ((decide (s23 < (l.length : Int))))
     (bindS (S := Bool) (A := ((Int) ⊕ ((Unit) ⊕ Bool)))
      ((ixO s23 l.length).bind fun v3 =>
      (getO l v3).bind fun v4 =>
      cond ((decide (600 < (v4.Data.length : Int))))
       (some (.inl true))
       ((ixO s23 l.length).bind fun v5 =>
       (getO l v5).bind fun v6 =>
       cond ((decide (60 < (v6.Ids.length : Int))))
        (some (.inl true))
        ((ixO s23 l.length).bind fun v7 =>
        (getO l v7).bind fun v8 =>
        (wherrylaw17_Heavy [(T_Mail.mk (T_Path.mk v8.Mail.From.Null v8.Mail.From.Local v8.Mail.From.Domain) v8.Mail.To v8.Mail.Body v8.Mail.Quiet v8.Mail.Helo v8.Mail.At)]).bind fun v9 =>
        some (.inl v9))))
      (fun (s37 : Bool) =>
       cond (s37)
        (some (.inr (.inr (true))))
        ((some (IntKind.i64.wrap (s23 + 1))).bind fun v15 =>
        some (.inl v15))) some)
     (some (.inr (.inl ()))))
    BIG 0)
   (fun (() : Unit) =>
    some (false)) some)

def wherryref18_Nothing : Option T_Spool :=
 some ((T_Spool.mk [] 0 [] [] (-1) []))

def wherrykeep_TwinInts (l : (List Int)) : Option (List Int) :=
 (appO 8 ([] : List Int) l).bind fun v1 =>
 some (v1)

def wherrykeep_Twin (l : (List Int)) : Option (List Int) :=
 (appO 1 ([] : List Int) l).bind fun v1 =>
 some (v1)

def wherrykeep_TwinPaths (l : (List T_Path)) : Option (List T_Path) :=
 (appO 40 ([] : List T_Path) l).bind fun v1 =>
 some (v1)

def wherrykeep_TwinMail (m : T_Mail) : Option T_Mail :=
 (wherrykeep_TwinPaths m.To).bind fun v1 =>
 (wherrykeep_Twin m.Body).bind fun v2 =>
 some ((T_Mail.mk (T_Path.mk m.From.Null m.From.Local m.From.Domain) v1 v2 m.Quiet m.Helo m.At))

def wherrykeep_TwinSpool (s : T_Spool) : Option T_Spool :=
 (wherrykeep_TwinInts s.Sent).bind fun v1 =>
 (wherrykeep_Twin s.Part).bind fun v2 =>
 (wherrykeep_TwinInts s.Done).bind fun v3 =>
 bindS (S := ((List T_Item))) (A := T_Spool)
  (loopF (S := ((List T_Item) × Int)) (O := ((List T_Item)) ⊕ T_Spool) (fun ((s13, s14) : (List T_Item) × Int) =>
   cond ((decide (s14 < (s.Items.length : Int))))
    ((ixO s14 s.Items.length).bind fun v5 =>
    (getO s.Items v5).bind fun v6 =>
    (wherrykeep_TwinMail ((T_Mail.mk (T_Path.mk v6.Mail.From.Null v6.Mail.From.Local v6.Mail.From.Domain) v6.Mail.To v6.Mail.Body v6.Mail.Quiet v6.Mail.Helo v6.Mail.At))).bind fun v7 =>
    (appO 144 s13 [(T_Item.mk v6.Id ((T_Mail.mk (T_Path.mk v7.From.Null v7.From.Local v7.From.Domain) v7.To v7.Body v7.Quiet v7.Helo v7.At)) v6.State v6.Pack)]).bind fun v8 =>
    (some (IntKind.i64.wrap (s14 + 1))).bind fun v9 =>
    some (.inl (v8, v9)))
    (some (.inr (.inl s13))))
   BIG ([], 0))
  (fun (s16 : (List T_Item)) =>
   some ((T_Spool.mk s16 s.Packs v1 v2 s.Of v3))) some

def wherryref18_in (n : Int) (lo : Int) (hi : Int) : Option Bool :=
 bindS (S := Bool) (A := Bool)
  (cond ((decide (lo ≤ n)))
   (some (.inl ((decide (n ≤ hi)))))
   (some (.inl false)))
  (fun (s1 : Bool) =>
   some (s1)) some

def wherryref11_in (n : Int) (lo : Int) (hi : Int) : Option Bool :=
 bindS (S := Bool) (A := Bool)
  (cond ((decide (lo ≤ n)))
   (some (.inl ((decide (n ≤ hi)))))
   (some (.inl false)))
  (fun (s1 : Bool) =>
   some (s1)) some

def wherryref11_letter (c : Int) : Option Bool :=
 bindS (S := Bool) (A := Bool)
  (cond ((decide (97 ≤ c)))
   (cond ((decide (c ≤ 122)))
    (some (.inl true))
    (cond ((decide (65 ≤ c)))
     (some (.inl ((decide (c ≤ 90)))))
     (some (.inl false))))
   (cond ((decide (65 ≤ c)))
    (some (.inl ((decide (c ≤ 90)))))
    (some (.inl false))))
  (fun (s1 : Bool) =>
   some (s1)) some

def wherryref11_digit (c : Int) : Option Bool :=
 bindS (S := Bool) (A := Bool)
  (cond ((decide (48 ≤ c)))
   (some (.inl ((decide (c ≤ 57)))))
   (some (.inl false)))
  (fun (s1 : Bool) =>
   some (s1)) some

def wherryref11_sign (c : Int) : Option Bool :=
 bindS (S := Bool) (A := Bool)
  ((wherryref11_letter c).bind fun v1 =>
  cond (v1)
   (some (.inl true))
   ((wherryref11_digit c).bind fun v2 =>
   some (.inl v2)))
  (fun (s3 : Bool) =>
   cond (s3)
    (some (true))
    (bindS (S := (Unit)) (A := Bool)
     (loopF (S := (Int)) (O := (Unit) ⊕ Bool) (fun (s15 : Int) =>
      cond ((decide (s15 < (((⟨#[33, 35, 36, 37, 38, 39, 42, 43, 45, 47, 61, 63, 94, 95, 123, 124, 125, 126]⟩ : ByteArray).size : Int)))))
       ((chrO (⟨#[33, 35, 36, 37, 38, 39, 42, 43, 45, 47, 61, 63, 94, 95, 123, 124, 125, 126]⟩ : ByteArray) s15).bind fun v9 =>
       cond ((v9 == c))
        (some (.inr (.inr (true))))
        ((some (IntKind.i64.wrap (s15 + 1))).bind fun v11 =>
        some (.inl v11)))
       (some (.inr (.inl ()))))
      BIG 0)
     (fun (() : Unit) =>
      some ((c == 96))) some)) some

def wherryref11_Local (s : ByteArray) : Option Bool :=
 bindS (S := Bool) (A := Bool)
  ((wherryref11_in (s.size : Int) 1 64).bind fun v1 =>
  cond ((!v1))
   (some (.inl true))
   ((chrO s 0).bind fun v2 =>
   cond ((v2 == 46))
    (some (.inl true))
    ((some (IntKind.i64.wrap ((s.size : Int) - 1))).bind fun v3 =>
    (chrO s v3).bind fun v4 =>
    some (.inl (v4 == 46)))))
  (fun (s5 : Bool) =>
   cond (s5)
    (some (false))
    (bindS (S := (Unit)) (A := Bool)
     (loopF (S := (Int)) (O := (Unit) ⊕ Bool) (fun (s33 : Int) =>
      cond ((decide (s33 < (s.size : Int))))
       (bindS (S := Bool) (A := ((Int) ⊕ ((Unit) ⊕ Bool)))
        ((chrO s s33).bind fun v11 =>
        cond ((v11 == 46))
         ((some (IntKind.i64.wrap (s33 - 1))).bind fun v12 =>
         (chrO s v12).bind fun v13 =>
         cond ((v13 == 46))
          (some (.inl true))
          ((chrO s s33).bind fun v14 =>
          cond ((v14 != 46))
           ((chrO s s33).bind fun v15 =>
           (wherryref11_sign v15).bind fun v16 =>
           some (.inl (!v16)))
           (some (.inl false))))
         ((chrO s s33).bind fun v17 =>
         cond ((v17 != 46))
          ((chrO s s33).bind fun v18 =>
          (wherryref11_sign v18).bind fun v19 =>
          some (.inl (!v19)))
          (some (.inl false))))
        (fun (s47 : Bool) =>
         cond (s47)
          (some (.inr (.inr (false))))
          ((some (IntKind.i64.wrap (s33 + 1))).bind fun v25 =>
          some (.inl v25))) some)
       (some (.inr (.inl ()))))
      BIG 0)
     (fun (() : Unit) =>
      some (true)) some)) some

def wherryref11_Domain (s : ByteArray) : Option Bool :=
 (wherryref11_in (s.size : Int) 1 255).bind fun v1 =>
 cond ((!v1))
  (some (false))
  (bindS (S := (Unit)) (A := Bool)
   (loopF (S := (Int × Int)) (O := (Unit) ⊕ Bool) (fun ((s88, s89) : Int × Int) =>
    cond ((decide (s89 ≤ (s.size : Int))))
     (bindS (S := Int) (A := ((Int × Int) ⊕ ((Unit) ⊕ Bool)))
      (bindS (S := Bool) (A := (Int ⊕ ((Int × Int) ⊕ ((Unit) ⊕ Bool))))
       (cond ((decide (s89 < (s.size : Int))))
        ((chrO s s89).bind fun v4 =>
        some (.inl (v4 != 46)))
        (some (.inl false)))
       (fun (s151 : Bool) =>
        cond (s151)
         (bindS (S := Bool) (A := (Int ⊕ ((Int × Int) ⊕ ((Unit) ⊕ Bool))))
          ((chrO s s89).bind fun v10 =>
          (wherryref11_letter v10).bind fun v11 =>
          cond ((!v11))
           ((chrO s s89).bind fun v12 =>
           (wherryref11_digit v12).bind fun v13 =>
           cond ((!v13))
            ((chrO s s89).bind fun v14 =>
            some (.inl (v14 != 45)))
            (some (.inl false)))
           (some (.inl false)))
          (fun (s156 : Bool) =>
           cond (s156)
            (some (.inr (.inr (.inr (false)))))
            (some (.inl s88))) some)
         (bindS (S := Bool) (A := (Int ⊕ ((Int × Int) ⊕ ((Unit) ⊕ Bool))))
          ((some (IntKind.i64.wrap (s89 - s88))).bind fun v20 =>
          (wherryref11_in v20 1 63).bind fun v21 =>
          cond ((!v21))
           (some (.inl true))
           ((chrO s s88).bind fun v22 =>
           cond ((v22 == 45))
            (some (.inl true))
            ((some (IntKind.i64.wrap (s89 - 1))).bind fun v23 =>
            (chrO s v23).bind fun v24 =>
            some (.inl (v24 == 45)))))
          (fun (s161 : Bool) =>
           cond (s161)
            (some (.inr (.inr (.inr (false)))))
            ((some (IntKind.i64.wrap (s89 + 1))).bind fun v30 =>
            some (.inl v30))) some)) some)
      (fun (s147 : Int) =>
       (some (IntKind.i64.wrap (s89 + 1))).bind fun v50 =>
       some (.inl (s147, v50))) some)
     (some (.inr (.inl ()))))
    BIG (0, 0))
   (fun (() : Unit) =>
    some (true)) some)

def wherryref11_Path (p : T_Path) : Option Bool :=
 cond (p.Null)
  (bindS (S := Bool) (A := Bool)
   (cond ((p.Local.toList == (⟨#[]⟩ : ByteArray).toList))
    (some (.inl ((p.Domain.toList == (⟨#[]⟩ : ByteArray).toList))))
    (some (.inl false)))
   (fun (s2 : Bool) =>
    some (s2)) some)
  (bindS (S := Bool) (A := Bool)
   ((wherryref11_Local p.Local).bind fun v6 =>
   cond (v6)
    ((wherryref11_Domain p.Domain).bind fun v7 =>
    some (.inl v7))
    (some (.inl false)))
   (fun (s8 : Bool) =>
    some (s8)) some)

def wherryref11_Body (b : (List Int)) : Option Bool :=
 bindS (S := (Unit)) (A := Bool)
  (loopF (S := (Int)) (O := (Unit) ⊕ Bool) (fun (s31 : Int) =>
   cond ((decide (s31 < (b.length : Int))))
    (bindS (S := Bool) (A := ((Int) ⊕ ((Unit) ⊕ Bool)))
     ((ixO s31 b.length).bind fun v2 =>
     (getO b v2).bind fun v3 =>
     cond ((v3 == 13))
      ((some (IntKind.i64.wrap (s31 + 1))).bind fun v4 =>
      cond ((decide ((b.length : Int) ≤ v4)))
       (some (.inl true))
       ((some (IntKind.i64.wrap (s31 + 1))).bind fun v5 =>
       (ixO v5 b.length).bind fun v6 =>
       (getO b v6).bind fun v7 =>
       cond ((v7 != 10))
        (some (.inl true))
        ((ixO s31 b.length).bind fun v8 =>
        (getO b v8).bind fun v9 =>
        cond ((v9 == 10))
         (cond ((s31 == 0))
          (some (.inl true))
          ((some (IntKind.i64.wrap (s31 - 1))).bind fun v10 =>
          (ixO v10 b.length).bind fun v11 =>
          (getO b v11).bind fun v12 =>
          some (.inl (v12 != 13))))
         (some (.inl false)))))
      ((ixO s31 b.length).bind fun v13 =>
      (getO b v13).bind fun v14 =>
      cond ((v14 == 10))
       (cond ((s31 == 0))
        (some (.inl true))
        ((some (IntKind.i64.wrap (s31 - 1))).bind fun v15 =>
        (ixO v15 b.length).bind fun v16 =>
        (getO b v16).bind fun v17 =>
        some (.inl (v17 != 13))))
       (some (.inl false))))
     (fun (s45 : Bool) =>
      cond (s45)
       (some (.inr (.inr (false))))
       ((some (IntKind.i64.wrap (s31 + 1))).bind fun v23 =>
       some (.inl v23))) some)
    (some (.inr (.inl ()))))
   BIG 0)
  (fun (() : Unit) =>
   bindS (S := Bool) (A := Bool)
    (cond (((b.length : Int) == 0))
     (some (.inl true))
     ((some (IntKind.i64.wrap ((b.length : Int) - 1))).bind fun v50 =>
     (ixO v50 b.length).bind fun v51 =>
     (getO b v51).bind fun v52 =>
     some (.inl (v52 == 10))))
    (fun (s53 : Bool) =>
     some (s53)) some) some

def wherryref18_mail (m : T_Mail) : Option Bool :=
 bindS (S := Bool) (A := Bool)
  ((wherryref11_Path (T_Path.mk m.From.Null m.From.Local m.From.Domain)).bind fun v1 =>
  cond ((!v1))
   (some (.inl true))
   ((wherryref18_in (m.To.length : Int) 1 8).bind fun v2 =>
   cond ((!v2))
    (some (.inl true))
    ((wherryref11_Body m.Body).bind fun v3 =>
    cond ((!v3))
     (some (.inl true))
     ((wherryref18_in m.At 0 1099511627776).bind fun v4 =>
     some (.inl (!v4))))))
  (fun (s5 : Bool) =>
   cond (s5)
    (some (false))
    (bindS (S := (Unit)) (A := Bool)
     (loopF (S := (Int)) (O := (Unit) ⊕ Bool) (fun (s29 : Int) =>
      cond ((decide (s29 < (m.To.length : Int))))
       (bindS (S := Bool) (A := ((Int) ⊕ ((Unit) ⊕ Bool)))
        ((ixO s29 m.To.length).bind fun v11 =>
        (getO m.To v11).bind fun v12 =>
        (wherryref11_Path v12).bind fun v13 =>
        cond ((!v13))
         (some (.inl true))
         ((ixO s29 m.To.length).bind fun v14 =>
         (getO m.To v14).bind fun v15 =>
         some (.inl v15.Null)))
        (fun (s43 : Bool) =>
         cond (s43)
          (some (.inr (.inr (false))))
          ((some (IntKind.i64.wrap (s29 + 1))).bind fun v21 =>
          some (.inl v21))) some)
       (some (.inr (.inl ()))))
      BIG 0)
     (fun (() : Unit) =>
      some (true)) some)) some

def wherryref18_has (l : (List Int)) (n : Int) : Option Bool :=
 bindS (S := (Unit)) (A := Bool)
  (loopF (S := (Int)) (O := (Unit) ⊕ Bool) (fun (s9 : Int) =>
   cond ((decide (s9 < (l.length : Int))))
    ((ixO s9 l.length).bind fun v2 =>
    (getO l v2).bind fun v3 =>
    cond ((v3 == n))
     (some (.inr (.inr (true))))
     ((some (IntKind.i64.wrap (s9 + 1))).bind fun v5 =>
     some (.inl v5)))
    (some (.inr (.inl ()))))
   BIG 0)
  (fun (() : Unit) =>
   some (false)) some

def wherrykeep_Path (a : T_Path) (b : T_Path) : Option Bool :=
 bindS (S := Bool) (A := Bool)
  ((some (a.Null == b.Null)).bind fun v1 =>
  cond ((a.Null == b.Null))
   (cond ((a.Local.toList == b.Local.toList))
    (some (.inl (a.Domain.toList == b.Domain.toList)))
    (some (.inl false)))
   (some (.inl false)))
  (fun (s2 : Bool) =>
   some (s2)) some

def wherrykeep_Paths (a : (List T_Path)) (b : (List T_Path)) : Option Bool :=
 cond (((a.length : Int) != (b.length : Int)))
  (some (false))
  (bindS (S := (Unit)) (A := Bool)
   (loopF (S := (Int)) (O := (Unit) ⊕ Bool) (fun (s13 : Int) =>
    cond ((decide (s13 < (a.length : Int))))
     ((ixO s13 a.length).bind fun v3 =>
     (getO a v3).bind fun v4 =>
     (ixO s13 b.length).bind fun v5 =>
     (getO b v5).bind fun v6 =>
     (wherrykeep_Path v4 v6).bind fun v7 =>
     cond ((!v7))
      (some (.inr (.inr (false))))
      ((some (IntKind.i64.wrap (s13 + 1))).bind fun v9 =>
      some (.inl v9)))
     (some (.inr (.inl ()))))
    BIG 0)
   (fun (() : Unit) =>
    some (true)) some)

def wherrykeep_Bytes (a : (List Int)) (b : (List Int)) : Option Bool :=
 cond (((a.length : Int) != (b.length : Int)))
  (some (false))
  (bindS (S := (Unit)) (A := Bool)
   (loopF (S := (Int)) (O := (Unit) ⊕ Bool) (fun (s12 : Int) =>
    cond ((decide (s12 < (a.length : Int))))
     ((ixO s12 a.length).bind fun v3 =>
     (getO a v3).bind fun v4 =>
     (ixO s12 b.length).bind fun v5 =>
     (getO b v5).bind fun v6 =>
     cond ((v4 != v6))
      (some (.inr (.inr (false))))
      ((some (IntKind.i64.wrap (s12 + 1))).bind fun v8 =>
      some (.inl v8)))
     (some (.inr (.inl ()))))
    BIG 0)
   (fun (() : Unit) =>
    some (true)) some)

def wherrykeep_Mail (a : T_Mail) (b : T_Mail) : Option Bool :=
 bindS (S := Bool) (A := Bool)
  ((wherrykeep_Path (T_Path.mk a.From.Null a.From.Local a.From.Domain) (T_Path.mk b.From.Null b.From.Local b.From.Domain)).bind fun v1 =>
  cond (v1)
   ((wherrykeep_Paths a.To b.To).bind fun v2 =>
   cond (v2)
    ((wherrykeep_Bytes a.Body b.Body).bind fun v3 =>
    cond (v3)
     ((some (a.Quiet == b.Quiet)).bind fun v4 =>
     cond ((a.Quiet == b.Quiet))
      (cond ((a.Helo.toList == b.Helo.toList))
       (some (.inl (a.At == b.At)))
       (some (.inl false)))
      (some (.inl false)))
     (some (.inl false)))
    (some (.inl false)))
   (some (.inl false)))
  (fun (s5 : Bool) =>
   some (s5)) some

def wherrykeep_Ints (a : (List Int)) (b : (List Int)) : Option Bool :=
 cond (((a.length : Int) != (b.length : Int)))
  (some (false))
  (bindS (S := (Unit)) (A := Bool)
   (loopF (S := (Int)) (O := (Unit) ⊕ Bool) (fun (s12 : Int) =>
    cond ((decide (s12 < (a.length : Int))))
     ((ixO s12 a.length).bind fun v3 =>
     (getO a v3).bind fun v4 =>
     (ixO s12 b.length).bind fun v5 =>
     (getO b v5).bind fun v6 =>
     cond ((v4 != v6))
      (some (.inr (.inr (false))))
      ((some (IntKind.i64.wrap (s12 + 1))).bind fun v8 =>
      some (.inl v8)))
     (some (.inr (.inl ()))))
    BIG 0)
   (fun (() : Unit) =>
    some (true)) some)

def wherrykeep_Rec (a : T_Rec) (b : T_Rec) : Option Bool :=
 bindS (S := Bool) (A := Bool)
  (cond ((a.Kind == b.Kind))
   ((wherrykeep_Mail ((T_Mail.mk (T_Path.mk a.Mail.From.Null a.Mail.From.Local a.Mail.From.Domain) a.Mail.To a.Mail.Body a.Mail.Quiet a.Mail.Helo a.Mail.At)) ((T_Mail.mk (T_Path.mk b.Mail.From.Null b.Mail.From.Local b.Mail.From.Domain) b.Mail.To b.Mail.Body b.Mail.Quiet b.Mail.Helo b.Mail.At))).bind fun v1 =>
   cond (v1)
    (cond ((a.Id == b.Id))
     ((wherrykeep_Ints a.Ids b.Ids).bind fun v2 =>
     cond (v2)
      (cond ((a.Origin == b.Origin))
       (cond ((a.Number == b.Number))
        (cond ((a.Offset == b.Offset))
         ((wherrykeep_Bytes a.Data b.Data).bind fun v3 =>
         some (.inl v3))
         (some (.inl false)))
        (some (.inl false)))
       (some (.inl false)))
      (some (.inl false)))
     (some (.inl false)))
    (some (.inl false)))
   (some (.inl false)))
  (fun (s4 : Bool) =>
   some (s4)) some

def wherryref18_Add (s : T_Spool) (p_r : T_Rec) : Option (T_Spool × Int) :=
 (wherrykeep_TwinSpool s).bind fun v1 =>
 bindS (S := (List T_Item) × Int × (List Int) × (List Int) × Int × (List Int) × Bool × ByteArray × ByteArray × (List T_Path) × (List Int) × Bool × ByteArray × Int × Int × (List Int) × Int × Int × Int × (List Int) × Bool) (A := (T_Spool × Int))
  (bindS (S := (List T_Item) × Int × (List Int) × (List Int) × Int × (List Int) × Bool × ByteArray × ByteArray × (List T_Path) × (List Int) × Bool × ByteArray × Int × Int × (List Int) × Int × Int × Int × (List Int) × Bool) (A := (((List T_Item) × Int × (List Int) × (List Int) × Int × (List Int) × Bool × ByteArray × ByteArray × (List T_Path) × (List Int) × Bool × ByteArray × Int × Int × (List Int) × Int × Int × Int × (List Int) × Bool) ⊕ (T_Spool × Int)))
   (cond ((p_r.Kind == 1))
    (bindS (S := Bool) (A := (((List T_Item) × Int × (List Int) × (List Int) × Int × (List Int) × Bool × ByteArray × ByteArray × (List T_Path) × (List Int) × Bool × ByteArray × Int × Int × (List Int) × Int × Int × Int × (List Int) × Bool) ⊕ (((List T_Item) × Int × (List Int) × (List Int) × Int × (List Int) × Bool × ByteArray × ByteArray × (List T_Path) × (List Int) × Bool × ByteArray × Int × Int × (List Int) × Int × Int × Int × (List Int) × Bool) ⊕ (T_Spool × Int))))
     ((some (IntKind.i64.wrap ((s.Items.length : Int) + 1))).bind fun v3 =>
     cond ((p_r.Id == v3))
      (cond ((decide ((s.Items.length : Int) < 60)))
       ((wherryref18_in p_r.Origin 0 1).bind fun v4 =>
       cond (v4)
        ((wherryref18_mail ((T_Mail.mk (T_Path.mk p_r.Mail.From.Null p_r.Mail.From.Local p_r.Mail.From.Domain) p_r.Mail.To p_r.Mail.Body p_r.Mail.Quiet p_r.Mail.Helo p_r.Mail.At))).bind fun v5 =>
        some (.inl v5))
        (some (.inl false)))
       (some (.inl false)))
      (some (.inl false)))
     (fun (s1036 : Bool) =>
      bindS (S := Int) (A := (((List T_Item) × Int × (List Int) × (List Int) × Int × (List Int) × Bool × ByteArray × ByteArray × (List T_Path) × (List Int) × Bool × ByteArray × Int × Int × (List Int) × Int × Int × Int × (List Int) × Bool) ⊕ (((List T_Item) × Int × (List Int) × (List Int) × Int × (List Int) × Bool × ByteArray × ByteArray × (List T_Path) × (List Int) × Bool × ByteArray × Int × Int × (List Int) × Int × Int × Int × (List Int) × Bool) ⊕ (T_Spool × Int))))
       (cond ((p_r.Origin == 0))
        (some (.inl 3))
        (some (.inl 1)))
       (fun (s1041 : Int) =>
        (wherrykeep_TwinMail ((T_Mail.mk (T_Path.mk p_r.Mail.From.Null p_r.Mail.From.Local p_r.Mail.From.Domain) p_r.Mail.To p_r.Mail.Body p_r.Mail.Quiet p_r.Mail.Helo p_r.Mail.At))).bind fun v16 =>
        (appO 144 v1.Items [(T_Item.mk p_r.Id ((T_Mail.mk (T_Path.mk v16.From.Null v16.From.Local v16.From.Domain) v16.To v16.Body v16.Quiet v16.Helo v16.At)) s1041 0)]).bind fun v17 =>
        some (.inl (v17, v1.Packs, v1.Sent, v1.Part, v1.Of, v1.Done, p_r.Mail.From.Null, p_r.Mail.From.Local, p_r.Mail.From.Domain, p_r.Mail.To, p_r.Mail.Body, p_r.Mail.Quiet, p_r.Mail.Helo, p_r.Mail.At, p_r.Id, [], p_r.Origin, 0, 0, [], s1036))) some) some)
    (cond ((p_r.Kind == 2))
     (bindS (S := Bool) (A := (((List T_Item) × Int × (List Int) × (List Int) × Int × (List Int) × Bool × ByteArray × ByteArray × (List T_Path) × (List Int) × Bool × ByteArray × Int × Int × (List Int) × Int × Int × Int × (List Int) × Bool) ⊕ (((List T_Item) × Int × (List Int) × (List Int) × Int × (List Int) × Bool × ByteArray × ByteArray × (List T_Path) × (List Int) × Bool × ByteArray × Int × Int × (List Int) × Int × Int × Int × (List Int) × Bool) ⊕ (T_Spool × Int))))
      ((some (IntKind.i64.wrap (s.Packs + 1))).bind fun v19 =>
      cond ((p_r.Number == v19))
       ((wherryref18_in (p_r.Ids.length : Int) 1 4).bind fun v20 =>
       some (.inl v20))
       (some (.inl false)))
      (fun (s1047 : Bool) =>
       bindS (S := ((List T_Item) × Bool)) (A := (((List T_Item) × Int × (List Int) × (List Int) × Int × (List Int) × Bool × ByteArray × ByteArray × (List T_Path) × (List Int) × Bool × ByteArray × Int × Int × (List Int) × Int × Int × Int × (List Int) × Bool) ⊕ (((List T_Item) × Int × (List Int) × (List Int) × Int × (List Int) × Bool × ByteArray × ByteArray × (List T_Path) × (List Int) × Bool × ByteArray × Int × Int × (List Int) × Int × Int × Int × (List Int) × Bool) ⊕ (T_Spool × Int))))
        (loopF (S := ((List T_Item) × Bool × Int)) (O := ((List T_Item) × Bool) ⊕ (((List T_Item) × Int × (List Int) × (List Int) × Int × (List Int) × Bool × ByteArray × ByteArray × (List T_Path) × (List Int) × Bool × ByteArray × Int × Int × (List Int) × Int × Int × Int × (List Int) × Bool) ⊕ (((List T_Item) × Int × (List Int) × (List Int) × Int × (List Int) × Bool × ByteArray × ByteArray × (List T_Path) × (List Int) × Bool × ByteArray × Int × Int × (List Int) × Int × Int × Int × (List Int) × Bool) ⊕ (T_Spool × Int)))) (fun ((s1094, s1095, s1096) : (List T_Item) × Bool × Int) =>
         bindS (S := Bool) (A := (((List T_Item) × Bool × Int) ⊕ (((List T_Item) × Bool) ⊕ (((List T_Item) × Int × (List Int) × (List Int) × Int × (List Int) × Bool × ByteArray × ByteArray × (List T_Path) × (List Int) × Bool × ByteArray × Int × Int × (List Int) × Int × Int × Int × (List Int) × Bool) ⊕ (((List T_Item) × Int × (List Int) × (List Int) × Int × (List Int) × Bool × ByteArray × ByteArray × (List T_Path) × (List Int) × Bool × ByteArray × Int × Int × (List Int) × Int × Int × Int × (List Int) × Bool) ⊕ (T_Spool × Int))))))
          (cond ((decide (s1096 < (p_r.Ids.length : Int))))
           (some (.inl s1095))
           (some (.inl false)))
          (fun (s1125 : Bool) =>
           cond (s1125)
            (bindS (S := (List T_Item) × Bool) (A := (((List T_Item) × Bool × Int) ⊕ (((List T_Item) × Bool) ⊕ (((List T_Item) × Int × (List Int) × (List Int) × Int × (List Int) × Bool × ByteArray × ByteArray × (List T_Path) × (List Int) × Bool × ByteArray × Int × Int × (List Int) × Int × Int × Int × (List Int) × Bool) ⊕ (((List T_Item) × Int × (List Int) × (List Int) × Int × (List Int) × Bool × ByteArray × ByteArray × (List T_Path) × (List Int) × Bool × ByteArray × Int × Int × (List Int) × Int × Int × Int × (List Int) × Bool) ⊕ (T_Spool × Int))))))
             (bindS (S := Bool) (A := (((List T_Item) × Bool) ⊕ (((List T_Item) × Bool × Int) ⊕ (((List T_Item) × Bool) ⊕ (((List T_Item) × Int × (List Int) × (List Int) × Int × (List Int) × Bool × ByteArray × ByteArray × (List T_Path) × (List Int) × Bool × ByteArray × Int × Int × (List Int) × Int × Int × Int × (List Int) × Bool) ⊕ (((List T_Item) × Int × (List Int) × (List Int) × Int × (List Int) × Bool × ByteArray × ByteArray × (List T_Path) × (List Int) × Bool × ByteArray × Int × Int × (List Int) × Int × Int × Int × (List Int) × Bool) ⊕ (T_Spool × Int)))))))
              ((ixO s1096 p_r.Ids.length).bind fun v30 =>
              (getO p_r.Ids v30).bind fun v31 =>
              (wherryref18_in v31 1 (s.Items.length : Int)).bind fun v32 =>
              cond (v32)
               ((ixO s1096 p_r.Ids.length).bind fun v33 =>
               (getO p_r.Ids v33).bind fun v34 =>
               (some (IntKind.i64.wrap (v34 - 1))).bind fun v35 =>
               (ixO v35 s.Items.length).bind fun v36 =>
               (getO s.Items v36).bind fun v37 =>
               cond ((v37.State == 1))
                (cond ((s1096 == 0))
                 (some (.inl true))
                 ((ixO s1096 p_r.Ids.length).bind fun v38 =>
                 (getO p_r.Ids v38).bind fun v39 =>
                 (some (IntKind.i64.wrap (s1096 - 1))).bind fun v40 =>
                 (ixO v40 p_r.Ids.length).bind fun v41 =>
                 (getO p_r.Ids v41).bind fun v42 =>
                 some (.inl ((decide (v42 < v39))))))
                (some (.inl false)))
               (some (.inl false)))
              (fun (s1140 : Bool) =>
               cond (s1140)
                ((ixO s1096 p_r.Ids.length).bind fun v48 =>
                (getO p_r.Ids v48).bind fun v49 =>
                (some (IntKind.i64.wrap (v49 - 1))).bind fun v50 =>
                (ixO s1096 p_r.Ids.length).bind fun v51 =>
                (getO p_r.Ids v51).bind fun v52 =>
                (some (IntKind.i64.wrap (v52 - 1))).bind fun v53 =>
                (ixO v50 s1094.length).bind fun v54 =>
                (getO s1094 v54).bind fun v55 =>
                (some (s1094.set v54 ((T_Item.mk v55.Id ((T_Mail.mk (T_Path.mk v55.Mail.From.Null v55.Mail.From.Local v55.Mail.From.Domain) v55.Mail.To v55.Mail.Body v55.Mail.Quiet v55.Mail.Helo v55.Mail.At)) 2 v55.Pack)))).bind fun v56 =>
                (ixO v53 s1094.length).bind fun v57 =>
                (getO v56 v57).bind fun v58 =>
                (some (v56.set v57 ((T_Item.mk v58.Id ((T_Mail.mk (T_Path.mk v58.Mail.From.Null v58.Mail.From.Local v58.Mail.From.Domain) v58.Mail.To v58.Mail.Body v58.Mail.Quiet v58.Mail.Helo v58.Mail.At)) v58.State p_r.Number)))).bind fun v59 =>
                some (.inl (v59, s1140)))
                (some (.inl (s1094, s1140)))) some)
             (fun ((s1135, s1136) : (List T_Item) × Bool) =>
              (some (IntKind.i64.wrap (s1096 + 1))).bind fun v70 =>
              some (.inl (s1135, s1136, v70))) some)
            (some (.inr (.inl (s1094, s1095))))) some)
         BIG (v1.Items, s1047, 0))
        (fun ((s1117, s1118) : (List T_Item) × Bool) =>
         some (.inl ((s1117, p_r.Number, v1.Sent, v1.Part, v1.Of, v1.Done, false, (⟨#[]⟩ : ByteArray), (⟨#[]⟩ : ByteArray), [], [], false, (⟨#[]⟩ : ByteArray), 0, 0, p_r.Ids, 0, p_r.Number, 0, [], s1118)))) some) some)
     (cond ((p_r.Kind == 3))
      (bindS (S := Bool) (A := (((List T_Item) × Int × (List Int) × (List Int) × Int × (List Int) × Bool × ByteArray × ByteArray × (List T_Path) × (List Int) × Bool × ByteArray × Int × Int × (List Int) × Int × Int × Int × (List Int) × Bool) ⊕ (((List T_Item) × Int × (List Int) × (List Int) × Int × (List Int) × Bool × ByteArray × ByteArray × (List T_Path) × (List Int) × Bool × ByteArray × Int × Int × (List Int) × Int × Int × Int × (List Int) × Bool) ⊕ (T_Spool × Int))))
       ((wherryref18_in p_r.Number 1 s.Packs).bind fun v146 =>
       cond (v146)
        ((wherryref18_has s.Sent p_r.Number).bind fun v147 =>
        some (.inl (!v147)))
        (some (.inl false)))
       (fun (s1146 : Bool) =>
        bindS (S := ((List T_Item))) (A := (((List T_Item) × Int × (List Int) × (List Int) × Int × (List Int) × Bool × ByteArray × ByteArray × (List T_Path) × (List Int) × Bool × ByteArray × Int × Int × (List Int) × Int × Int × Int × (List Int) × Bool) ⊕ (((List T_Item) × Int × (List Int) × (List Int) × Int × (List Int) × Bool × ByteArray × ByteArray × (List T_Path) × (List Int) × Bool × ByteArray × Int × Int × (List Int) × Int × Int × Int × (List Int) × Bool) ⊕ (T_Spool × Int))))
         (loopF (S := ((List T_Item) × Int)) (O := ((List T_Item)) ⊕ (((List T_Item) × Int × (List Int) × (List Int) × Int × (List Int) × Bool × ByteArray × ByteArray × (List T_Path) × (List Int) × Bool × ByteArray × Int × Int × (List Int) × Int × Int × Int × (List Int) × Bool) ⊕ (((List T_Item) × Int × (List Int) × (List Int) × Int × (List Int) × Bool × ByteArray × ByteArray × (List T_Path) × (List Int) × Bool × ByteArray × Int × Int × (List Int) × Int × Int × Int × (List Int) × Bool) ⊕ (T_Spool × Int)))) (fun ((s1182, s1183) : (List T_Item) × Int) =>
          cond ((decide (s1183 < (s1182.length : Int))))
           (bindS (S := (List T_Item)) (A := (((List T_Item) × Int) ⊕ (((List T_Item)) ⊕ (((List T_Item) × Int × (List Int) × (List Int) × Int × (List Int) × Bool × ByteArray × ByteArray × (List T_Path) × (List Int) × Bool × ByteArray × Int × Int × (List Int) × Int × Int × Int × (List Int) × Bool) ⊕ (((List T_Item) × Int × (List Int) × (List Int) × Int × (List Int) × Bool × ByteArray × ByteArray × (List T_Path) × (List Int) × Bool × ByteArray × Int × Int × (List Int) × Int × Int × Int × (List Int) × Bool) ⊕ (T_Spool × Int))))))
            (bindS (S := Bool) (A := (((List T_Item)) ⊕ (((List T_Item) × Int) ⊕ (((List T_Item)) ⊕ (((List T_Item) × Int × (List Int) × (List Int) × Int × (List Int) × Bool × ByteArray × ByteArray × (List T_Path) × (List Int) × Bool × ByteArray × Int × Int × (List Int) × Int × Int × Int × (List Int) × Bool) ⊕ (((List T_Item) × Int × (List Int) × (List Int) × Int × (List Int) × Bool × ByteArray × ByteArray × (List T_Path) × (List Int) × Bool × ByteArray × Int × Int × (List Int) × Int × Int × Int × (List Int) × Bool) ⊕ (T_Spool × Int)))))))
             ((ixO s1183 s1182.length).bind fun v153 =>
             (getO s1182 v153).bind fun v154 =>
             cond ((v154.Pack == p_r.Number))
              ((ixO s1183 s1182.length).bind fun v155 =>
              (getO s1182 v155).bind fun v156 =>
              some (.inl (v156.State == 2)))
              (some (.inl false)))
             (fun (s1216 : Bool) =>
              cond (s1216)
               ((ixO s1183 s1182.length).bind fun v162 =>
               (getO s1182 v162).bind fun v163 =>
               (some (s1182.set v162 ((T_Item.mk v163.Id ((T_Mail.mk (T_Path.mk v163.Mail.From.Null v163.Mail.From.Local v163.Mail.From.Domain) v163.Mail.To v163.Mail.Body v163.Mail.Quiet v163.Mail.Helo v163.Mail.At)) 3 v163.Pack)))).bind fun v164 =>
               some (.inl v164))
               (some (.inl s1182))) some)
            (fun (s1212 : (List T_Item)) =>
             (some (IntKind.i64.wrap (s1183 + 1))).bind fun v174 =>
             some (.inl (s1212, v174))) some)
           (some (.inr (.inl s1182))))
          BIG (v1.Items, 0))
         (fun (s1199 : (List T_Item)) =>
          (appO 8 v1.Sent [p_r.Number]).bind fun v231 =>
          some (.inl ((s1199, v1.Packs, v231, v1.Part, v1.Of, v1.Done, false, (⟨#[]⟩ : ByteArray), (⟨#[]⟩ : ByteArray), [], [], false, (⟨#[]⟩ : ByteArray), 0, 0, [], 0, p_r.Number, 0, [], s1146)))) some) some)
      (cond ((p_r.Kind == 4))
       (bindS (S := Bool) (A := (((List T_Item) × Int × (List Int) × (List Int) × Int × (List Int) × Bool × ByteArray × ByteArray × (List T_Path) × (List Int) × Bool × ByteArray × Int × Int × (List Int) × Int × Int × Int × (List Int) × Bool) ⊕ (((List T_Item) × Int × (List Int) × (List Int) × Int × (List Int) × Bool × ByteArray × ByteArray × (List T_Path) × (List Int) × Bool × ByteArray × Int × Int × (List Int) × Int × Int × Int × (List Int) × Bool) ⊕ (T_Spool × Int))))
        ((wherryref18_in p_r.Id 1 (s.Items.length : Int)).bind fun v233 =>
        cond (v233)
         ((some (IntKind.i64.wrap (p_r.Id - 1))).bind fun v234 =>
         (ixO v234 s.Items.length).bind fun v235 =>
         (getO s.Items v235).bind fun v236 =>
         some (.inl (v236.State == 1)))
         (some (.inl false)))
        (fun (s1222 : Bool) =>
         cond (s1222)
          ((some (IntKind.i64.wrap (p_r.Id - 1))).bind fun v242 =>
          (ixO v242 v1.Items.length).bind fun v243 =>
          (getO v1.Items v243).bind fun v244 =>
          (some (v1.Items.set v243 ((T_Item.mk v244.Id ((T_Mail.mk (T_Path.mk v244.Mail.From.Null v244.Mail.From.Local v244.Mail.From.Domain) v244.Mail.To v244.Mail.Body v244.Mail.Quiet v244.Mail.Helo v244.Mail.At)) 4 v244.Pack)))).bind fun v245 =>
          some (.inl ((v245, v1.Packs, v1.Sent, v1.Part, v1.Of, v1.Done, false, (⟨#[]⟩ : ByteArray), (⟨#[]⟩ : ByteArray), [], [], false, (⟨#[]⟩ : ByteArray), 0, p_r.Id, [], 0, 0, 0, [], s1222))))
          (some (.inl ((v1.Items, v1.Packs, v1.Sent, v1.Part, v1.Of, v1.Done, false, (⟨#[]⟩ : ByteArray), (⟨#[]⟩ : ByteArray), [], [], false, (⟨#[]⟩ : ByteArray), 0, p_r.Id, [], 0, 0, 0, [], s1222))))) some)
       (cond ((p_r.Kind == 5))
        (bindS (S := Bool) (A := (((List T_Item) × Int × (List Int) × (List Int) × Int × (List Int) × Bool × ByteArray × ByteArray × (List T_Path) × (List Int) × Bool × ByteArray × Int × Int × (List Int) × Int × Int × Int × (List Int) × Bool) ⊕ (((List T_Item) × Int × (List Int) × (List Int) × Int × (List Int) × Bool × ByteArray × ByteArray × (List T_Path) × (List Int) × Bool × ByteArray × Int × Int × (List Int) × Int × Int × Int × (List Int) × Bool) ⊕ (T_Spool × Int))))
         ((wherryref18_in p_r.Number 1 65535).bind fun v247 =>
         cond (v247)
          ((wherryref18_has s.Done p_r.Number).bind fun v248 =>
          cond ((!v248))
           ((wherryref18_in (p_r.Data.length : Int) 1 48).bind fun v249 =>
           cond (v249)
            (cond ((p_r.Offset == 0))
             (some (.inl true))
             (cond ((s.Of == p_r.Number))
              (some (.inl ((p_r.Offset == (s.Part.length : Int)))))
              (some (.inl false))))
            (some (.inl false)))
           (some (.inl false)))
          (some (.inl false)))
         (fun (s1228 : Bool) =>
          bindS (S := (List Int) × Int) (A := (((List T_Item) × Int × (List Int) × (List Int) × Int × (List Int) × Bool × ByteArray × ByteArray × (List T_Path) × (List Int) × Bool × ByteArray × Int × Int × (List Int) × Int × Int × Int × (List Int) × Bool) ⊕ (((List T_Item) × Int × (List Int) × (List Int) × Int × (List Int) × Bool × ByteArray × ByteArray × (List T_Path) × (List Int) × Bool × ByteArray × Int × Int × (List Int) × Int × Int × Int × (List Int) × Bool) ⊕ (T_Spool × Int))))
           (cond ((p_r.Offset == 0))
            ((wherrykeep_Twin p_r.Data).bind fun v255 =>
            some (.inl (v255, p_r.Number)))
            ((appO 1 v1.Part p_r.Data).bind fun v256 =>
            some (.inl (v256, v1.Of))))
           (fun ((s1233, s1234) : (List Int) × Int) =>
            bindS (S := Bool) (A := (((List T_Item) × Int × (List Int) × (List Int) × Int × (List Int) × Bool × ByteArray × ByteArray × (List T_Path) × (List Int) × Bool × ByteArray × Int × Int × (List Int) × Int × Int × Int × (List Int) × Bool) ⊕ (((List T_Item) × Int × (List Int) × (List Int) × Int × (List Int) × Bool × ByteArray × ByteArray × (List T_Path) × (List Int) × Bool × ByteArray × Int × Int × (List Int) × Int × Int × Int × (List Int) × Bool) ⊕ (T_Spool × Int))))
             (cond (s1228)
              (some (.inl ((decide ((s1233.length : Int) ≤ 5000)))))
              (some (.inl false)))
             (fun (s1239 : Bool) =>
              some (.inl ((v1.Items, v1.Packs, v1.Sent, s1233, s1234, v1.Done, false, (⟨#[]⟩ : ByteArray), (⟨#[]⟩ : ByteArray), [], [], false, (⟨#[]⟩ : ByteArray), 0, 0, [], 0, p_r.Number, p_r.Offset, p_r.Data, s1239)))) some) some) some)
        (cond ((p_r.Kind == 6))
         (bindS (S := Bool) (A := (((List T_Item) × Int × (List Int) × (List Int) × Int × (List Int) × Bool × ByteArray × ByteArray × (List T_Path) × (List Int) × Bool × ByteArray × Int × Int × (List Int) × Int × Int × Int × (List Int) × Bool) ⊕ (((List T_Item) × Int × (List Int) × (List Int) × Int × (List Int) × Bool × ByteArray × ByteArray × (List T_Path) × (List Int) × Bool × ByteArray × Int × Int × (List Int) × Int × Int × Int × (List Int) × Bool) ⊕ (T_Spool × Int))))
          ((wherryref18_in p_r.Number 1 65535).bind fun v268 =>
          cond (v268)
           ((wherryref18_has s.Done p_r.Number).bind fun v269 =>
           some (.inl (!v269)))
           (some (.inl false)))
          (fun (s1244 : Bool) =>
           bindS (S := ((List Int) × Bool)) (A := (((List T_Item) × Int × (List Int) × (List Int) × Int × (List Int) × Bool × ByteArray × ByteArray × (List T_Path) × (List Int) × Bool × ByteArray × Int × Int × (List Int) × Int × Int × Int × (List Int) × Bool) ⊕ (((List T_Item) × Int × (List Int) × (List Int) × Int × (List Int) × Bool × ByteArray × ByteArray × (List T_Path) × (List Int) × Bool × ByteArray × Int × Int × (List Int) × Int × Int × Int × (List Int) × Bool) ⊕ (T_Spool × Int))))
            (loopF (S := ((List Int) × Bool × Int)) (O := ((List Int) × Bool) ⊕ (((List T_Item) × Int × (List Int) × (List Int) × Int × (List Int) × Bool × ByteArray × ByteArray × (List T_Path) × (List Int) × Bool × ByteArray × Int × Int × (List Int) × Int × Int × Int × (List Int) × Bool) ⊕ (((List T_Item) × Int × (List Int) × (List Int) × Int × (List Int) × Bool × ByteArray × ByteArray × (List T_Path) × (List Int) × Bool × ByteArray × Int × Int × (List Int) × Int × Int × Int × (List Int) × Bool) ⊕ (T_Spool × Int)))) (fun ((s1283, s1284, s1285) : (List Int) × Bool × Int) =>
             cond ((decide (s1285 < (s.Done.length : Int))))
              (bindS (S := (List Int) × Bool) (A := (((List Int) × Bool × Int) ⊕ (((List Int) × Bool) ⊕ (((List T_Item) × Int × (List Int) × (List Int) × Int × (List Int) × Bool × ByteArray × ByteArray × (List T_Path) × (List Int) × Bool × ByteArray × Int × Int × (List Int) × Int × Int × Int × (List Int) × Bool) ⊕ (((List T_Item) × Int × (List Int) × (List Int) × Int × (List Int) × Bool × ByteArray × ByteArray × (List T_Path) × (List Int) × Bool × ByteArray × Int × Int × (List Int) × Int × Int × Int × (List Int) × Bool) ⊕ (T_Spool × Int))))))
               (bindS (S := Bool) (A := (((List Int) × Bool) ⊕ (((List Int) × Bool × Int) ⊕ (((List Int) × Bool) ⊕ (((List T_Item) × Int × (List Int) × (List Int) × Int × (List Int) × Bool × ByteArray × ByteArray × (List T_Path) × (List Int) × Bool × ByteArray × Int × Int × (List Int) × Int × Int × Int × (List Int) × Bool) ⊕ (((List T_Item) × Int × (List Int) × (List Int) × Int × (List Int) × Bool × ByteArray × ByteArray × (List T_Path) × (List Int) × Bool × ByteArray × Int × Int × (List Int) × Int × Int × Int × (List Int) × Bool) ⊕ (T_Spool × Int)))))))
                ((ixO s1285 s.Done.length).bind fun v275 =>
                (getO s.Done v275).bind fun v276 =>
                cond ((decide (p_r.Number < v276)))
                 (some (.inl (!s1284)))
                 (some (.inl false)))
                (fun (s1321 : Bool) =>
                 cond (s1321)
                  ((appO 8 s1283 [p_r.Number]).bind fun v282 =>
                  some (.inl (v282, true)))
                  (some (.inl (s1283, s1284)))) some)
               (fun ((s1316, s1317) : (List Int) × Bool) =>
                (ixO s1285 s.Done.length).bind fun v293 =>
                (getO s.Done v293).bind fun v294 =>
                (appO 8 s1316 [v294]).bind fun v295 =>
                (some (IntKind.i64.wrap (s1285 + 1))).bind fun v296 =>
                some (.inl (v295, s1317, v296))) some)
              (some (.inr (.inl (s1283, s1284)))))
             BIG ([], false, 0))
            (fun ((s1302, s1303) : (List Int) × Bool) =>
             bindS (S := (List Int)) (A := (((List T_Item) × Int × (List Int) × (List Int) × Int × (List Int) × Bool × ByteArray × ByteArray × (List T_Path) × (List Int) × Bool × ByteArray × Int × Int × (List Int) × Int × Int × Int × (List Int) × Bool) ⊕ (((List T_Item) × Int × (List Int) × (List Int) × Int × (List Int) × Bool × ByteArray × ByteArray × (List T_Path) × (List Int) × Bool × ByteArray × Int × Int × (List Int) × Int × Int × Int × (List Int) × Bool) ⊕ (T_Spool × Int))))
              (cond ((!s1303))
               ((appO 8 s1302 [p_r.Number]).bind fun v360 =>
               some (.inl v360))
               (some (.inl s1302)))
              (fun (s1327 : (List Int)) =>
               cond ((s.Of == p_r.Number))
                (some (.inl ((v1.Items, v1.Packs, v1.Sent, [], (-1), s1327, false, (⟨#[]⟩ : ByteArray), (⟨#[]⟩ : ByteArray), [], [], false, (⟨#[]⟩ : ByteArray), 0, 0, [], 0, p_r.Number, 0, [], s1244))))
                (some (.inl ((v1.Items, v1.Packs, v1.Sent, v1.Part, v1.Of, s1327, false, (⟨#[]⟩ : ByteArray), (⟨#[]⟩ : ByteArray), [], [], false, (⟨#[]⟩ : ByteArray), 0, 0, [], 0, p_r.Number, 0, [], s1244))))) some) some) some)
         (some (.inl ((v1.Items, v1.Packs, v1.Sent, v1.Part, v1.Of, v1.Done, false, (⟨#[]⟩ : ByteArray), (⟨#[]⟩ : ByteArray), [], [], false, (⟨#[]⟩ : ByteArray), 0, 0, [], 0, 0, 0, [], false))))))))))
   (fun ((s1011, s1012, s1013, s1014, s1015, s1016, s1017, s1018, s1019, s1020, s1021, s1022, s1023, s1024, s1025, s1026, s1027, s1028, s1029, s1030, s1031) : (List T_Item) × Int × (List Int) × (List Int) × Int × (List Int) × Bool × ByteArray × ByteArray × (List T_Path) × (List Int) × Bool × ByteArray × Int × Int × (List Int) × Int × Int × Int × (List Int) × Bool) =>
    some (.inl (s1011, s1012, s1013, s1014, s1015, s1016, s1017, s1018, s1019, s1020, s1021, s1022, s1023, s1024, s1025, s1026, s1027, s1028, s1029, s1030, s1031))) some)
  (fun ((s689, s690, s691, s692, s693, s694, s695, s696, s697, s698, s699, s700, s701, s702, s703, s704, s705, s706, s707, s708, s709) : (List T_Item) × Int × (List Int) × (List Int) × Int × (List Int) × Bool × ByteArray × ByteArray × (List T_Path) × (List Int) × Bool × ByteArray × Int × Int × (List Int) × Int × Int × Int × (List Int) × Bool) =>
   bindS (S := Bool) (A := (T_Spool × Int))
    (cond ((!s709))
     (some (.inl true))
     ((wherrykeep_Rec ((T_Rec.mk p_r.Kind ((T_Mail.mk (T_Path.mk s695 s696 s697) s698 s699 s700 s701 s702)) s703 s704 s705 s706 s707 s708)) ((T_Rec.mk p_r.Kind ((T_Mail.mk (T_Path.mk p_r.Mail.From.Null p_r.Mail.From.Local p_r.Mail.From.Domain) p_r.Mail.To p_r.Mail.Body p_r.Mail.Quiet p_r.Mail.Helo p_r.Mail.At)) p_r.Id p_r.Ids p_r.Origin p_r.Number p_r.Offset p_r.Data))).bind fun v1333 =>
     some (.inl (!v1333))))
    (fun (s1334 : Bool) =>
     cond (s1334)
      (some (((T_Spool.mk [] 0 [] [] 0 []), 5)))
      (some (((T_Spool.mk s689 s690 s691 s692 s693 s694), 0)))) some) some

def wherryref18_Fold (l : (List T_Rec)) : Option (T_Spool × Int) :=
 (wherryref18_Nothing ).bind fun v1 =>
 bindS (S := ((List T_Item) × Int × (List Int) × (List Int) × Int × (List Int))) (A := (T_Spool × Int))
  (loopF (S := ((List T_Item) × Int × (List Int) × (List Int) × Int × (List Int) × Int)) (O := ((List T_Item) × Int × (List Int) × (List Int) × Int × (List Int)) ⊕ (T_Spool × Int)) (fun ((s17, s18, s19, s20, s21, s22, s23) : (List T_Item) × Int × (List Int) × (List Int) × Int × (List Int) × Int) =>
   cond ((decide (s23 < (l.length : Int))))
    ((ixO s23 l.length).bind fun v3 =>
    (getO l v3).bind fun v4 =>
    (wherryref18_Add (T_Spool.mk s17 s18 s19 s20 s21 s22) ((T_Rec.mk v4.Kind ((T_Mail.mk (T_Path.mk v4.Mail.From.Null v4.Mail.From.Local v4.Mail.From.Domain) v4.Mail.To v4.Mail.Body v4.Mail.Quiet v4.Mail.Helo v4.Mail.At)) v4.Id v4.Ids v4.Origin v4.Number v4.Offset v4.Data))).bind fun v5 =>
    cond ((v5.2 != 0))
     (some (.inr (.inr (((T_Spool.mk s17 s18 s19 s20 s21 s22), s23)))))
     ((some (IntKind.i64.wrap (s23 + 1))).bind fun v7 =>
     some (.inl (v5.1.Items, v5.1.Packs, v5.1.Sent, v5.1.Part, v5.1.Of, v5.1.Done, v7))))
    (some (.inr (.inl (s17, s18, s19, s20, s21, s22)))))
   BIG (v1.Items, v1.Packs, v1.Sent, v1.Part, v1.Of, v1.Done, 0))
  (fun ((s26, s27, s28, s29, s30, s31) : (List T_Item) × Int × (List Int) × (List Int) × Int × (List Int)) =>
   some (((T_Spool.mk s26 s27 s28 s29 s30 s31), (l.length : Int)))) some

def spool_New : Option T_Spool :=
 some ((T_Spool.mk [] 0 [] [] (-1) []))

def frame_Check (f : T_Frame) : Option Int :=
 bindS (S := Bool) (A := Int)
  (cond ((decide (0 ≤ f.Offset)))
   (some (.inl ((decide (f.Offset ≤ 5000)))))
   (some (.inl false)))
  (fun (s1 : Bool) =>
   bindS (S := Bool) (A := Int)
    (cond ((decide (0 ≤ f.Seq)))
     (some (.inl ((decide (f.Seq ≤ 7)))))
     (some (.inl false)))
    (fun (s5 : Bool) =>
     bindS (S := Bool) (A := Int)
      (bindS (S := Bool) (A := (Bool ⊕ Int))
       (bindS (S := Bool) (A := (Bool ⊕ (Bool ⊕ Int)))
        (cond ((f.Kind == 1))
         (some (.inl (f.Kind == 1)))
         (some (.inl (f.Kind == 2))))
        (fun (s100 : Bool) =>
         cond (s100)
          (bindS (S := Bool) (A := (Bool ⊕ (Bool ⊕ Int)))
           (cond (s1)
            (cond ((f.Seq == 0))
             (some (.inl (((f.Data.length : Int) == 0))))
             (some (.inl false)))
            (some (.inl false)))
           (fun (s106 : Bool) =>
            some (.inl s106)) some)
          (cond ((f.Kind == 3))
           (bindS (S := Bool) (A := (Bool ⊕ (Bool ⊕ Int)))
            (cond (s1)
             (cond (s5)
              (cond ((!(((f.Data.length : Int) == 0))))
               (some (.inl ((decide ((f.Data.length : Int) ≤ 48)))))
               (some (.inl false)))
              (some (.inl false)))
             (some (.inl false)))
            (fun (s111 : Bool) =>
             some (.inl s111)) some)
           (cond ((f.Kind == 4))
            (bindS (S := Bool) (A := (Bool ⊕ (Bool ⊕ Int)))
             (cond ((f.Offset == 0))
              (cond (s5)
               (some (.inl (((f.Data.length : Int) == 0))))
               (some (.inl false)))
              (some (.inl false)))
             (fun (s116 : Bool) =>
              some (.inl s116)) some)
            (cond ((f.Kind == 5))
             (bindS (S := Bool) (A := (Bool ⊕ (Bool ⊕ Int)))
              (cond ((f.Offset == 0))
               (cond ((f.Seq == 0))
                (some (.inl (((f.Data.length : Int) == 0))))
                (some (.inl false)))
               (some (.inl false)))
              (fun (s121 : Bool) =>
               some (.inl s121)) some)
             (some (.inl false)))))) some)
       (fun (s95 : Bool) =>
        some (.inl s95)) some)
      (fun (s65 : Bool) =>
       bindS (S := Bool) (A := Int)
        (cond ((!s65))
         (some (.inl true))
         (cond ((decide (f.Number < 1)))
          (some (.inl true))
          (some (.inl ((decide (65535 < f.Number)))))))
        (fun (s125 : Bool) =>
         cond (s125)
          (some (1))
          (some (0))) some) some) some) some

def slices_Index_int_int (s : (List Int)) (v : Int) : Option Int :=
 bindS (S := (Unit)) (A := Int)
  (loopF (S := (Int)) (O := (Unit) ⊕ Int) (fun (s9 : Int) =>
   cond ((decide (s9 < (s.length : Int))))
    ((ixO s9 s.length).bind fun v2 =>
    (getO s v2).bind fun v3 =>
    cond ((v == v3))
     (some (.inr (.inr (s9))))
     ((some (IntKind.i64.wrap (s9 + 1))).bind fun v5 =>
     some (.inl v5)))
    (some (.inr (.inl ()))))
   BIG 0)
  (fun (() : Unit) =>
   some ((-1))) some

def slices_Contains_int_int (s : (List Int)) (v : Int) : Option Bool :=
 (slices_Index_int_int s v).bind fun v1 =>
 some ((decide (0 ≤ v1)))

def taker_answer_sh (t : T_Take) (f : T_Frame) : Option T_taker_result :=
 some ((T_taker_result.mk t [] [f]))

def taker_Far (s : T_Spool) (number : Int) : Option Int :=
 cond ((s.Of != number))
  (some (0))
  (some ((s.Part.length : Int)))

def taker_hello_sh (off : Int) (f : T_Frame) : Option (T_taker_result × Int) :=
 bindS (S := Bool) (A := (T_taker_result × Int))
  (cond ((f.Offset == 0))
   (some (.inl true))
   (some (.inl ((decide (f.Offset < off))))))
  (fun (s1 : Bool) =>
   cond (s1)
    (some (((T_taker_result.mk (T_Take.mk false 0 0) [] []), 11)))
    ((taker_answer_sh (T_Take.mk true f.Number f.Offset) (T_Frame.mk 2 f.Number off 0 [])).bind fun v6 =>
    some (((T_taker_result.mk (T_Take.mk v6.take.Open v6.take.Number v6.take.Total) v6.recs v6.out), 0)))) some

def taker_ack (number : Int) (piece : Int) : Option T_Frame :=
 (remO piece 8).bind fun v1 =>
 some ((T_Frame.mk 4 number 0 v1 []))

def clone_List_byte (l : (List Int)) : Option (List Int) :=
 (appO 1 ([] : List Int) l).bind fun v1 =>
 some (v1)

def taker_chunk_sh (off : Int) (t : T_Take) (f : T_Frame) : Option (T_taker_result × Int) :=
 bindS (S := Bool) (A := (T_taker_result × Int))
  (cond ((!t.Open))
   (some (.inl true))
   (some (.inl (t.Number != f.Number))))
  (fun (s74 : Bool) =>
   cond (s74)
    (some (((T_taker_result.mk (T_Take.mk false 0 0) [] []), 11)))
    (cond ((off == t.Total))
     (some (((T_taker_result.mk t [] []), 0)))
     ((quoO .i64 off 48).bind fun v7 =>
     cond ((f.Offset != off))
      (bindS (S := Int) (A := (T_taker_result × Int))
       ((remO off 48).bind fun v9 =>
       cond ((v9 != 0))
        ((some (IntKind.i64.wrap (v7 + 1))).bind fun v11 =>
        some (.inl v11))
        (some (.inl v7)))
       (fun (s82 : Int) =>
        (taker_ack f.Number s82).bind fun v17 =>
        (taker_answer_sh t v17).bind fun v44 =>
        some (((T_taker_result.mk (T_Take.mk v44.take.Open v44.take.Number v44.take.Total) v44.recs v44.out), 0))) some)
      ((some (if off > t.Total then off else t.Total)).bind fun v45 =>
      (some (IntKind.i64.wrap (v45 - off))).bind fun v46 =>
      bindS (S := Bool) (A := (T_taker_result × Int))
       ((remO v7 8).bind fun v47 =>
       cond ((f.Seq != v47))
        (some (.inl true))
        ((some (if v46 < 48 then v46 else 48)).bind fun v48 =>
        some (.inl (((f.Data.length : Int) != v48)))))
       (fun (s87 : Bool) =>
        cond (s87)
         (some (((T_taker_result.mk (T_Take.mk false 0 0) [] []), 11)))
         ((some (IntKind.i64.wrap (v7 + 1))).bind fun v54 =>
         (taker_ack f.Number v54).bind fun v55 =>
         (taker_answer_sh t v55).bind fun v92 =>
         (clone_List_byte f.Data).bind fun v93 =>
         some (((T_taker_result.mk (T_Take.mk v92.take.Open v92.take.Number v92.take.Total) ([(T_Rec.mk 5 ((T_Mail.mk ((T_Path.mk false (⟨#[]⟩ : ByteArray) (⟨#[]⟩ : ByteArray))) [] [] false (⟨#[]⟩ : ByteArray) 0)) 0 [] 0 f.Number off v93)]) v92.out), 0)))) some)))) some

def taker_hear_sh (s : T_Spool) (t : T_Take) (f : T_Frame) : Option (T_taker_result × Int) :=
 bindS (S := Bool) (A := (T_taker_result × Int))
  (cond ((f.Kind != 1))
   (some (.inl (f.Kind != 3)))
   (some (.inl false)))
  (fun (s1 : Bool) =>
   cond (s1)
    (some (((T_taker_result.mk (T_Take.mk false 0 0) [] []), 11)))
    ((slices_Contains_int_int s.Done f.Number).bind fun v6 =>
    cond (v6)
     ((taker_answer_sh t (T_Frame.mk 5 f.Number 0 0 [])).bind fun v8 =>
     some (((T_taker_result.mk (T_Take.mk v8.take.Open v8.take.Number v8.take.Total) v8.recs v8.out), 0)))
     (cond ((f.Kind == 1))
      ((taker_Far s f.Number).bind fun v10 =>
      (taker_hello_sh v10 f).bind fun v11 =>
      some (((T_taker_result.mk (T_Take.mk v11.1.take.Open v11.1.take.Number v11.1.take.Total) v11.1.recs v11.1.out), v11.2)))
      ((taker_Far (T_Spool.mk s.Items s.Packs s.Sent s.Part s.Of s.Done) f.Number).bind fun v12 =>
      (taker_chunk_sh v12 t f).bind fun v13 =>
      some (((T_taker_result.mk (T_Take.mk v13.1.take.Open v13.1.take.Number v13.1.take.Total) v13.1.recs v13.1.out), v13.2)))))) some

def taker_Hear_sh (s : T_Spool) (t : T_Take) (f : T_Frame) : Option (T_Take × (List T_Rec) × (List T_Frame) × Int) :=
 (frame_Check f).bind fun v1 =>
 cond ((v1 != 0))
  (some (((T_Take.mk false 0 0), [], [], v1)))
  ((taker_hear_sh s t f).bind fun v3 =>
  cond ((v3.2 != 0))
   (some (((T_Take.mk false 0 0), [], [], v3.2)))
   (some (((T_Take.mk v3.1.take.Open v3.1.take.Number v3.1.take.Total), v3.1.recs, v3.1.out, 0))))

def taker_Whole (s : T_Spool) (t : T_Take) : Option Bool :=
 bindS (S := Bool) (A := Bool)
  (cond (t.Open)
   (cond ((s.Of == t.Number))
    (some (.inl (((s.Part.length : Int) == t.Total))))
    (some (.inl false)))
   (some (.inl false)))
  (fun (s1 : Bool) =>
   some (s1)) some

def wherrylaw22_wakes : Option Bool :=
 (spool_New ).bind fun v1 =>
 (taker_Hear_sh v1 (T_Take.mk false 0 0) (T_Frame.mk 1 3 100 0 [])).bind fun v2 =>
 bindS (S := Bool) (A := Bool)
  (cond ((v2.2.2.2 == 0))
   (cond (((v2.2.1.length : Int) == 0))
    (cond (((v2.2.2.1.length : Int) == 1))
     ((ixO 0 v2.2.2.1.length).bind fun v3 =>
     (getO v2.2.2.1 v3).bind fun v4 =>
     cond ((v4.Kind == 2))
      ((ixO 0 v2.2.2.1.length).bind fun v5 =>
      (getO v2.2.2.1 v5).bind fun v6 =>
      cond ((v6.Offset == 0))
       (cond (v2.1.Open)
        (cond ((v2.1.Total == 100))
         ((spool_New ).bind fun v7 =>
         (taker_Whole v7 v2.1).bind fun v8 =>
         cond ((!v8))
          ((spool_New ).bind fun v9 =>
          (taker_Far v9 3).bind fun v10 =>
          some (.inl (v10 == 0)))
          (some (.inl false)))
         (some (.inl false)))
        (some (.inl false)))
       (some (.inl false)))
      (some (.inl false)))
     (some (.inl false)))
    (some (.inl false)))
   (some (.inl false)))
  (fun (s11 : Bool) =>
   some (s11)) some

def wherrykeep_Take (a : T_Take) (b : T_Take) : Option Bool :=
 bindS (S := Bool) (A := Bool)
  ((some (a.Open == b.Open)).bind fun v1 =>
  cond ((a.Open == b.Open))
   (cond ((a.Number == b.Number))
    (some (.inl (a.Total == b.Total)))
    (some (.inl false)))
   (some (.inl false)))
  (fun (s2 : Bool) =>
   some (s2)) some

def wherrylaw22_TakerAhead (l : (List T_Rec)) (number : Int) (total : Int) (off : Int) (data : (List Int)) : Option Bool :=
 bindS (S := Bool) (A := Bool)
  ((wherrylaw18_Heavy l).bind fun v1 =>
  cond (v1)
   (some (.inl true))
   (cond ((decide (48 < (data.length : Int))))
    (some (.inl true))
    (some (.inl (((data.length : Int) == 0))))))
  (fun (s61 : Bool) =>
   cond (s61)
    (some (true))
    ((some (IntKind.u64.wrap number)).bind fun v7 =>
    (remO v7 65535).bind fun v8 =>
    (some (IntKind.i64.wrap v8)).bind fun v9 =>
    (some (IntKind.i64.wrap (1 + v9))).bind fun v10 =>
    (some (IntKind.u64.wrap total)).bind fun v11 =>
    (remO v11 5000).bind fun v12 =>
    (some (IntKind.i64.wrap v12)).bind fun v13 =>
    (some (IntKind.i64.wrap (1 + v13))).bind fun v14 =>
    (some (IntKind.u64.wrap off)).bind fun v15 =>
    (remO v15 5001).bind fun v16 =>
    (some (IntKind.i64.wrap v16)).bind fun v17 =>
    (wherryref18_Fold l).bind fun v18 =>
    bindS (S := (Unit)) (A := Bool)
     (loopF (S := (Int)) (O := (Unit) ⊕ Bool) (fun (s71 : Int) =>
      cond ((decide (s71 < (v18.1.Done.length : Int))))
       ((ixO s71 v18.1.Done.length).bind fun v20 =>
       (getO v18.1.Done v20).bind fun v21 =>
       cond ((v21 == v10))
        ((wherrylaw22_wakes ).bind fun v23 =>
        some (.inr (.inr (v23))))
        ((some (IntKind.i64.wrap (s71 + 1))).bind fun v24 =>
        some (.inl v24)))
       (some (.inr (.inl ()))))
      BIG 0)
     (fun (() : Unit) =>
      (taker_Far v18.1 v10).bind fun v39 =>
      (taker_Hear_sh v18.1 (T_Take.mk true v10 v14) (T_Frame.mk 3 v10 v17 0 data)).bind fun v82 =>
      bindS (S := Bool) (A := Bool)
       (cond ((v17 == v39))
        (some (.inl (v39 != v14)))
        (some (.inl false)))
       (fun (s83 : Bool) =>
        cond (s83)
         ((wherrylaw22_wakes ).bind fun v88 =>
         some (v88))
         (bindS (S := Bool) (A := Bool)
          (cond ((v82.2.2.2 != 0))
           (some (.inl true))
           (cond (((v82.2.1.length : Int) != 0))
            (some (.inl true))
            ((wherrykeep_Take v82.1 (T_Take.mk true v10 v14)).bind fun v89 =>
            some (.inl (!v89)))))
          (fun (s90 : Bool) =>
           cond (s90)
            (some (false))
            (cond ((v39 == v14))
             (bindS (S := Bool) (A := Bool)
              (cond (((v82.2.2.1.length : Int) == 0))
               ((wherrylaw22_wakes ).bind fun v96 =>
               some (.inl v96))
               (some (.inl false)))
              (fun (s97 : Bool) =>
               some (s97)) some)
             (bindS (S := Bool) (A := Bool)
              (cond (((v82.2.2.1.length : Int) == 1))
               ((ixO 0 v82.2.2.1.length).bind fun v101 =>
               (getO v82.2.2.1 v101).bind fun v102 =>
               cond ((v102.Kind == 4))
                ((ixO 0 v82.2.2.1.length).bind fun v103 =>
                (getO v82.2.2.1 v103).bind fun v104 =>
                (some (IntKind.i64.wrap (v39 + 48))).bind fun v105 =>
                (some (IntKind.i64.wrap (v105 - 1))).bind fun v106 =>
                (quoO .i64 v106 48).bind fun v107 =>
                (remO v107 8).bind fun v108 =>
                cond ((v104.Seq == v108))
                 ((wherrylaw22_wakes ).bind fun v109 =>
                 some (.inl v109))
                 (some (.inl false)))
                (some (.inl false)))
               (some (.inl false)))
              (fun (s110 : Bool) =>
               some (s110)) some))) some)) some) some)) some

end Go.Abs.Sh
