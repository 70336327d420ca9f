/-
 The program told in Lean: plain functions; none where Go would panic or a slice outgrow its room.
-/
import Derived.Test.YtbioodcjmceefaaAN
set_option linter.unusedVariables false
namespace Go.Abs.Sh

structure T_Path where
 Null : Bool
 Local : ByteArray
 Domain : ByteArray
 deriving DecidableEq, Inhabited
def T_Path.enc (x : T_Path) : List Value := [.bool x.Null, .string x.Local, .string x.Domain]
theorem T_Path.len (x : T_Path) : (T_Path.enc x).length = 3 := rfl
def T_Path.wf (x : T_Path) : Prop := True ∧ wfS x.Local ∧ wfS x.Domain
def T_Path.wz (x : T_Path) : Prop := True ∧ wzS x.Local ∧ wzS x.Domain

structure T_Mail where
 From : T_Path
 To : (List T_Path)
 Body : (List Int)
 Quiet : Bool
 Helo : ByteArray
 At : Int
 deriving DecidableEq, Inhabited
def T_Mail.ienc (x : T_Mail) : List IC := [.v (.bool x.From.Null), .v (.string x.From.Local), .v (.string x.From.Domain), .row 3 (List.map IC.v (List.flatten (List.map T_Path.enc x.To))), .row 1 (List.map IC.v (List.map (Value.int .u8) x.Body)), .v (.bool x.Quiet), .v (.string x.Helo), .v (.int .i64 x.At)]
theorem T_Mail.ilen (x : T_Mail) : (T_Mail.ienc x).length = 8 := rfl
def T_Mail.wf (x : T_Mail) : Prop := T_Path.wf x.From ∧ wfL T_Path.wf x.To ∧ wfL (wfI .u8) x.Body ∧ True ∧ wfS x.Helo ∧ wfI .i64 x.At
def T_Mail.wz (x : T_Mail) : Prop := T_Path.wz x.From ∧ (wzL 40 T_Path.wz) x.To ∧ (wzL 1 (wfI .u8)) x.Body ∧ True ∧ wzS x.Helo ∧ (wfI .i64) x.At

structure T_Rec where
 Kind : Int
 Mail : T_Mail
 Id : Int
 Ids : (List Int)
 Origin : Int
 Number : Int
 Offset : Int
 Data : (List Int)
 deriving DecidableEq, Inhabited
def T_Rec.ienc (x : T_Rec) : List IC := [.v (.int .i64 x.Kind), .v (.bool x.Mail.From.Null), .v (.string x.Mail.From.Local), .v (.string x.Mail.From.Domain), .row 3 (List.map IC.v (List.flatten (List.map T_Path.enc x.Mail.To))), .row 1 (List.map IC.v (List.map (Value.int .u8) x.Mail.Body)), .v (.bool x.Mail.Quiet), .v (.string x.Mail.Helo), .v (.int .i64 x.Mail.At), .v (.int .i64 x.Id), .row 1 (List.map IC.v (List.map (Value.int .i64) x.Ids)), .v (.int .i64 x.Origin), .v (.int .i64 x.Number), .v (.int .i64 x.Offset), .row 1 (List.map IC.v (List.map (Value.int .u8) x.Data))]
theorem T_Rec.ilen (x : T_Rec) : (T_Rec.ienc x).length = 15 := rfl
def T_Rec.wf (x : T_Rec) : Prop := wfI .i64 x.Kind ∧ T_Mail.wf x.Mail ∧ wfI .i64 x.Id ∧ wfL (wfI .i64) x.Ids ∧ wfI .i64 x.Origin ∧ wfI .i64 x.Number ∧ wfI .i64 x.Offset ∧ wfL (wfI .u8) x.Data
def T_Rec.wz (x : T_Rec) : Prop := (wfI .i64) x.Kind ∧ T_Mail.wz x.Mail ∧ (wfI .i64) x.Id ∧ (wzL 8 (wfI .i64)) x.Ids ∧ (wfI .i64) x.Origin ∧ (wfI .i64) x.Number ∧ (wfI .i64) x.Offset ∧ (wzL 1 (wfI .u8)) x.Data

structure T_wherrylaw18_Act where
 Kind : Int
 Recs : (List T_Rec)
 N : Int
 Keep : Int
 deriving DecidableEq, Inhabited
def T_wherrylaw18_Act.ienc (x : T_wherrylaw18_Act) : List IC := [.v (.int .i64 x.Kind), .row 15 (List.flatten (List.map T_Rec.ienc x.Recs)), .v (.int .i64 x.N), .v (.int .i64 x.Keep)]
theorem T_wherrylaw18_Act.ilen (x : T_wherrylaw18_Act) : (T_wherrylaw18_Act.ienc x).length = 4 := rfl
def T_wherrylaw18_Act.wf (x : T_wherrylaw18_Act) : Prop := wfI .i64 x.Kind ∧ wfL T_Rec.wf x.Recs ∧ wfI .i64 x.N ∧ wfI .i64 x.Keep
def T_wherrylaw18_Act.wz (x : T_wherrylaw18_Act) : Prop := (wfI .i64) x.Kind ∧ (wzL 208 T_Rec.wz) x.Recs ∧ (wfI .i64) x.N ∧ (wfI .i64) x.Keep

structure T_diary_Diary where
 limit : Int
 recs : (List T_Rec)
 used : Int
 safe : Int
 kept : Int
 life : Int
 off : Bool
 trip : Int
 tripKeep : Int
 deriving DecidableEq, Inhabited
def T_diary_Diary.ienc (x : T_diary_Diary) : List IC := [.v (.int .i64 x.limit), .row 15 (List.flatten (List.map T_Rec.ienc x.recs)), .v (.int .i64 x.used), .v (.int .i64 x.safe), .v (.int .i64 x.kept), .v (.int .i64 x.life), .v (.bool x.off), .v (.int .i64 x.trip), .v (.int .i64 x.tripKeep)]
theorem T_diary_Diary.ilen (x : T_diary_Diary) : (T_diary_Diary.ienc x).length = 9 := rfl
def T_diary_Diary.wf (x : T_diary_Diary) : Prop := wfI .i64 x.limit ∧ wfL T_Rec.wf x.recs ∧ wfI .i64 x.used ∧ wfI .i64 x.safe ∧ wfI .i64 x.kept ∧ wfI .i64 x.life ∧ True ∧ wfI .i64 x.trip ∧ wfI .i64 x.tripKeep
def T_diary_Diary.wz (x : T_diary_Diary) : Prop := (wfI .i64) x.limit ∧ (wzL 208 T_Rec.wz) x.recs ∧ (wfI .i64) x.used ∧ (wfI .i64) x.safe ∧ (wfI .i64) x.kept ∧ (wfI .i64) x.life ∧ True ∧ (wfI .i64) x.trip ∧ (wfI .i64) x.tripKeep

structure T_wherryref18_Diary where
 Limit : Int
 Recs : (List T_Rec)
 Sure : Int
 IsOff : Bool
 Lives : Int
 Left : Int
 Keep : Int
 Kept : Int
 deriving DecidableEq, Inhabited
def T_wherryref18_Diary.ienc (x : T_wherryref18_Diary) : List IC := [.v (.int .i64 x.Limit), .row 15 (List.flatten (List.map T_Rec.ienc x.Recs)), .v (.int .i64 x.Sure), .v (.bool x.IsOff), .v (.int .i64 x.Lives), .v (.int .i64 x.Left), .v (.int .i64 x.Keep), .v (.int .i64 x.Kept)]
theorem T_wherryref18_Diary.ilen (x : T_wherryref18_Diary) : (T_wherryref18_Diary.ienc x).length = 8 := rfl
def T_wherryref18_Diary.wf (x : T_wherryref18_Diary) : Prop := wfI .i64 x.Limit ∧ wfL T_Rec.wf x.Recs ∧ wfI .i64 x.Sure ∧ True ∧ wfI .i64 x.Lives ∧ wfI .i64 x.Left ∧ wfI .i64 x.Keep ∧ wfI .i64 x.Kept
def T_wherryref18_Diary.wz (x : T_wherryref18_Diary) : Prop := (wfI .i64) x.Limit ∧ (wzL 208 T_Rec.wz) x.Recs ∧ (wfI .i64) x.Sure ∧ True ∧ (wfI .i64) x.Lives ∧ (wfI .i64) x.Left ∧ (wfI .i64) x.Keep ∧ (wfI .i64) x.Kept

def diary_New (limit : Int) : Option ((Option T_diary_Diary) × Int) :=
 bindS (S := Bool) (A := ((Option T_diary_Diary) × Int))
  (cond ((decide (limit < 1)))
   (some (.inl true))
   (some (.inl ((decide (131072 < limit))))))
  (fun (s1 : Bool) =>
   cond (s1)
    (some ((none, 1)))
    (some ((some (T_diary_Diary.mk limit [] 0 0 0 0 false 0 0), 0)))) some

def wherryref18_in (n : Int) (lo : Int) (hi : Int) : Option Bool :=
 bindS (S := Bool) (A := Bool)
  (cond ((decide (lo ≤ n)))
   (some (.inl ((decide (n ≤ hi)))))
   (some (.inl false)))
  (fun (s1 : Bool) =>
   some (s1)) some

def wherryref18_New (limit : Int) : Option ((Option T_wherryref18_Diary) × Int) :=
 (wherryref18_in limit 1 131072).bind fun v1 =>
 cond ((!v1))
  (some ((none, 1)))
  (some ((some (T_wherryref18_Diary.mk limit [] 0 false 0 0 0 0), 0)))

def wherrylaw17_Heavy (l : (List T_Mail)) : Option Bool :=
 cond ((decide (20 < (l.length : Int))))
  (some (true))
  (bindS (S := (Int)) (A := Bool)
   (loopF (S := (Int × Int)) (O := (Int) ⊕ Bool) (fun ((s66, s67) : Int × Int) =>
    cond ((decide (s67 < (l.length : Int))))
     ((ixO s67 l.length).bind fun v3 =>
     (getO l v3).bind fun v4 =>
     (some (IntKind.i64.wrap (s66 + (v4.Body.length : Int)))).bind fun v5 =>
     (ixO s67 l.length).bind fun v6 =>
     (getO l v6).bind fun v7 =>
     (some (IntKind.i64.wrap (v5 + (v7.Helo.size : Int)))).bind fun v8 =>
     (ixO s67 l.length).bind fun v9 =>
     (getO l v9).bind fun v10 =>
     (some (IntKind.i64.wrap (v8 + (v10.From.Local.size : Int)))).bind fun v11 =>
     (ixO s67 l.length).bind fun v12 =>
     (getO l v12).bind fun v13 =>
     (some (IntKind.i64.wrap (v11 + (v13.From.Domain.size : Int)))).bind fun v14 =>
     (ixO s67 l.length).bind fun v15 =>
     (getO l v15).bind fun v16 =>
     cond ((decide (40 < (v16.To.length : Int))))
      (some (.inr (.inr (true))))
      (bindS (S := (Int)) (A := ((Int × Int) ⊕ ((Int) ⊕ Bool)))
       (loopF (S := (Int × Int)) (O := (Int) ⊕ ((Int × Int) ⊕ ((Int) ⊕ Bool))) (fun ((s98, s99) : Int × Int) =>
        (ixO s67 l.length).bind fun v18 =>
        (getO l v18).bind fun v19 =>
        cond ((decide (s99 < (v19.To.length : Int))))
         ((ixO s67 l.length).bind fun v21 =>
         (getO l v21).bind fun v22 =>
         (ixO s99 v22.To.length).bind fun v23 =>
         (getO v22.To v23).bind fun v24 =>
         (some (IntKind.i64.wrap (s98 + (v24.Local.size : Int)))).bind fun v25 =>
         (ixO s67 l.length).bind fun v26 =>
         (getO l v26).bind fun v27 =>
         (ixO s99 v27.To.length).bind fun v28 =>
         (getO v27.To v28).bind fun v29 =>
         (some (IntKind.i64.wrap (v25 + (v29.Domain.size : Int)))).bind fun v30 =>
         (some (IntKind.i64.wrap (s99 + 1))).bind fun v31 =>
         some (.inl (v30, v31)))
         (some (.inr (.inl s98))))
        BIG (v14, 0))
       (fun (s101 : Int) =>
        (some (IntKind.i64.wrap (s67 + 1))).bind fun v46 =>
        some (.inl (s101, v46))) some))
     (some (.inr (.inl s66))))
    BIG (0, 0))
   (fun (s85 : Int) =>
    some ((decide (20000 < s85)))) some)

def wherrylaw18_Heavy (l : (List T_Rec)) : Option Bool :=
 cond ((decide (60 < (l.length : Int))))
  (some (true))
  (bindS (S := (Unit)) (A := Bool)
   (loopF (S := (Int)) (O := (Unit) ⊕ Bool) (fun (s23 : Int) =>
    cond ((decide (s23 < (l.length : Int))))
     (bindS (S := Bool) (A := ((Int) ⊕ ((Unit) ⊕ Bool)))
      ((ixO s23 l.length).bind fun v3 =>
      (getO l v3).bind fun v4 =>
      cond ((decide (600 < (v4.Data.length : Int))))
       (some (.inl true))
       ((ixO s23 l.length).bind fun v5 =>
       (getO l v5).bind fun v6 =>
       cond ((decide (60 < (v6.Ids.length : Int))))
        (some (.inl true))
        ((ixO s23 l.length).bind fun v7 =>
        (getO l v7).bind fun v8 =>
        (wherrylaw17_Heavy [(T_Mail.mk (T_Path.mk v8.Mail.From.Null v8.Mail.From.Local v8.Mail.From.Domain) v8.Mail.To v8.Mail.Body v8.Mail.Quiet v8.Mail.Helo v8.Mail.At)]).bind fun v9 =>
        some (.inl v9))))
      (fun (s37 : Bool) =>
       cond (s37)
        (some (.inr (.inr (true))))
        ((some (IntKind.i64.wrap (s23 + 1))).bind fun v15 =>
        some (.inl v15))) some)
     (some (.inr (.inl ()))))
    BIG 0)
   (fun (() : Unit) =>
    some (false)) some)

def wherrykeep_TwinPaths (l : (List T_Path)) : Option (List T_Path) :=
 (appO 40 ([] : List T_Path) l).bind fun v1 =>
 some (v1)

def wherrykeep_Twin (l : (List Int)) : Option (List Int) :=
 (appO 1 ([] : List Int) l).bind fun v1 =>
 some (v1)

def wherrykeep_TwinMail (m : T_Mail) : Option T_Mail :=
 (wherrykeep_TwinPaths m.To).bind fun v1 =>
 (wherrykeep_Twin m.Body).bind fun v2 =>
 some ((T_Mail.mk (T_Path.mk m.From.Null m.From.Local m.From.Domain) v1 v2 m.Quiet m.Helo m.At))

def wherrykeep_TwinInts (l : (List Int)) : Option (List Int) :=
 (appO 8 ([] : List Int) l).bind fun v1 =>
 some (v1)

def wherrykeep_TwinRec (p_r : T_Rec) : Option T_Rec :=
 (wherrykeep_TwinMail ((T_Mail.mk (T_Path.mk p_r.Mail.From.Null p_r.Mail.From.Local p_r.Mail.From.Domain) p_r.Mail.To p_r.Mail.Body p_r.Mail.Quiet p_r.Mail.Helo p_r.Mail.At))).bind fun v1 =>
 (wherrykeep_TwinInts p_r.Ids).bind fun v2 =>
 (wherrykeep_Twin p_r.Data).bind fun v3 =>
 some ((T_Rec.mk p_r.Kind ((T_Mail.mk (T_Path.mk v1.From.Null v1.From.Local v1.From.Domain) v1.To v1.Body v1.Quiet v1.Helo v1.At)) p_r.Id v2 p_r.Origin p_r.Number p_r.Offset v3))

def wherrykeep_TwinRecs_oo (l : (List T_Rec)) : Option (List T_Rec) :=
 bindS (S := ((List T_Rec))) (A := (List T_Rec))
  (loopF (S := ((List T_Rec) × Int)) (O := ((List T_Rec)) ⊕ (List T_Rec)) (fun ((s10, s11) : (List T_Rec) × Int) =>
   cond ((decide (s11 < (l.length : Int))))
    ((ixO s11 l.length).bind fun v2 =>
    (getO l v2).bind fun v3 =>
    (wherrykeep_TwinRec ((T_Rec.mk v3.Kind ((T_Mail.mk (T_Path.mk v3.Mail.From.Null v3.Mail.From.Local v3.Mail.From.Domain) v3.Mail.To v3.Mail.Body v3.Mail.Quiet v3.Mail.Helo v3.Mail.At)) v3.Id v3.Ids v3.Origin v3.Number v3.Offset v3.Data))).bind fun v4 =>
    (appO 208 s10 [(T_Rec.mk v4.Kind ((T_Mail.mk (T_Path.mk v4.Mail.From.Null v4.Mail.From.Local v4.Mail.From.Domain) v4.Mail.To v4.Mail.Body v4.Mail.Quiet v4.Mail.Helo v4.Mail.At)) v4.Id v4.Ids v4.Origin v4.Number v4.Offset v4.Data)]).bind fun v5 =>
    (some (IntKind.i64.wrap (s11 + 1))).bind fun v6 =>
    some (.inl (v5, v6)))
    (some (.inr (.inl s10))))
   BIG ([], 0))
  (fun (s13 : (List T_Rec)) =>
   some (s13)) some

def diary_Room (p_r : T_Rec) : Option Int :=
 (some (IntKind.i64.wrap ((p_r.Data.length : Int) + (p_r.Mail.Body.length : Int)))).bind fun v1 =>
 (some (IntKind.i64.wrap (v1 + (p_r.Mail.Helo.size : Int)))).bind fun v2 =>
 (some (IntKind.i64.wrap (1 + (p_r.Mail.To.length : Int)))).bind fun v3 =>
 (some (IntKind.i64.wrap (24 + v2))).bind fun v4 =>
 (some (IntKind.i64.wrap (80 * v3))).bind fun v5 =>
 (some (IntKind.i64.wrap (v4 + v5))).bind fun v6 =>
 (some (IntKind.i64.wrap (8 * (p_r.Ids.length : Int)))).bind fun v7 =>
 (some (IntKind.i64.wrap (v6 + v7))).bind fun v8 =>
 some (v8)

def clone_List_api_Path (l : (List T_Path)) : Option (List T_Path) :=
 (appO 40 ([] : List T_Path) l).bind fun v1 =>
 some (v1)

def clone_List_byte (l : (List Int)) : Option (List Int) :=
 (appO 1 ([] : List Int) l).bind fun v1 =>
 some (v1)

def clone_Mail (m : T_Mail) : Option T_Mail :=
 (clone_List_api_Path m.To).bind fun v1 =>
 (clone_List_byte m.Body).bind fun v2 =>
 some ((T_Mail.mk (T_Path.mk m.From.Null m.From.Local m.From.Domain) v1 v2 m.Quiet m.Helo m.At))

def clone_List_int (l : (List Int)) : Option (List Int) :=
 (appO 8 ([] : List Int) l).bind fun v1 =>
 some (v1)

def clone_Rec (p_r : T_Rec) : Option T_Rec :=
 (clone_Mail ((T_Mail.mk (T_Path.mk p_r.Mail.From.Null p_r.Mail.From.Local p_r.Mail.From.Domain) p_r.Mail.To p_r.Mail.Body p_r.Mail.Quiet p_r.Mail.Helo p_r.Mail.At))).bind fun v1 =>
 (clone_List_int p_r.Ids).bind fun v2 =>
 (clone_List_byte p_r.Data).bind fun v3 =>
 some ((T_Rec.mk p_r.Kind ((T_Mail.mk (T_Path.mk v1.From.Null v1.From.Local v1.From.Domain) v1.To v1.Body v1.Quiet v1.Helo v1.At)) p_r.Id v2 p_r.Origin p_r.Number p_r.Offset v3))

def clone_List_api_Rec_ro (l : (List T_Rec)) : Option (List T_Rec) :=
 (appO 208 ([] : List T_Rec) l).bind fun v1 =>
 some (v1)

def diary_size (l : (List T_Rec)) : Option Int :=
 bindS (S := (Int)) (A := Int)
  (loopF (S := (Int × Int)) (O := (Int) ⊕ Int) (fun ((s10, s11) : Int × Int) =>
   cond ((decide (s11 < (l.length : Int))))
    ((ixO s11 l.length).bind fun v2 =>
    (getO l v2).bind fun v3 =>
    (diary_Room ((T_Rec.mk v3.Kind ((T_Mail.mk (T_Path.mk v3.Mail.From.Null v3.Mail.From.Local v3.Mail.From.Domain) v3.Mail.To v3.Mail.Body v3.Mail.Quiet v3.Mail.Helo v3.Mail.At)) v3.Id v3.Ids v3.Origin v3.Number v3.Offset v3.Data))).bind fun v4 =>
    (some (IntKind.i64.wrap (s10 + v4))).bind fun v5 =>
    (some (IntKind.i64.wrap (s11 + 1))).bind fun v6 =>
    some (.inl (v5, v6)))
    (some (.inr (.inl s10))))
   BIG (0, 0))
  (fun (s13 : Int) =>
   some (s13)) some

def diary_Diary_Crash (d : T_diary_Diary) (keep : Int) : Option T_diary_Diary :=
 cond (d.off)
  (some (d))
  ((some (if 0 > keep then 0 else keep)).bind fun v2 =>
  (some (IntKind.i64.wrap ((d.recs.length : Int) - d.safe))).bind fun v3 =>
  (some (if v3 < v2 then v3 else v2)).bind fun v4 =>
  (some (IntKind.i64.wrap (d.safe + v4))).bind fun v5 =>
  (sliO d.recs 0 v5).bind fun v6 =>
  (clone_List_api_Rec_ro v6).bind fun v7 =>
  (diary_size v7).bind fun v8 =>
  (some (IntKind.i64.wrap (d.kept + v4))).bind fun v9 =>
  (some (IntKind.i64.wrap (d.life + 1))).bind fun v10 =>
  some ((T_diary_Diary.mk d.limit v7 v8 (v7.length : Int) v9 v10 true 0 d.tripKeep)))

def diary_Diary_step (d : T_diary_Diary) : Option (Int × T_diary_Diary) :=
 cond ((d.trip == 0))
  (some ((0, d)))
  ((some (IntKind.i64.wrap (d.trip - 1))).bind fun v2 =>
  cond ((decide (0 < v2)))
   (some ((0, (T_diary_Diary.mk d.limit d.recs d.used d.safe d.kept d.life d.off v2 d.tripKeep))))
   ((diary_Diary_Crash (T_diary_Diary.mk d.limit d.recs d.used d.safe d.kept d.life d.off v2 d.tripKeep) d.tripKeep).bind fun v4 =>
   some ((7, v4))))

def diary_Diary_Put (d : T_diary_Diary) (p_r : T_Rec) : Option (Int × T_diary_Diary) :=
 cond (d.off)
  (some ((7, d)))
  ((diary_Room ((T_Rec.mk p_r.Kind ((T_Mail.mk (T_Path.mk p_r.Mail.From.Null p_r.Mail.From.Local p_r.Mail.From.Domain) p_r.Mail.To p_r.Mail.Body p_r.Mail.Quiet p_r.Mail.Helo p_r.Mail.At)) p_r.Id p_r.Ids p_r.Origin p_r.Number p_r.Offset p_r.Data))).bind fun v2 =>
  (some (IntKind.i64.wrap (d.used + v2))).bind fun v3 =>
  cond ((decide (d.limit < v3)))
   (some ((8, d)))
   ((clone_Rec ((T_Rec.mk p_r.Kind ((T_Mail.mk (T_Path.mk p_r.Mail.From.Null p_r.Mail.From.Local p_r.Mail.From.Domain) p_r.Mail.To p_r.Mail.Body p_r.Mail.Quiet p_r.Mail.Helo p_r.Mail.At)) p_r.Id p_r.Ids p_r.Origin p_r.Number p_r.Offset p_r.Data))).bind fun v5 =>
   (appO 208 d.recs [(T_Rec.mk v5.Kind ((T_Mail.mk (T_Path.mk v5.Mail.From.Null v5.Mail.From.Local v5.Mail.From.Domain) v5.Mail.To v5.Mail.Body v5.Mail.Quiet v5.Mail.Helo v5.Mail.At)) v5.Id v5.Ids v5.Origin v5.Number v5.Offset v5.Data)]).bind fun v6 =>
   (diary_Room ((T_Rec.mk p_r.Kind ((T_Mail.mk (T_Path.mk p_r.Mail.From.Null p_r.Mail.From.Local p_r.Mail.From.Domain) p_r.Mail.To p_r.Mail.Body p_r.Mail.Quiet p_r.Mail.Helo p_r.Mail.At)) p_r.Id p_r.Ids p_r.Origin p_r.Number p_r.Offset p_r.Data))).bind fun v7 =>
   (some (IntKind.i64.wrap (d.used + v7))).bind fun v8 =>
   (diary_Diary_step (T_diary_Diary.mk d.limit v6 v8 d.safe d.kept d.life d.off d.trip d.tripKeep)).bind fun v9 =>
   some ((v9.1, v9.2))))

def wherryref18_Room (p_r : T_Rec) : Option Int :=
 (some (IntKind.i64.wrap (24 + (p_r.Data.length : Int)))).bind fun v1 =>
 (some (IntKind.i64.wrap (v1 + (p_r.Mail.Body.length : Int)))).bind fun v2 =>
 (some (IntKind.i64.wrap (v2 + (p_r.Mail.Helo.size : Int)))).bind fun v3 =>
 (some (IntKind.i64.wrap (1 + (p_r.Mail.To.length : Int)))).bind fun v4 =>
 (some (IntKind.i64.wrap (80 * v4))).bind fun v5 =>
 (some (IntKind.i64.wrap (v3 + v5))).bind fun v6 =>
 (some (IntKind.i64.wrap (8 * (p_r.Ids.length : Int)))).bind fun v7 =>
 (some (IntKind.i64.wrap (v6 + v7))).bind fun v8 =>
 some (v8)

def wherryref18_rooms (l : (List T_Rec)) : Option Int :=
 bindS (S := (Int)) (A := Int)
  (loopF (S := (Int × Int)) (O := (Int) ⊕ Int) (fun ((s10, s11) : Int × Int) =>
   cond ((decide (s11 < (l.length : Int))))
    ((ixO s11 l.length).bind fun v2 =>
    (getO l v2).bind fun v3 =>
    (wherryref18_Room ((T_Rec.mk v3.Kind ((T_Mail.mk (T_Path.mk v3.Mail.From.Null v3.Mail.From.Local v3.Mail.From.Domain) v3.Mail.To v3.Mail.Body v3.Mail.Quiet v3.Mail.Helo v3.Mail.At)) v3.Id v3.Ids v3.Origin v3.Number v3.Offset v3.Data))).bind fun v4 =>
    (some (IntKind.i64.wrap (s10 + v4))).bind fun v5 =>
    (some (IntKind.i64.wrap (s11 + 1))).bind fun v6 =>
    some (.inl (v5, v6)))
    (some (.inr (.inl s10))))
   BIG (0, 0))
  (fun (s13 : Int) =>
   some (s13)) some

def wherryref18_Diary_Used (d : T_wherryref18_Diary) : Option (Int × T_wherryref18_Diary) :=
 (wherryref18_rooms d.Recs).bind fun v1 =>
 some ((v1, d))

def wherryref18_Diary_Used_pinr (d : T_wherryref18_Diary) : Option Int :=
 (wherryref18_rooms d.Recs).bind fun v1 =>
 some (v1)

def wherryref18_Diary_strikes (d : T_wherryref18_Diary) : Option (Bool × T_wherryref18_Diary) :=
 cond ((decide (0 < d.Left)))
  ((some (IntKind.i64.wrap (d.Left - 1))).bind fun v2 =>
  some (((v2 == 0), (T_wherryref18_Diary.mk d.Limit d.Recs d.Sure d.IsOff d.Lives v2 d.Keep d.Kept))))
  (some ((false, d)))

def wherryref18_Diary_Crash (d : T_wherryref18_Diary) (keep : Int) : Option T_wherryref18_Diary :=
 cond (d.IsOff)
  (some (d))
  ((some (if 0 > keep then 0 else keep)).bind fun v2 =>
  (some (IntKind.i64.wrap ((d.Recs.length : Int) - d.Sure))).bind fun v3 =>
  (some (if v3 < v2 then v3 else v2)).bind fun v4 =>
  (some (IntKind.i64.wrap (d.Sure + v4))).bind fun v5 =>
  (sliO d.Recs 0 v5).bind fun v6 =>
  (some (IntKind.i64.wrap (d.Kept + v4))).bind fun v7 =>
  (some (IntKind.i64.wrap (d.Lives + 1))).bind fun v8 =>
  some ((T_wherryref18_Diary.mk d.Limit v6 (v6.length : Int) true v8 0 0 v7)))

def wherryref18_Diary_Put (d : T_wherryref18_Diary) (p_r : T_Rec) : Option (Int × T_wherryref18_Diary) :=
 cond (d.IsOff)
  (some ((7, d)))
  ((wherryref18_Diary_Used_pinr d).bind fun v2 =>
  (wherryref18_Room ((T_Rec.mk p_r.Kind ((T_Mail.mk (T_Path.mk p_r.Mail.From.Null p_r.Mail.From.Local p_r.Mail.From.Domain) p_r.Mail.To p_r.Mail.Body p_r.Mail.Quiet p_r.Mail.Helo p_r.Mail.At)) p_r.Id p_r.Ids p_r.Origin p_r.Number p_r.Offset p_r.Data))).bind fun v3 =>
  (some (IntKind.i64.wrap (v2 + v3))).bind fun v4 =>
  cond ((decide (d.Limit < v4)))
   (some ((8, d)))
   ((wherrykeep_TwinRec ((T_Rec.mk p_r.Kind ((T_Mail.mk (T_Path.mk p_r.Mail.From.Null p_r.Mail.From.Local p_r.Mail.From.Domain) p_r.Mail.To p_r.Mail.Body p_r.Mail.Quiet p_r.Mail.Helo p_r.Mail.At)) p_r.Id p_r.Ids p_r.Origin p_r.Number p_r.Offset p_r.Data))).bind fun v6 =>
   (appO 208 d.Recs [(T_Rec.mk v6.Kind ((T_Mail.mk (T_Path.mk v6.Mail.From.Null v6.Mail.From.Local v6.Mail.From.Domain) v6.Mail.To v6.Mail.Body v6.Mail.Quiet v6.Mail.Helo v6.Mail.At)) v6.Id v6.Ids v6.Origin v6.Number v6.Offset v6.Data)]).bind fun v7 =>
   (wherryref18_Diary_strikes (T_wherryref18_Diary.mk d.Limit v7 d.Sure d.IsOff d.Lives d.Left d.Keep d.Kept)).bind fun v8 =>
   cond (v8.1)
    ((wherryref18_Diary_Crash v8.2 v8.2.Keep).bind fun v10 =>
    some ((7, v10)))
    (some ((0, v8.2)))))

def diary_Diary_settle (d : T_diary_Diary) : Option T_diary_Diary :=
 some ((T_diary_Diary.mk d.limit d.recs d.used (d.recs.length : Int) 0 d.life d.off d.trip d.tripKeep))

def diary_Diary_Sync (d : T_diary_Diary) : Option (Int × T_diary_Diary) :=
 cond (d.off)
  (some ((7, d)))
  ((diary_Diary_step d).bind fun v2 =>
  cond ((v2.1 != 0))
   (some ((v2.1, v2.2)))
   ((diary_Diary_settle v2.2).bind fun v4 =>
   some ((0, v4))))

def wherryref18_Diary_Sync (d : T_wherryref18_Diary) : Option (Int × T_wherryref18_Diary) :=
 cond (d.IsOff)
  (some ((7, d)))
  ((wherryref18_Diary_strikes d).bind fun v2 =>
  cond (v2.1)
   ((wherryref18_Diary_Crash v2.2 v2.2.Keep).bind fun v4 =>
   some ((7, v4)))
   (some ((0, (T_wherryref18_Diary.mk v2.2.Limit v2.2.Recs (v2.2.Recs.length : Int) v2.2.IsOff v2.2.Lives v2.2.Left v2.2.Keep 0)))))

def clone_Each_api_Rec_of_clone_Rec (l : (List T_Rec)) : Option (List T_Rec) :=
 bindS (S := ((List T_Rec))) (A := (List T_Rec))
  (loopF (S := ((List T_Rec) × Int)) (O := ((List T_Rec)) ⊕ (List T_Rec)) (fun ((s10, s11) : (List T_Rec) × Int) =>
   cond ((decide (s11 < (l.length : Int))))
    ((ixO s11 l.length).bind fun v2 =>
    (getO l v2).bind fun v3 =>
    (clone_Rec ((T_Rec.mk v3.Kind ((T_Mail.mk (T_Path.mk v3.Mail.From.Null v3.Mail.From.Local v3.Mail.From.Domain) v3.Mail.To v3.Mail.Body v3.Mail.Quiet v3.Mail.Helo v3.Mail.At)) v3.Id v3.Ids v3.Origin v3.Number v3.Offset v3.Data))).bind fun v4 =>
    (appO 208 s10 [(T_Rec.mk v4.Kind ((T_Mail.mk (T_Path.mk v4.Mail.From.Null v4.Mail.From.Local v4.Mail.From.Domain) v4.Mail.To v4.Mail.Body v4.Mail.Quiet v4.Mail.Helo v4.Mail.At)) v4.Id v4.Ids v4.Origin v4.Number v4.Offset v4.Data)]).bind fun v5 =>
    (some (IntKind.i64.wrap (s11 + 1))).bind fun v6 =>
    some (.inl (v5, v6)))
    (some (.inr (.inl s10))))
   BIG ([], 0))
  (fun (s13 : (List T_Rec)) =>
   some (s13)) some

def diary_Diary_Renew (d : T_diary_Diary) (l : (List T_Rec)) : Option (Int × T_diary_Diary) :=
 cond (d.off)
  (some ((7, d)))
  ((diary_size l).bind fun v2 =>
  cond ((decide (d.limit < v2)))
   (some ((8, d)))
   ((diary_Diary_step d).bind fun v4 =>
   cond ((v4.1 != 0))
    (some ((v4.1, v4.2)))
    ((clone_Each_api_Rec_of_clone_Rec l).bind fun v6 =>
    (diary_Diary_settle (T_diary_Diary.mk v4.2.limit v6 v2 v4.2.safe v4.2.kept v4.2.life v4.2.off v4.2.trip v4.2.tripKeep)).bind fun v7 =>
    some ((0, v7)))))

def wherrykeep_TwinRecs (l : (List T_Rec)) : Option (List T_Rec) :=
 bindS (S := ((List T_Rec))) (A := (List T_Rec))
  (loopF (S := ((List T_Rec) × Int)) (O := ((List T_Rec)) ⊕ (List T_Rec)) (fun ((s10, s11) : (List T_Rec) × Int) =>
   cond ((decide (s11 < (l.length : Int))))
    ((ixO s11 l.length).bind fun v2 =>
    (getO l v2).bind fun v3 =>
    (wherrykeep_TwinRec ((T_Rec.mk v3.Kind ((T_Mail.mk (T_Path.mk v3.Mail.From.Null v3.Mail.From.Local v3.Mail.From.Domain) v3.Mail.To v3.Mail.Body v3.Mail.Quiet v3.Mail.Helo v3.Mail.At)) v3.Id v3.Ids v3.Origin v3.Number v3.Offset v3.Data))).bind fun v4 =>
    (appO 208 s10 [(T_Rec.mk v4.Kind ((T_Mail.mk (T_Path.mk v4.Mail.From.Null v4.Mail.From.Local v4.Mail.From.Domain) v4.Mail.To v4.Mail.Body v4.Mail.Quiet v4.Mail.Helo v4.Mail.At)) v4.Id v4.Ids v4.Origin v4.Number v4.Offset v4.Data)]).bind fun v5 =>
    (some (IntKind.i64.wrap (s11 + 1))).bind fun v6 =>
    some (.inl (v5, v6)))
    (some (.inr (.inl s10))))
   BIG ([], 0))
  (fun (s13 : (List T_Rec)) =>
   some (s13)) some

def wherryref18_Diary_Renew (d : T_wherryref18_Diary) (l : (List T_Rec)) : Option (Int × T_wherryref18_Diary) :=
 cond (d.IsOff)
  (some ((7, d)))
  ((wherryref18_rooms l).bind fun v2 =>
  cond ((decide (d.Limit < v2)))
   (some ((8, d)))
   ((wherryref18_Diary_strikes d).bind fun v4 =>
   cond (v4.1)
    ((wherryref18_Diary_Crash v4.2 v4.2.Keep).bind fun v6 =>
    some ((7, v6)))
    ((wherrykeep_TwinRecs l).bind fun v7 =>
    some ((0, (T_wherryref18_Diary.mk v4.2.Limit v7 (v7.length : Int) v4.2.IsOff v4.2.Lives v4.2.Left v4.2.Keep 0))))))

def diary_Diary_Trip (d : T_diary_Diary) (n : Int) (keep : Int) : Option T_diary_Diary :=
 (some (if 0 > n then 0 else n)).bind fun v1 =>
 some ((T_diary_Diary.mk d.limit d.recs d.used d.safe d.kept d.life d.off v1 keep))

def wherryref18_Diary_Trip (d : T_wherryref18_Diary) (n : Int) (keep : Int) : Option T_wherryref18_Diary :=
 (some (if 0 > n then 0 else n)).bind fun v1 =>
 some ((T_wherryref18_Diary.mk d.Limit d.Recs d.Sure d.IsOff d.Lives v1 keep d.Kept))

def diary_Diary_Start (d : T_diary_Diary) : Option T_diary_Diary :=
 some ((T_diary_Diary.mk d.limit d.recs d.used d.safe d.kept d.life false d.trip d.tripKeep))

def wherryref18_Diary_Start (d : T_wherryref18_Diary) : Option T_wherryref18_Diary :=
 some ((T_wherryref18_Diary.mk d.Limit d.Recs d.Sure false d.Lives d.Left d.Keep d.Kept))

def wherrykeep_Path (a : T_Path) (b : T_Path) : Option Bool :=
 bindS (S := Bool) (A := Bool)
  ((some (a.Null == b.Null)).bind fun v1 =>
  cond ((a.Null == b.Null))
   (cond ((a.Local.toList == b.Local.toList))
    (some (.inl (a.Domain.toList == b.Domain.toList)))
    (some (.inl false)))
   (some (.inl false)))
  (fun (s2 : Bool) =>
   some (s2)) some

def wherrykeep_Paths (a : (List T_Path)) (b : (List T_Path)) : Option Bool :=
 cond (((a.length : Int) != (b.length : Int)))
  (some (false))
  (bindS (S := (Unit)) (A := Bool)
   (loopF (S := (Int)) (O := (Unit) ⊕ Bool) (fun (s13 : Int) =>
    cond ((decide (s13 < (a.length : Int))))
     ((ixO s13 a.length).bind fun v3 =>
     (getO a v3).bind fun v4 =>
     (ixO s13 b.length).bind fun v5 =>
     (getO b v5).bind fun v6 =>
     (wherrykeep_Path v4 v6).bind fun v7 =>
     cond ((!v7))
      (some (.inr (.inr (false))))
      ((some (IntKind.i64.wrap (s13 + 1))).bind fun v9 =>
      some (.inl v9)))
     (some (.inr (.inl ()))))
    BIG 0)
   (fun (() : Unit) =>
    some (true)) some)

def wherrykeep_Bytes (a : (List Int)) (b : (List Int)) : Option Bool :=
 cond (((a.length : Int) != (b.length : Int)))
  (some (false))
  (bindS (S := (Unit)) (A := Bool)
   (loopF (S := (Int)) (O := (Unit) ⊕ Bool) (fun (s12 : Int) =>
    cond ((decide (s12 < (a.length : Int))))
     ((ixO s12 a.length).bind fun v3 =>
     (getO a v3).bind fun v4 =>
     (ixO s12 b.length).bind fun v5 =>
     (getO b v5).bind fun v6 =>
     cond ((v4 != v6))
      (some (.inr (.inr (false))))
      ((some (IntKind.i64.wrap (s12 + 1))).bind fun v8 =>
      some (.inl v8)))
     (some (.inr (.inl ()))))
    BIG 0)
   (fun (() : Unit) =>
    some (true)) some)

def wherrykeep_Mail (a : T_Mail) (b : T_Mail) : Option Bool :=
 bindS (S := Bool) (A := Bool)
  ((wherrykeep_Path (T_Path.mk a.From.Null a.From.Local a.From.Domain) (T_Path.mk b.From.Null b.From.Local b.From.Domain)).bind fun v1 =>
  cond (v1)
   ((wherrykeep_Paths a.To b.To).bind fun v2 =>
   cond (v2)
    ((wherrykeep_Bytes a.Body b.Body).bind fun v3 =>
    cond (v3)
     ((some (a.Quiet == b.Quiet)).bind fun v4 =>
     cond ((a.Quiet == b.Quiet))
      (cond ((a.Helo.toList == b.Helo.toList))
       (some (.inl (a.At == b.At)))
       (some (.inl false)))
      (some (.inl false)))
     (some (.inl false)))
    (some (.inl false)))
   (some (.inl false)))
  (fun (s5 : Bool) =>
   some (s5)) some

def wherrykeep_Ints (a : (List Int)) (b : (List Int)) : Option Bool :=
 cond (((a.length : Int) != (b.length : Int)))
  (some (false))
  (bindS (S := (Unit)) (A := Bool)
   (loopF (S := (Int)) (O := (Unit) ⊕ Bool) (fun (s12 : Int) =>
    cond ((decide (s12 < (a.length : Int))))
     ((ixO s12 a.length).bind fun v3 =>
     (getO a v3).bind fun v4 =>
     (ixO s12 b.length).bind fun v5 =>
     (getO b v5).bind fun v6 =>
     cond ((v4 != v6))
      (some (.inr (.inr (false))))
      ((some (IntKind.i64.wrap (s12 + 1))).bind fun v8 =>
      some (.inl v8)))
     (some (.inr (.inl ()))))
    BIG 0)
   (fun (() : Unit) =>
    some (true)) some)

def wherrykeep_Rec (a : T_Rec) (b : T_Rec) : Option Bool :=
 bindS (S := Bool) (A := Bool)
  (cond ((a.Kind == b.Kind))
   ((wherrykeep_Mail ((T_Mail.mk (T_Path.mk a.Mail.From.Null a.Mail.From.Local a.Mail.From.Domain) a.Mail.To a.Mail.Body a.Mail.Quiet a.Mail.Helo a.Mail.At)) ((T_Mail.mk (T_Path.mk b.Mail.From.Null b.Mail.From.Local b.Mail.From.Domain) b.Mail.To b.Mail.Body b.Mail.Quiet b.Mail.Helo b.Mail.At))).bind fun v1 =>
   cond (v1)
    (cond ((a.Id == b.Id))
     ((wherrykeep_Ints a.Ids b.Ids).bind fun v2 =>
     cond (v2)
      (cond ((a.Origin == b.Origin))
       (cond ((a.Number == b.Number))
        (cond ((a.Offset == b.Offset))
         ((wherrykeep_Bytes a.Data b.Data).bind fun v3 =>
         some (.inl v3))
         (some (.inl false)))
        (some (.inl false)))
       (some (.inl false)))
      (some (.inl false)))
     (some (.inl false)))
    (some (.inl false)))
   (some (.inl false)))
  (fun (s4 : Bool) =>
   some (s4)) some

def wherrykeep_Recs (a : (List T_Rec)) (b : (List T_Rec)) : Option Bool :=
 cond (((a.length : Int) != (b.length : Int)))
  (some (false))
  (bindS (S := (Unit)) (A := Bool)
   (loopF (S := (Int)) (O := (Unit) ⊕ Bool) (fun (s13 : Int) =>
    cond ((decide (s13 < (a.length : Int))))
     ((ixO s13 a.length).bind fun v3 =>
     (getO a v3).bind fun v4 =>
     (ixO s13 b.length).bind fun v5 =>
     (getO b v5).bind fun v6 =>
     (wherrykeep_Rec ((T_Rec.mk v4.Kind ((T_Mail.mk (T_Path.mk v4.Mail.From.Null v4.Mail.From.Local v4.Mail.From.Domain) v4.Mail.To v4.Mail.Body v4.Mail.Quiet v4.Mail.Helo v4.Mail.At)) v4.Id v4.Ids v4.Origin v4.Number v4.Offset v4.Data)) ((T_Rec.mk v6.Kind ((T_Mail.mk (T_Path.mk v6.Mail.From.Null v6.Mail.From.Local v6.Mail.From.Domain) v6.Mail.To v6.Mail.Body v6.Mail.Quiet v6.Mail.Helo v6.Mail.At)) v6.Id v6.Ids v6.Origin v6.Number v6.Offset v6.Data))).bind fun v7 =>
     cond ((!v7))
      (some (.inr (.inr (false))))
      ((some (IntKind.i64.wrap (s13 + 1))).bind fun v9 =>
      some (.inl v9)))
     (some (.inr (.inl ()))))
    BIG 0)
   (fun (() : Unit) =>
    some (true)) some)

def clone_Each_api_Rec_of_clone_Rec_oo (l : (List T_Rec)) : Option (List T_Rec) :=
 bindS (S := ((List T_Rec))) (A := (List T_Rec))
  (loopF (S := ((List T_Rec) × Int)) (O := ((List T_Rec)) ⊕ (List T_Rec)) (fun ((s10, s11) : (List T_Rec) × Int) =>
   cond ((decide (s11 < (l.length : Int))))
    ((ixO s11 l.length).bind fun v2 =>
    (getO l v2).bind fun v3 =>
    (clone_Rec ((T_Rec.mk v3.Kind ((T_Mail.mk (T_Path.mk v3.Mail.From.Null v3.Mail.From.Local v3.Mail.From.Domain) v3.Mail.To v3.Mail.Body v3.Mail.Quiet v3.Mail.Helo v3.Mail.At)) v3.Id v3.Ids v3.Origin v3.Number v3.Offset v3.Data))).bind fun v4 =>
    (appO 208 s10 [(T_Rec.mk v4.Kind ((T_Mail.mk (T_Path.mk v4.Mail.From.Null v4.Mail.From.Local v4.Mail.From.Domain) v4.Mail.To v4.Mail.Body v4.Mail.Quiet v4.Mail.Helo v4.Mail.At)) v4.Id v4.Ids v4.Origin v4.Number v4.Offset v4.Data)]).bind fun v5 =>
    (some (IntKind.i64.wrap (s11 + 1))).bind fun v6 =>
    some (.inl (v5, v6)))
    (some (.inr (.inl s10))))
   BIG ([], 0))
  (fun (s13 : (List T_Rec)) =>
   some (s13)) some

def diary_Diary_Read (d : T_diary_Diary) : Option ((List T_Rec) × Int × T_diary_Diary) :=
 cond (d.off)
  (some (([], 7, d)))
  ((clone_Each_api_Rec_of_clone_Rec_oo d.recs).bind fun v2 =>
  some ((v2, 0, d)))

def wherryref18_Diary_Read (d : T_wherryref18_Diary) : Option ((List T_Rec) × Int × T_wherryref18_Diary) :=
 cond (d.IsOff)
  (some (([], 7, d)))
  ((wherrykeep_TwinRecs d.Recs).bind fun v2 =>
  some ((v2, 0, d)))

def diary_Diary_Off (d : T_diary_Diary) : Option (Bool × T_diary_Diary) :=
 some ((d.off, d))

def diary_Diary_Life (d : T_diary_Diary) : Option (Int × T_diary_Diary) :=
 some ((d.life, d))

def diary_Diary_Len (d : T_diary_Diary) : Option (Int × T_diary_Diary) :=
 some (((d.recs.length : Int), d))

def diary_Diary_Safe (d : T_diary_Diary) : Option (Int × T_diary_Diary) :=
 some ((d.safe, d))

def diary_Diary_Used (d : T_diary_Diary) : Option (Int × T_diary_Diary) :=
 some ((d.used, d))

def diary_Diary_Kept (d : T_diary_Diary) : Option (Int × T_diary_Diary) :=
 some ((d.kept, d))

def wherrylaw18_same (d : T_diary_Diary) (p_r : T_wherryref18_Diary) : Option (Bool × T_diary_Diary × T_wherryref18_Diary) :=
 (diary_Diary_Read d).bind fun v1 =>
 (wherryref18_Diary_Read p_r).bind fun v2 =>
 bindS (S := Int × (List T_Rec) × Int × Int × Int × Int × Bool × Int × Int × Bool) (A := (Bool × T_diary_Diary × T_wherryref18_Diary))
  ((diary_Diary_Off v1.2.2).bind fun v3 =>
  (some (v3.1 == v2.2.2.IsOff)).bind fun v4 =>
  cond ((v3.1 == v2.2.2.IsOff))
   ((diary_Diary_Life v3.2).bind fun v5 =>
   cond ((v5.1 == v2.2.2.Lives))
    ((diary_Diary_Len v5.2).bind fun v6 =>
    cond ((v6.1 == (v2.2.2.Recs.length : Int)))
     ((diary_Diary_Safe v6.2).bind fun v7 =>
     cond ((v7.1 == v2.2.2.Sure))
      ((diary_Diary_Used v7.2).bind fun v8 =>
      (wherryref18_Diary_Used_pinr v2.2.2).bind fun v9 =>
      cond ((v8.1 == v9))
       ((diary_Diary_Kept v8.2).bind fun v10 =>
       cond ((v10.1 == v2.2.2.Kept))
        (cond ((v1.2.1 == v2.2.1))
         ((wherrykeep_Recs v1.1 v2.1).bind fun v11 =>
         some (.inl (v10.2.limit, v10.2.recs, v10.2.used, v10.2.safe, v10.2.kept, v10.2.life, v10.2.off, v10.2.trip, v10.2.tripKeep, v11)))
         (some (.inl (v10.2.limit, v10.2.recs, v10.2.used, v10.2.safe, v10.2.kept, v10.2.life, v10.2.off, v10.2.trip, v10.2.tripKeep, false))))
        (some (.inl (v10.2.limit, v10.2.recs, v10.2.used, v10.2.safe, v10.2.kept, v10.2.life, v10.2.off, v10.2.trip, v10.2.tripKeep, false))))
       (some (.inl (v8.2.limit, v8.2.recs, v8.2.used, v8.2.safe, v8.2.kept, v8.2.life, v8.2.off, v8.2.trip, v8.2.tripKeep, false))))
      (some (.inl (v7.2.limit, v7.2.recs, v7.2.used, v7.2.safe, v7.2.kept, v7.2.life, v7.2.off, v7.2.trip, v7.2.tripKeep, false))))
     (some (.inl (v6.2.limit, v6.2.recs, v6.2.used, v6.2.safe, v6.2.kept, v6.2.life, v6.2.off, v6.2.trip, v6.2.tripKeep, false))))
    (some (.inl (v5.2.limit, v5.2.recs, v5.2.used, v5.2.safe, v5.2.kept, v5.2.life, v5.2.off, v5.2.trip, v5.2.tripKeep, false))))
   (some (.inl (v3.2.limit, v3.2.recs, v3.2.used, v3.2.safe, v3.2.kept, v3.2.life, v3.2.off, v3.2.trip, v3.2.tripKeep, false))))
  (fun ((s12, s13, s14, s15, s16, s17, s18, s19, s20, s21) : Int × (List T_Rec) × Int × Int × Int × Int × Bool × Int × Int × Bool) =>
   some ((s21, (T_diary_Diary.mk s12 s13 s14 s15 s16 s17 s18 s19 s20), v2.2.2))) some

def wherrykeep_Over_row (b : (List Int)) : Option (List Int) :=
 bindS (S := ((List Int))) (A := (List Int))
  (loopF (S := ((List Int) × Int)) (O := ((List Int)) ⊕ (List Int)) (fun ((s11, s12) : (List Int) × Int) =>
   cond ((decide (s12 < (s11.length : Int))))
    ((ixO s12 s11.length).bind fun v2 =>
    (getO s11 v2).bind fun v3 =>
    (some (IntKind.u8.wrap (v3 + 91))).bind fun v4 =>
    (ixO s12 s11.length).bind fun v5 =>
    (some (s11.set v5 v4)).bind fun v6 =>
    (some (IntKind.i64.wrap (s12 + 1))).bind fun v7 =>
    some (.inl (v6, v7)))
    (some (.inr (.inl s11))))
   BIG (b, 0))
  (fun (s14 : (List Int)) =>
   some (s14)) some

def wherrylaw18_wakes : Option Bool :=
 (diary_New 200).bind fun v1 =>
 obS v1.1 (fun (v2 : T_diary_Diary) =>
  bindS (S := Int × (List T_Rec) × Int × Int × Int × Int × Bool × Int × Int × Bool) (A := Bool)
   (cond ((v1.2 != 0))
    (some (.inl (v2.limit, v2.recs, v2.used, v2.safe, v2.kept, v2.life, v2.off, v2.trip, v2.tripKeep, true)))
    ((diary_Diary_Put v2 ((T_Rec.mk 0 ((T_Mail.mk ((T_Path.mk false (⟨#[]⟩ : ByteArray) (⟨#[]⟩ : ByteArray))) [] [] false (⟨#[]⟩ : ByteArray) 0)) 1 [] 0 0 0 []))).bind fun v4 =>
    cond ((v4.1 != 0))
     (some (.inl (v4.2.limit, v4.2.recs, v4.2.used, v4.2.safe, v4.2.kept, v4.2.life, v4.2.off, v4.2.trip, v4.2.tripKeep, true)))
     ((diary_Diary_Sync v4.2).bind fun v5 =>
     cond ((v5.1 != 0))
      (some (.inl (v5.2.limit, v5.2.recs, v5.2.used, v5.2.safe, v5.2.kept, v5.2.life, v5.2.off, v5.2.trip, v5.2.tripKeep, true)))
      ((diary_Diary_Put v5.2 ((T_Rec.mk 0 ((T_Mail.mk ((T_Path.mk false (⟨#[]⟩ : ByteArray) (⟨#[]⟩ : ByteArray))) [] [] false (⟨#[]⟩ : ByteArray) 0)) 2 [] 0 0 0 []))).bind fun v6 =>
      some (.inl ((v6.2.limit, v6.2.recs, v6.2.used, v6.2.safe, v6.2.kept, v6.2.life, v6.2.off, v6.2.trip, v6.2.tripKeep, (v6.1 != 8))))))))
   (fun ((s7, s8, s9, s10, s11, s12, s13, s14, s15, s16) : Int × (List T_Rec) × Int × Int × Int × Int × Bool × Int × Int × Bool) =>
    cond (s16)
     (some (false))
     ((diary_Diary_Crash (T_diary_Diary.mk s7 s8 s9 s10 s11 s12 s13 s14 s15) 0).bind fun v21 =>
     (diary_Diary_Start v21).bind fun v22 =>
     (diary_Diary_Read v22).bind fun v23 =>
     bindS (S := Bool) (A := Bool)
      (cond ((v23.2.1 == 0))
       (cond (((v23.1.length : Int) == 1))
        ((ixO 0 v23.1.length).bind fun v24 =>
        (getO v23.1 v24).bind fun v25 =>
        cond ((v25.Id == 1))
         ((diary_Diary_Used v23.2.2).bind fun v26 =>
         cond ((v26.1 == 104))
          ((diary_Diary_Life v26.2).bind fun v27 =>
          cond ((v27.1 == 1))
           ((diary_Diary_Kept v27.2).bind fun v28 =>
           cond ((v28.1 == 0))
            ((diary_Room ((T_Rec.mk 0 ((T_Mail.mk ((T_Path.mk false (⟨#[]⟩ : ByteArray) (⟨#[]⟩ : ByteArray))) [] [] false (⟨#[]⟩ : ByteArray) 0)) 0 [] 0 0 0 []))).bind fun v29 =>
            some (.inl (v29 == 104)))
            (some (.inl false)))
           (some (.inl false)))
          (some (.inl false)))
         (some (.inl false)))
        (some (.inl false)))
       (some (.inl false)))
      (fun (s30 : Bool) =>
       some (s30)) some)) some)
  (bindS (S := Unit) (A := Bool)
   (cond ((v1.2 != 0))
    (some (.inl ()))
    (some (.inl ())))
   (fun (() : Unit) =>
    some (false)) some)

def wherrylaw18_DiaryExact (limit : Int) (l : (List T_wherrylaw18_Act)) : Option Bool :=
 cond ((decide (40 < (l.length : Int))))
  (some (true))
  ((diary_New limit).bind fun v2 =>
  obS v2.1 (fun (v3 : T_diary_Diary) =>
   (wherryref18_New limit).bind fun v5 =>
   obS v5.1 (fun (v6 : T_wherryref18_Diary) =>
    bindS (S := Bool) (A := Bool)
     (cond ((v2.2 != v5.2))
      (some (.inl true))
      ((some (!(false == false))).bind fun v8 =>
      some (.inl ((!(false == false))))))
     (fun (s9 : Bool) =>
      cond (s9)
       (some (false))
       (bindS (S := (Unit)) (A := Bool)
        (loopF (S := (Int × (List T_Rec) × Int × Int × Int × Int × Bool × Int × Int × Int × (List T_Rec) × Int × Bool × Int × Int × Int × Int × Int)) (O := (Unit) ⊕ Bool) (fun ((s412, s413, s414, s415, s416, s417, s418, s419, s420, s421, s422, s423, s424, s425, s426, s427, s428, s429) : Int × (List T_Rec) × Int × Int × Int × Int × Bool × Int × Int × Int × (List T_Rec) × Int × Bool × Int × Int × Int × Int × Int) =>
         cond ((decide (s429 < (l.length : Int))))
          ((ixO s429 l.length).bind fun v15 =>
          (getO l v15).bind fun v16 =>
          (wherrylaw18_Heavy v16.Recs).bind fun v17 =>
          cond (v17)
           (some (.inr (.inr (true))))
           ((wherrykeep_TwinRecs_oo v16.Recs).bind fun v19 =>
           bindS (S := Int × (List T_Rec) × Int × Int × Int × Int × Bool × Int × Int × Int × (List T_Rec) × Int × Bool × Int × Int × Int × Int × Int × Int) (A := ((Int × (List T_Rec) × Int × Int × Int × Int × Bool × Int × Int × Int × (List T_Rec) × Int × Bool × Int × Int × Int × Int × Int) ⊕ ((Unit) ⊕ Bool)))
            ((some (IntKind.u64.wrap v16.Kind)).bind fun v20 =>
            (remO v20 6).bind fun v21 =>
            bindS (S := Int × (List T_Rec) × Int × Int × Int × Int × Bool × Int × Int × Int × (List T_Rec) × Int × Bool × Int × Int × Int × Int × Int × Int) (A := ((Int × (List T_Rec) × Int × Int × Int × Int × Bool × Int × Int × Int × (List T_Rec) × Int × Bool × Int × Int × Int × Int × Int × Int) ⊕ ((Int × (List T_Rec) × Int × Int × Int × Int × Bool × Int × Int × Int × (List T_Rec) × Int × Bool × Int × Int × Int × Int × Int) ⊕ ((Unit) ⊕ Bool))))
             (cond ((v21 == 0))
              (cond ((decide (0 < (v19.length : Int))))
               ((ixO 0 v19.length).bind fun v24 =>
               (getO v19 v24).bind fun v25 =>
               (diary_Diary_Put (T_diary_Diary.mk s412 s413 s414 s415 s416 s417 s418 s419 s420) v25).bind fun v26 =>
               (ixO 0 v16.Recs.length).bind fun v27 =>
               (getO v16.Recs v27).bind fun v28 =>
               (wherryref18_Diary_Put (T_wherryref18_Diary.mk s421 s422 s423 s424 s425 s426 s427 s428) ((T_Rec.mk v28.Kind ((T_Mail.mk (T_Path.mk v28.Mail.From.Null v28.Mail.From.Local v28.Mail.From.Domain) v28.Mail.To v28.Mail.Body v28.Mail.Quiet v28.Mail.Helo v28.Mail.At)) v28.Id v28.Ids v28.Origin v28.Number v28.Offset v28.Data))).bind fun v29 =>
               some (.inl (v26.2.limit, v26.2.recs, v26.2.used, v26.2.safe, v26.2.kept, v26.2.life, v26.2.off, v26.2.trip, v26.2.tripKeep, v29.2.Limit, v29.2.Recs, v29.2.Sure, v29.2.IsOff, v29.2.Lives, v29.2.Left, v29.2.Keep, v29.2.Kept, v26.1, v29.1)))
               (some (.inl (s412, s413, s414, s415, s416, s417, s418, s419, s420, s421, s422, s423, s424, s425, s426, s427, s428, 0, 0))))
              (cond ((v21 == 1))
               ((diary_Diary_Sync (T_diary_Diary.mk s412 s413 s414 s415 s416 s417 s418 s419 s420)).bind fun v31 =>
               (wherryref18_Diary_Sync (T_wherryref18_Diary.mk s421 s422 s423 s424 s425 s426 s427 s428)).bind fun v32 =>
               some (.inl (v31.2.limit, v31.2.recs, v31.2.used, v31.2.safe, v31.2.kept, v31.2.life, v31.2.off, v31.2.trip, v31.2.tripKeep, v32.2.Limit, v32.2.Recs, v32.2.Sure, v32.2.IsOff, v32.2.Lives, v32.2.Left, v32.2.Keep, v32.2.Kept, v31.1, v32.1)))
               (cond ((v21 == 2))
                ((diary_Diary_Renew (T_diary_Diary.mk s412 s413 s414 s415 s416 s417 s418 s419 s420) v19).bind fun v34 =>
                (wherryref18_Diary_Renew (T_wherryref18_Diary.mk s421 s422 s423 s424 s425 s426 s427 s428) v16.Recs).bind fun v35 =>
                some (.inl (v34.2.limit, v34.2.recs, v34.2.used, v34.2.safe, v34.2.kept, v34.2.life, v34.2.off, v34.2.trip, v34.2.tripKeep, v35.2.Limit, v35.2.Recs, v35.2.Sure, v35.2.IsOff, v35.2.Lives, v35.2.Left, v35.2.Keep, v35.2.Kept, v34.1, v35.1)))
                (cond ((v21 == 3))
                 ((diary_Diary_Crash (T_diary_Diary.mk s412 s413 s414 s415 s416 s417 s418 s419 s420) v16.Keep).bind fun v37 =>
                 (wherryref18_Diary_Crash (T_wherryref18_Diary.mk s421 s422 s423 s424 s425 s426 s427 s428) v16.Keep).bind fun v38 =>
                 some (.inl (v37.limit, v37.recs, v37.used, v37.safe, v37.kept, v37.life, v37.off, v37.trip, v37.tripKeep, v38.Limit, v38.Recs, v38.Sure, v38.IsOff, v38.Lives, v38.Left, v38.Keep, v38.Kept, 0, 0)))
                 (cond ((v21 == 4))
                  ((diary_Diary_Trip (T_diary_Diary.mk s412 s413 s414 s415 s416 s417 s418 s419 s420) v16.N v16.Keep).bind fun v40 =>
                  (wherryref18_Diary_Trip (T_wherryref18_Diary.mk s421 s422 s423 s424 s425 s426 s427 s428) v16.N v16.Keep).bind fun v41 =>
                  some (.inl (v40.limit, v40.recs, v40.used, v40.safe, v40.kept, v40.life, v40.off, v40.trip, v40.tripKeep, v41.Limit, v41.Recs, v41.Sure, v41.IsOff, v41.Lives, v41.Left, v41.Keep, v41.Kept, 0, 0)))
                  ((diary_Diary_Start (T_diary_Diary.mk s412 s413 s414 s415 s416 s417 s418 s419 s420)).bind fun v42 =>
                  (wherryref18_Diary_Start (T_wherryref18_Diary.mk s421 s422 s423 s424 s425 s426 s427 s428)).bind fun v43 =>
                  some (.inl (v42.limit, v42.recs, v42.used, v42.safe, v42.kept, v42.life, v42.off, v42.trip, v42.tripKeep, v43.Limit, v43.Recs, v43.Sure, v43.IsOff, v43.Lives, v43.Left, v43.Keep, v43.Kept, 0, 0))))))))
             (fun ((s671, s672, s673, s674, s675, s676, s677, s678, s679, s680, s681, s682, s683, s684, s685, s686, s687, s688, s689) : Int × (List T_Rec) × Int × Int × Int × Int × Bool × Int × Int × Int × (List T_Rec) × Int × Bool × Int × Int × Int × Int × Int × Int) =>
              some (.inl (s671, s672, s673, s674, s675, s676, s677, s678, s679, s680, s681, s682, s683, s684, s685, s686, s687, s688, s689))) some)
            (fun ((s643, s644, s645, s646, s647, s648, s649, s650, s651, s652, s653, s654, s655, s656, s657, s658, s659, s660, s661) : Int × (List T_Rec) × Int × Int × Int × Int × Bool × Int × Int × Int × (List T_Rec) × Int × Bool × Int × Int × Int × Int × Int × Int) =>
             bindS (S := Int × (List T_Rec) × Int × Int × Int × Int × Bool × Int × Int × Int × (List T_Rec) × Int × Bool × Int × Int × Int × Int × Bool) (A := ((Int × (List T_Rec) × Int × Int × Int × Int × Bool × Int × Int × Int × (List T_Rec) × Int × Bool × Int × Int × Int × Int × Int) ⊕ ((Unit) ⊕ Bool)))
              (cond ((s660 != s661))
               (some (.inl (s643, s644, s645, s646, s647, s648, s649, s650, s651, s652, s653, s654, s655, s656, s657, s658, s659, true)))
               ((wherrykeep_Recs v19 v16.Recs).bind fun v128 =>
               cond ((!v128))
                (some (.inl (s643, s644, s645, s646, s647, s648, s649, s650, s651, s652, s653, s654, s655, s656, s657, s658, s659, true)))
                ((wherrylaw18_same (T_diary_Diary.mk s643 s644 s645 s646 s647 s648 s649 s650 s651) (T_wherryref18_Diary.mk s652 s653 s654 s655 s656 s657 s658 s659)).bind fun v129 =>
                some (.inl ((v129.2.1.limit, v129.2.1.recs, v129.2.1.used, v129.2.1.safe, v129.2.1.kept, v129.2.1.life, v129.2.1.off, v129.2.1.trip, v129.2.1.tripKeep, v129.2.2.Limit, v129.2.2.Recs, v129.2.2.Sure, v129.2.2.IsOff, v129.2.2.Lives, v129.2.2.Left, v129.2.2.Keep, v129.2.2.Kept, (!v129.1)))))))
              (fun ((s699, s700, s701, s702, s703, s704, s705, s706, s707, s708, s709, s710, s711, s712, s713, s714, s715, s716) : Int × (List T_Rec) × Int × Int × Int × Int × Bool × Int × Int × Int × (List T_Rec) × Int × Bool × Int × Int × Int × Int × Bool) =>
               cond (s716)
                (some (.inr (.inr (false))))
                (bindS (S := (Unit)) (A := ((Int × (List T_Rec) × Int × Int × Int × Int × Bool × Int × Int × Int × (List T_Rec) × Int × Bool × Int × Int × Int × Int × Int) ⊕ ((Unit) ⊕ Bool)))
                 (loopF (S := ((List T_Rec) × Int)) (O := (Unit) ⊕ ((Int × (List T_Rec) × Int × Int × Int × Int × Bool × Int × Int × Int × (List T_Rec) × Int × Bool × Int × Int × Int × Int × Int) ⊕ ((Unit) ⊕ Bool))) (fun ((s725, s726) : (List T_Rec) × Int) =>
                  cond ((decide (s726 < (s725.length : Int))))
                   ((ixO s726 s725.length).bind fun v153 =>
                   (getO s725 v153).bind fun v154 =>
                   (wherrykeep_Over_row v154.Data).bind fun v155 =>
                   (ixO s726 ((s725.set v153 ((T_Rec.mk v154.Kind ((T_Mail.mk (T_Path.mk v154.Mail.From.Null v154.Mail.From.Local v154.Mail.From.Domain) v154.Mail.To v154.Mail.Body v154.Mail.Quiet v154.Mail.Helo v154.Mail.At)) v154.Id v154.Ids v154.Origin v154.Number v154.Offset v155)))).length).bind fun v156 =>
                   (getO ((s725.set v153 ((T_Rec.mk v154.Kind ((T_Mail.mk (T_Path.mk v154.Mail.From.Null v154.Mail.From.Local v154.Mail.From.Domain) v154.Mail.To v154.Mail.Body v154.Mail.Quiet v154.Mail.Helo v154.Mail.At)) v154.Id v154.Ids v154.Origin v154.Number v154.Offset v155)))) v156).bind fun v157 =>
                   (wherrykeep_Over_row v157.Mail.Body).bind fun v158 =>
                   (some (IntKind.i64.wrap (s726 + 1))).bind fun v159 =>
                   some (.inl (((((s725.set v153 ((T_Rec.mk v154.Kind ((T_Mail.mk (T_Path.mk v154.Mail.From.Null v154.Mail.From.Local v154.Mail.From.Domain) v154.Mail.To v154.Mail.Body v154.Mail.Quiet v154.Mail.Helo v154.Mail.At)) v154.Id v154.Ids v154.Origin v154.Number v154.Offset v155)))).set v156 ((T_Rec.mk v157.Kind ((T_Mail.mk (T_Path.mk v157.Mail.From.Null v157.Mail.From.Local v157.Mail.From.Domain) v157.Mail.To v158 v157.Mail.Quiet v157.Mail.Helo v157.Mail.At)) v157.Id v157.Ids v157.Origin v157.Number v157.Offset v157.Data))), v159))))
                   (some (.inr (.inl ()))))
                  BIG (v19, 0))
                 (fun (() : Unit) =>
                  bindS (S := Int × (List T_Rec) × Int × Int × Int × Int × Bool × Int × Int) (A := ((Int × (List T_Rec) × Int × Int × Int × Int × Bool × Int × Int × Int × (List T_Rec) × Int × Bool × Int × Int × Int × Int × Int) ⊕ ((Unit) ⊕ Bool)))
                   ((diary_Diary_Read (T_diary_Diary.mk s699 s700 s701 s702 s703 s704 s705 s706 s707)).bind fun v173 =>
                   cond ((v173.2.1 == 0))
                    (bindS (S := (Unit)) (A := ((Int × (List T_Rec) × Int × Int × Int × Int × Bool × Int × Int) ⊕ ((Int × (List T_Rec) × Int × Int × Int × Int × Bool × Int × Int × Int × (List T_Rec) × Int × Bool × Int × Int × Int × Int × Int) ⊕ ((Unit) ⊕ Bool))))
                     (loopF (S := ((List T_Rec) × Int)) (O := (Unit) ⊕ ((Int × (List T_Rec) × Int × Int × Int × Int × Bool × Int × Int) ⊕ ((Int × (List T_Rec) × Int × Int × Int × Int × Bool × Int × Int × Int × (List T_Rec) × Int × Bool × Int × Int × Int × Int × Int) ⊕ ((Unit) ⊕ Bool)))) (fun ((s767, s768) : (List T_Rec) × Int) =>
                      cond ((decide (s768 < (s767.length : Int))))
                       ((ixO s768 s767.length).bind fun v176 =>
                       (getO s767 v176).bind fun v177 =>
                       (wherrykeep_Over_row v177.Data).bind fun v178 =>
                       (some (IntKind.i64.wrap (s768 + 1))).bind fun v179 =>
                       some (.inl (((s767.set v176 ((T_Rec.mk v177.Kind ((T_Mail.mk (T_Path.mk v177.Mail.From.Null v177.Mail.From.Local v177.Mail.From.Domain) v177.Mail.To v177.Mail.Body v177.Mail.Quiet v177.Mail.Helo v177.Mail.At)) v177.Id v177.Ids v177.Origin v177.Number v177.Offset v178))), v179))))
                       (some (.inr (.inl ()))))
                      BIG (v173.1, 0))
                     (fun (() : Unit) =>
                      some (.inl (v173.2.2.limit, v173.2.2.recs, v173.2.2.used, v173.2.2.safe, v173.2.2.kept, v173.2.2.life, v173.2.2.off, v173.2.2.trip, v173.2.2.tripKeep))) some)
                    (some (.inl (v173.2.2.limit, v173.2.2.recs, v173.2.2.used, v173.2.2.safe, v173.2.2.kept, v173.2.2.life, v173.2.2.off, v173.2.2.trip, v173.2.2.tripKeep))))
                   (fun ((s750, s751, s752, s753, s754, s755, s756, s757, s758) : Int × (List T_Rec) × Int × Int × Int × Int × Bool × Int × Int) =>
                    (wherrylaw18_same (T_diary_Diary.mk s750 s751 s752 s753 s754 s755 s756 s757 s758) (T_wherryref18_Diary.mk s708 s709 s710 s711 s712 s713 s714 s715)).bind fun v220 =>
                    cond ((!v220.1))
                     (some (.inr (.inr (false))))
                     ((some (IntKind.i64.wrap (s429 + 1))).bind fun v222 =>
                     some (.inl (v220.2.1.limit, v220.2.1.recs, v220.2.1.used, v220.2.1.safe, v220.2.1.kept, v220.2.1.life, v220.2.1.off, v220.2.1.trip, v220.2.1.tripKeep, v220.2.2.Limit, v220.2.2.Recs, v220.2.2.Sure, v220.2.2.IsOff, v220.2.2.Lives, v220.2.2.Left, v220.2.2.Keep, v220.2.2.Kept, v222)))) some) some)) some) some))
          (some (.inr (.inl ()))))
         BIG (v3.limit, v3.recs, v3.used, v3.safe, v3.kept, v3.life, v3.off, v3.trip, v3.tripKeep, v6.Limit, v6.Recs, v6.Sure, v6.IsOff, v6.Lives, v6.Left, v6.Keep, v6.Kept, 0))
        (fun (() : Unit) =>
         (wherrylaw18_wakes ).bind fun v778 =>
         some (v778)) some)) some)
    (bindS (S := Bool) (A := Bool)
     (cond ((v2.2 != v5.2))
      (some (.inl true))
      ((some (!(false == true))).bind fun v8 =>
      some (.inl ((!(false == true))))))
     (fun (s779 : Bool) =>
      cond (s779)
       (some (false))
       (bindS (S := (Unit)) (A := Bool)
        (loopF (S := (Unit)) (O := (Unit) ⊕ Bool) (fun (() : Unit) =>
         cond ((decide (0 < (l.length : Int))))
          ((ixO 0 l.length).bind fun v15 =>
          (getO l v15).bind fun v16 =>
          (wherrylaw18_Heavy v16.Recs).bind fun v17 =>
          cond (v17)
           (some (.inr (.inr (true))))
           (none))
          (some (.inr (.inl ()))))
         BIG ())
        (fun (() : Unit) =>
         (wherrylaw18_wakes ).bind fun v778 =>
         some (v778)) some)) some))
   ((wherryref18_New limit).bind fun v5 =>
   obS v5.1 (fun (v895 : T_wherryref18_Diary) =>
    bindS (S := Bool) (A := Bool)
     (cond ((v2.2 != v5.2))
      (some (.inl true))
      ((some (!(true == false))).bind fun v8 =>
      some (.inl ((!(true == false))))))
     (fun (s897 : Bool) =>
      cond (s897)
       (some (false))
       ((wherrylaw18_wakes ).bind fun v902 =>
       some (v902))) some)
    (bindS (S := Bool) (A := Bool)
     (cond ((v2.2 != v5.2))
      (some (.inl true))
      ((some (!(true == true))).bind fun v8 =>
      some (.inl ((!(true == true))))))
     (fun (s903 : Bool) =>
      cond (s903)
       (some (false))
       ((wherrylaw18_wakes ).bind fun v902 =>
       some (v902))) some)))

end Go.Abs.Sh
