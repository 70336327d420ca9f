/-
  The program told in Lean: plain functions; none where Go would panic or a slice outgrow its room.
-/
import Derived.Test.YtbioodcjmceefaaAV
set_option linter.unusedVariables false
namespace Go.Abs.Sh

structure T_Path where
  Null : Bool
  Local : ByteArray
  Domain : ByteArray
  deriving DecidableEq, Inhabited
def T_Path.enc (x : T_Path) : List Value := [.bool x.Null, .string x.Local, .string x.Domain]
theorem T_Path.len (x : T_Path) : (T_Path.enc x).length = 3 := rfl
def T_Path.wf (x : T_Path) : Prop := True ∧ wfS x.Local ∧ wfS x.Domain
def T_Path.wz (x : T_Path) : Prop := True ∧ wzS x.Local ∧ wzS x.Domain

structure T_Mail where
  From : T_Path
  To : (List T_Path)
  Body : (List Int)
  Quiet : Bool
  Helo : ByteArray
  At : Int
  deriving DecidableEq, Inhabited
def T_Mail.ienc (x : T_Mail) : List IC := [.v (.bool x.From.Null), .v (.string x.From.Local), .v (.string x.From.Domain), .row 3 (List.map IC.v (List.flatten (List.map T_Path.enc x.To))), .row 1 (List.map IC.v (List.map (Value.int .u8) x.Body)), .v (.bool x.Quiet), .v (.string x.Helo), .v (.int .i64 x.At)]
theorem T_Mail.ilen (x : T_Mail) : (T_Mail.ienc x).length = 8 := rfl
def T_Mail.wf (x : T_Mail) : Prop := T_Path.wf x.From ∧ wfL T_Path.wf x.To ∧ wfL (wfI .u8) x.Body ∧ True ∧ wfS x.Helo ∧ wfI .i64 x.At
def T_Mail.wz (x : T_Mail) : Prop := T_Path.wz x.From ∧ (wzL 40 T_Path.wz) x.To ∧ (wzL 1 (wfI .u8)) x.Body ∧ True ∧ wzS x.Helo ∧ (wfI .i64) x.At

structure T_Rec where
  Kind : Int
  Mail : T_Mail
  Id : Int
  Ids : (List Int)
  Origin : Int
  Number : Int
  Offset : Int
  Data : (List Int)
  deriving DecidableEq, Inhabited
def T_Rec.ienc (x : T_Rec) : List IC := [.v (.int .i64 x.Kind), .v (.bool x.Mail.From.Null), .v (.string x.Mail.From.Local), .v (.string x.Mail.From.Domain), .row 3 (List.map IC.v (List.flatten (List.map T_Path.enc x.Mail.To))), .row 1 (List.map IC.v (List.map (Value.int .u8) x.Mail.Body)), .v (.bool x.Mail.Quiet), .v (.string x.Mail.Helo), .v (.int .i64 x.Mail.At), .v (.int .i64 x.Id), .row 1 (List.map IC.v (List.map (Value.int .i64) x.Ids)), .v (.int .i64 x.Origin), .v (.int .i64 x.Number), .v (.int .i64 x.Offset), .row 1 (List.map IC.v (List.map (Value.int .u8) x.Data))]
theorem T_Rec.ilen (x : T_Rec) : (T_Rec.ienc x).length = 15 := rfl
def T_Rec.wf (x : T_Rec) : Prop := wfI .i64 x.Kind ∧ T_Mail.wf x.Mail ∧ wfI .i64 x.Id ∧ wfL (wfI .i64) x.Ids ∧ wfI .i64 x.Origin ∧ wfI .i64 x.Number ∧ wfI .i64 x.Offset ∧ wfL (wfI .u8) x.Data
def T_Rec.wz (x : T_Rec) : Prop := (wfI .i64) x.Kind ∧ T_Mail.wz x.Mail ∧ (wfI .i64) x.Id ∧ (wzL 8 (wfI .i64)) x.Ids ∧ (wfI .i64) x.Origin ∧ (wfI .i64) x.Number ∧ (wfI .i64) x.Offset ∧ (wzL 1 (wfI .u8)) x.Data

structure T_diary_Diary where
  limit : Int
  recs : (List T_Rec)
  used : Int
  safe : Int
  kept : Int
  life : Int
  off : Bool
  trip : Int
  tripKeep : Int
  deriving DecidableEq, Inhabited
def T_diary_Diary.ienc (x : T_diary_Diary) : List IC := [.v (.int .i64 x.limit), .row 15 (List.flatten (List.map T_Rec.ienc x.recs)), .v (.int .i64 x.used), .v (.int .i64 x.safe), .v (.int .i64 x.kept), .v (.int .i64 x.life), .v (.bool x.off), .v (.int .i64 x.trip), .v (.int .i64 x.tripKeep)]
theorem T_diary_Diary.ilen (x : T_diary_Diary) : (T_diary_Diary.ienc x).length = 9 := rfl
def T_diary_Diary.wf (x : T_diary_Diary) : Prop := wfI .i64 x.limit ∧ wfL T_Rec.wf x.recs ∧ wfI .i64 x.used ∧ wfI .i64 x.safe ∧ wfI .i64 x.kept ∧ wfI .i64 x.life ∧ True ∧ wfI .i64 x.trip ∧ wfI .i64 x.tripKeep
def T_diary_Diary.wz (x : T_diary_Diary) : Prop := (wfI .i64) x.limit ∧ (wzL 208 T_Rec.wz) x.recs ∧ (wfI .i64) x.used ∧ (wfI .i64) x.safe ∧ (wfI .i64) x.kept ∧ (wfI .i64) x.life ∧ True ∧ (wfI .i64) x.trip ∧ (wfI .i64) x.tripKeep

def wherrylaw17_Heavy (l : (List T_Mail)) : Option Bool :=
  cond ((decide (20 < (l.length : Int))))
    (some (true))
    (bindS (S := (Int)) (A := Bool)
      (loopF (S := (Int × Int)) (O := (Int) ⊕ Bool) (fun ((s66, s67) : Int × Int) =>
        cond ((decide (s67 < (l.length : Int))))
          ((ixO s67 l.length).bind fun v3 =>
          (getO l v3).bind fun v4 =>
          (some (IntKind.i64.wrap (s66 + (v4.Body.length : Int)))).bind fun v5 =>
          (ixO s67 l.length).bind fun v6 =>
          (getO l v6).bind fun v7 =>
          (some (IntKind.i64.wrap (v5 + (v7.Helo.size : Int)))).bind fun v8 =>
          (ixO s67 l.length).bind fun v9 =>
          (getO l v9).bind fun v10 =>
          (some (IntKind.i64.wrap (v8 + (v10.From.Local.size : Int)))).bind fun v11 =>
          (ixO s67 l.length).bind fun v12 =>
          (getO l v12).bind fun v13 =>
          (some (IntKind.i64.wrap (v11 + (v13.From.Domain.size : Int)))).bind fun v14 =>
          (ixO s67 l.length).bind fun v15 =>
          (getO l v15).bind fun v16 =>
          cond ((decide (40 < (v16.To.length : Int))))
            (some (.inr (.inr (true))))
            (bindS (S := (Int)) (A := ((Int × Int) ⊕ ((Int) ⊕ Bool)))
              (loopF (S := (Int × Int)) (O := (Int) ⊕ ((Int × Int) ⊕ ((Int) ⊕ Bool))) (fun ((s98, s99) : Int × Int) =>
                (ixO s67 l.length).bind fun v18 =>
                (getO l v18).bind fun v19 =>
                cond ((decide (s99 < (v19.To.length : Int))))
                  ((ixO s67 l.length).bind fun v21 =>
                  (getO l v21).bind fun v22 =>
                  (ixO s99 v22.To.length).bind fun v23 =>
                  (getO v22.To v23).bind fun v24 =>
                  (some (IntKind.i64.wrap (s98 + (v24.Local.size : Int)))).bind fun v25 =>
                  (ixO s67 l.length).bind fun v26 =>
                  (getO l v26).bind fun v27 =>
                  (ixO s99 v27.To.length).bind fun v28 =>
                  (getO v27.To v28).bind fun v29 =>
                  (some (IntKind.i64.wrap (v25 + (v29.Domain.size : Int)))).bind fun v30 =>
                  (some (IntKind.i64.wrap (s99 + 1))).bind fun v31 =>
                  some (.inl (v30, v31)))
                  (some (.inr (.inl s98))))
                BIG (v14, 0))
              (fun (s101 : Int) =>
                (some (IntKind.i64.wrap (s67 + 1))).bind fun v46 =>
                some (.inl (s101, v46))) some))
          (some (.inr (.inl s66))))
        BIG (0, 0))
      (fun (s85 : Int) =>
        some ((decide (20000 < s85)))) some)

def wherrylaw18_Heavy (l : (List T_Rec)) : Option Bool :=
  cond ((decide (60 < (l.length : Int))))
    (some (true))
    (bindS (S := (Unit)) (A := Bool)
      (loopF (S := (Int)) (O := (Unit) ⊕ Bool) (fun (s23 : Int) =>
        cond ((decide (s23 < (l.length : Int))))
          (bindS (S := Bool) (A := ((Int) ⊕ ((Unit) ⊕ Bool)))
            ((ixO s23 l.length).bind fun v3 =>
            (getO l v3).bind fun v4 =>
            cond ((decide (600 < (v4.Data.length : Int))))
              (some (.inl true))
              ((ixO s23 l.length).bind fun v5 =>
              (getO l v5).bind fun v6 =>
              cond ((decide (60 < (v6.Ids.length : Int))))
                (some (.inl true))
                ((ixO s23 l.length).bind fun v7 =>
                (getO l v7).bind fun v8 =>
                (wherrylaw17_Heavy [(T_Mail.mk (T_Path.mk v8.Mail.From.Null v8.Mail.From.Local v8.Mail.From.Domain) v8.Mail.To v8.Mail.Body v8.Mail.Quiet v8.Mail.Helo v8.Mail.At)]).bind fun v9 =>
                some (.inl v9))))
            (fun (s37 : Bool) =>
              cond (s37)
                (some (.inr (.inr (true))))
                ((some (IntKind.i64.wrap (s23 + 1))).bind fun v15 =>
                some (.inl v15))) some)
          (some (.inr (.inl ()))))
        BIG 0)
      (fun (() : Unit) =>
        some (false)) some)

def diary_New (limit : Int) : Option ((Option T_diary_Diary) × Int) :=
  bindS (S := Bool) (A := ((Option T_diary_Diary) × Int))
    (cond ((decide (limit < 1)))
      (some (.inl true))
      (some (.inl ((decide (131072 < limit))))))
    (fun (s1 : Bool) =>
      cond (s1)
        (some ((none, 1)))
        (some ((some (T_diary_Diary.mk limit [] 0 0 0 0 false 0 0), 0)))) some

def diary_Diary_Trip (d : T_diary_Diary) (n : Int) (keep : Int) : Option T_diary_Diary :=
  (some (if 0 > n then 0 else n)).bind fun v1 =>
  some ((T_diary_Diary.mk d.limit d.recs d.used d.safe d.kept d.life d.off v1 keep))

def diary_Room (p_r : T_Rec) : Option Int :=
  (some (IntKind.i64.wrap ((p_r.Data.length : Int) + (p_r.Mail.Body.length : Int)))).bind fun v1 =>
  (some (IntKind.i64.wrap (v1 + (p_r.Mail.Helo.size : Int)))).bind fun v2 =>
  (some (IntKind.i64.wrap (1 + (p_r.Mail.To.length : Int)))).bind fun v3 =>
  (some (IntKind.i64.wrap (24 + v2))).bind fun v4 =>
  (some (IntKind.i64.wrap (80 * v3))).bind fun v5 =>
  (some (IntKind.i64.wrap (v4 + v5))).bind fun v6 =>
  (some (IntKind.i64.wrap (8 * (p_r.Ids.length : Int)))).bind fun v7 =>
  (some (IntKind.i64.wrap (v6 + v7))).bind fun v8 =>
  some (v8)

def clone_List_api_Path (l : (List T_Path)) : Option (List T_Path) :=
  (appO 40 ([] : List T_Path) l).bind fun v1 =>
  some (v1)

def clone_List_byte (l : (List Int)) : Option (List Int) :=
  (appO 1 ([] : List Int) l).bind fun v1 =>
  some (v1)

def clone_Mail (m : T_Mail) : Option T_Mail :=
  (clone_List_api_Path m.To).bind fun v1 =>
  (clone_List_byte m.Body).bind fun v2 =>
  some ((T_Mail.mk (T_Path.mk m.From.Null m.From.Local m.From.Domain) v1 v2 m.Quiet m.Helo m.At))

def clone_List_int (l : (List Int)) : Option (List Int) :=
  (appO 8 ([] : List Int) l).bind fun v1 =>
  some (v1)

def clone_Rec (p_r : T_Rec) : Option T_Rec :=
  (clone_Mail ((T_Mail.mk (T_Path.mk p_r.Mail.From.Null p_r.Mail.From.Local p_r.Mail.From.Domain) p_r.Mail.To p_r.Mail.Body p_r.Mail.Quiet p_r.Mail.Helo p_r.Mail.At))).bind fun v1 =>
  (clone_List_int p_r.Ids).bind fun v2 =>
  (clone_List_byte p_r.Data).bind fun v3 =>
  some ((T_Rec.mk p_r.Kind ((T_Mail.mk (T_Path.mk v1.From.Null v1.From.Local v1.From.Domain) v1.To v1.Body v1.Quiet v1.Helo v1.At)) p_r.Id v2 p_r.Origin p_r.Number p_r.Offset v3))

def clone_List_api_Rec_ro (l : (List T_Rec)) : Option (List T_Rec) :=
  (appO 208 ([] : List T_Rec) l).bind fun v1 =>
  some (v1)

def diary_size (l : (List T_Rec)) : Option Int :=
  bindS (S := (Int)) (A := Int)
    (loopF (S := (Int × Int)) (O := (Int) ⊕ Int) (fun ((s10, s11) : Int × Int) =>
      cond ((decide (s11 < (l.length : Int))))
        ((ixO s11 l.length).bind fun v2 =>
        (getO l v2).bind fun v3 =>
        (diary_Room ((T_Rec.mk v3.Kind ((T_Mail.mk (T_Path.mk v3.Mail.From.Null v3.Mail.From.Local v3.Mail.From.Domain) v3.Mail.To v3.Mail.Body v3.Mail.Quiet v3.Mail.Helo v3.Mail.At)) v3.Id v3.Ids v3.Origin v3.Number v3.Offset v3.Data))).bind fun v4 =>
        (some (IntKind.i64.wrap (s10 + v4))).bind fun v5 =>
        (some (IntKind.i64.wrap (s11 + 1))).bind fun v6 =>
        some (.inl (v5, v6)))
        (some (.inr (.inl s10))))
      BIG (0, 0))
    (fun (s13 : Int) =>
      some (s13)) some

def diary_Diary_Crash (d : T_diary_Diary) (keep : Int) : Option T_diary_Diary :=
  cond (d.off)
    (some (d))
    ((some (if 0 > keep then 0 else keep)).bind fun v2 =>
    (some (IntKind.i64.wrap ((d.recs.length : Int) - d.safe))).bind fun v3 =>
    (some (if v3 < v2 then v3 else v2)).bind fun v4 =>
    (some (IntKind.i64.wrap (d.safe + v4))).bind fun v5 =>
    (sliO d.recs 0 v5).bind fun v6 =>
    (clone_List_api_Rec_ro v6).bind fun v7 =>
    (diary_size v7).bind fun v8 =>
    (some (IntKind.i64.wrap (d.kept + v4))).bind fun v9 =>
    (some (IntKind.i64.wrap (d.life + 1))).bind fun v10 =>
    some ((T_diary_Diary.mk d.limit v7 v8 (v7.length : Int) v9 v10 true 0 d.tripKeep)))

def diary_Diary_step (d : T_diary_Diary) : Option (Int × T_diary_Diary) :=
  cond ((d.trip == 0))
    (some ((0, d)))
    ((some (IntKind.i64.wrap (d.trip - 1))).bind fun v2 =>
    cond ((decide (0 < v2)))
      (some ((0, (T_diary_Diary.mk d.limit d.recs d.used d.safe d.kept d.life d.off v2 d.tripKeep))))
      ((diary_Diary_Crash (T_diary_Diary.mk d.limit d.recs d.used d.safe d.kept d.life d.off v2 d.tripKeep) d.tripKeep).bind fun v4 =>
      some ((7, v4))))

def diary_Diary_Put (d : T_diary_Diary) (p_r : T_Rec) : Option (Int × T_diary_Diary) :=
  cond (d.off)
    (some ((7, d)))
    ((diary_Room ((T_Rec.mk p_r.Kind ((T_Mail.mk (T_Path.mk p_r.Mail.From.Null p_r.Mail.From.Local p_r.Mail.From.Domain) p_r.Mail.To p_r.Mail.Body p_r.Mail.Quiet p_r.Mail.Helo p_r.Mail.At)) p_r.Id p_r.Ids p_r.Origin p_r.Number p_r.Offset p_r.Data))).bind fun v2 =>
    (some (IntKind.i64.wrap (d.used + v2))).bind fun v3 =>
    cond ((decide (d.limit < v3)))
      (some ((8, d)))
      ((clone_Rec ((T_Rec.mk p_r.Kind ((T_Mail.mk (T_Path.mk p_r.Mail.From.Null p_r.Mail.From.Local p_r.Mail.From.Domain) p_r.Mail.To p_r.Mail.Body p_r.Mail.Quiet p_r.Mail.Helo p_r.Mail.At)) p_r.Id p_r.Ids p_r.Origin p_r.Number p_r.Offset p_r.Data))).bind fun v5 =>
      (appO 208 d.recs [(T_Rec.mk v5.Kind ((T_Mail.mk (T_Path.mk v5.Mail.From.Null v5.Mail.From.Local v5.Mail.From.Domain) v5.Mail.To v5.Mail.Body v5.Mail.Quiet v5.Mail.Helo v5.Mail.At)) v5.Id v5.Ids v5.Origin v5.Number v5.Offset v5.Data)]).bind fun v6 =>
      (diary_Room ((T_Rec.mk p_r.Kind ((T_Mail.mk (T_Path.mk p_r.Mail.From.Null p_r.Mail.From.Local p_r.Mail.From.Domain) p_r.Mail.To p_r.Mail.Body p_r.Mail.Quiet p_r.Mail.Helo p_r.Mail.At)) p_r.Id p_r.Ids p_r.Origin p_r.Number p_r.Offset p_r.Data))).bind fun v7 =>
      (some (IntKind.i64.wrap (d.used + v7))).bind fun v8 =>
      (diary_Diary_step (T_diary_Diary.mk d.limit v6 v8 d.safe d.kept d.life d.off d.trip d.tripKeep)).bind fun v9 =>
      some ((v9.1, v9.2))))

def diary_Diary_settle (d : T_diary_Diary) : Option T_diary_Diary :=
  some ((T_diary_Diary.mk d.limit d.recs d.used (d.recs.length : Int) 0 d.life d.off d.trip d.tripKeep))

def diary_Diary_Sync (d : T_diary_Diary) : Option (Int × T_diary_Diary) :=
  cond (d.off)
    (some ((7, d)))
    ((diary_Diary_step d).bind fun v2 =>
    cond ((v2.1 != 0))
      (some ((v2.1, v2.2)))
      ((diary_Diary_settle v2.2).bind fun v4 =>
      some ((0, v4))))

def diary_Diary_Start (d : T_diary_Diary) : Option T_diary_Diary :=
  some ((T_diary_Diary.mk d.limit d.recs d.used d.safe d.kept d.life false d.trip d.tripKeep))

def clone_Each_api_Rec_of_clone_Rec (l : (List T_Rec)) : Option (List T_Rec) :=
  bindS (S := ((List T_Rec))) (A := (List T_Rec))
    (loopF (S := ((List T_Rec) × Int)) (O := ((List T_Rec)) ⊕ (List T_Rec)) (fun ((s10, s11) : (List T_Rec) × Int) =>
      cond ((decide (s11 < (l.length : Int))))
        ((ixO s11 l.length).bind fun v2 =>
        (getO l v2).bind fun v3 =>
        (clone_Rec ((T_Rec.mk v3.Kind ((T_Mail.mk (T_Path.mk v3.Mail.From.Null v3.Mail.From.Local v3.Mail.From.Domain) v3.Mail.To v3.Mail.Body v3.Mail.Quiet v3.Mail.Helo v3.Mail.At)) v3.Id v3.Ids v3.Origin v3.Number v3.Offset v3.Data))).bind fun v4 =>
        (appO 208 s10 [(T_Rec.mk v4.Kind ((T_Mail.mk (T_Path.mk v4.Mail.From.Null v4.Mail.From.Local v4.Mail.From.Domain) v4.Mail.To v4.Mail.Body v4.Mail.Quiet v4.Mail.Helo v4.Mail.At)) v4.Id v4.Ids v4.Origin v4.Number v4.Offset v4.Data)]).bind fun v5 =>
        (some (IntKind.i64.wrap (s11 + 1))).bind fun v6 =>
        some (.inl (v5, v6)))
        (some (.inr (.inl s10))))
      BIG ([], 0))
    (fun (s13 : (List T_Rec)) =>
      some (s13)) some

def diary_Diary_Read (d : T_diary_Diary) : Option ((List T_Rec) × Int × T_diary_Diary) :=
  cond (d.off)
    (some (([], 7, d)))
    ((clone_Each_api_Rec_of_clone_Rec d.recs).bind fun v2 =>
    some ((v2, 0, d)))

def diary_Diary_Used (d : T_diary_Diary) : Option (Int × T_diary_Diary) :=
  some ((d.used, d))

def diary_Diary_Life (d : T_diary_Diary) : Option (Int × T_diary_Diary) :=
  some ((d.life, d))

def diary_Diary_Kept (d : T_diary_Diary) : Option (Int × T_diary_Diary) :=
  some ((d.kept, d))

def wherrylaw18_wakes : Option Bool :=
  (diary_New 200).bind fun v1 =>
  obS v1.1 (fun (v2 : T_diary_Diary) =>
    bindS (S := Int × (List T_Rec) × Int × Int × Int × Int × Bool × Int × Int × Bool) (A := Bool)
      (cond ((v1.2 != 0))
        (some (.inl (v2.limit, v2.recs, v2.used, v2.safe, v2.kept, v2.life, v2.off, v2.trip, v2.tripKeep, true)))
        ((diary_Diary_Put v2 ((T_Rec.mk 0 ((T_Mail.mk ((T_Path.mk false (⟨#[]⟩ : ByteArray) (⟨#[]⟩ : ByteArray))) [] [] false (⟨#[]⟩ : ByteArray) 0)) 1 [] 0 0 0 []))).bind fun v4 =>
        cond ((v4.1 != 0))
          (some (.inl (v4.2.limit, v4.2.recs, v4.2.used, v4.2.safe, v4.2.kept, v4.2.life, v4.2.off, v4.2.trip, v4.2.tripKeep, true)))
          ((diary_Diary_Sync v4.2).bind fun v5 =>
          cond ((v5.1 != 0))
            (some (.inl (v5.2.limit, v5.2.recs, v5.2.used, v5.2.safe, v5.2.kept, v5.2.life, v5.2.off, v5.2.trip, v5.2.tripKeep, true)))
            ((diary_Diary_Put v5.2 ((T_Rec.mk 0 ((T_Mail.mk ((T_Path.mk false (⟨#[]⟩ : ByteArray) (⟨#[]⟩ : ByteArray))) [] [] false (⟨#[]⟩ : ByteArray) 0)) 2 [] 0 0 0 []))).bind fun v6 =>
            some (.inl ((v6.2.limit, v6.2.recs, v6.2.used, v6.2.safe, v6.2.kept, v6.2.life, v6.2.off, v6.2.trip, v6.2.tripKeep, (v6.1 != 8))))))))
      (fun ((s7, s8, s9, s10, s11, s12, s13, s14, s15, s16) : Int × (List T_Rec) × Int × Int × Int × Int × Bool × Int × Int × Bool) =>
        cond (s16)
          (some (false))
          ((diary_Diary_Crash (T_diary_Diary.mk s7 s8 s9 s10 s11 s12 s13 s14 s15) 0).bind fun v21 =>
          (diary_Diary_Start v21).bind fun v22 =>
          (diary_Diary_Read v22).bind fun v23 =>
          bindS (S := Bool) (A := Bool)
            (cond ((v23.2.1 == 0))
              (cond (((v23.1.length : Int) == 1))
                ((ixO 0 v23.1.length).bind fun v24 =>
                (getO v23.1 v24).bind fun v25 =>
                cond ((v25.Id == 1))
                  ((diary_Diary_Used v23.2.2).bind fun v26 =>
                  cond ((v26.1 == 104))
                    ((diary_Diary_Life v26.2).bind fun v27 =>
                    cond ((v27.1 == 1))
                      ((diary_Diary_Kept v27.2).bind fun v28 =>
                      cond ((v28.1 == 0))
                        ((diary_Room ((T_Rec.mk 0 ((T_Mail.mk ((T_Path.mk false (⟨#[]⟩ : ByteArray) (⟨#[]⟩ : ByteArray))) [] [] false (⟨#[]⟩ : ByteArray) 0)) 0 [] 0 0 0 []))).bind fun v29 =>
                        some (.inl (v29 == 104)))
                        (some (.inl false)))
                      (some (.inl false)))
                    (some (.inl false)))
                  (some (.inl false)))
                (some (.inl false)))
              (some (.inl false)))
            (fun (s30 : Bool) =>
              some (s30)) some)) some)
    (bindS (S := Unit) (A := Bool)
      (cond ((v1.2 != 0))
        (some (.inl ()))
        (some (.inl ())))
      (fun (() : Unit) =>
        some (false)) some)

def wherrykeep_Path (a : T_Path) (b : T_Path) : Option Bool :=
  bindS (S := Bool) (A := Bool)
    ((some (a.Null == b.Null)).bind fun v1 =>
    cond ((a.Null == b.Null))
      (cond ((a.Local.toList == b.Local.toList))
        (some (.inl (a.Domain.toList == b.Domain.toList)))
        (some (.inl false)))
      (some (.inl false)))
    (fun (s2 : Bool) =>
      some (s2)) some

def wherrykeep_Paths (a : (List T_Path)) (b : (List T_Path)) : Option Bool :=
  cond (((a.length : Int) != (b.length : Int)))
    (some (false))
    (bindS (S := (Unit)) (A := Bool)
      (loopF (S := (Int)) (O := (Unit) ⊕ Bool) (fun (s13 : Int) =>
        cond ((decide (s13 < (a.length : Int))))
          ((ixO s13 a.length).bind fun v3 =>
          (getO a v3).bind fun v4 =>
          (ixO s13 b.length).bind fun v5 =>
          (getO b v5).bind fun v6 =>
          (wherrykeep_Path v4 v6).bind fun v7 =>
          cond ((!v7))
            (some (.inr (.inr (false))))
            ((some (IntKind.i64.wrap (s13 + 1))).bind fun v9 =>
            some (.inl v9)))
          (some (.inr (.inl ()))))
        BIG 0)
      (fun (() : Unit) =>
        some (true)) some)

def wherrykeep_Bytes (a : (List Int)) (b : (List Int)) : Option Bool :=
  cond (((a.length : Int) != (b.length : Int)))
    (some (false))
    (bindS (S := (Unit)) (A := Bool)
      (loopF (S := (Int)) (O := (Unit) ⊕ Bool) (fun (s12 : Int) =>
        cond ((decide (s12 < (a.length : Int))))
          ((ixO s12 a.length).bind fun v3 =>
          (getO a v3).bind fun v4 =>
          (ixO s12 b.length).bind fun v5 =>
          (getO b v5).bind fun v6 =>
          cond ((v4 != v6))
            (some (.inr (.inr (false))))
            ((some (IntKind.i64.wrap (s12 + 1))).bind fun v8 =>
            some (.inl v8)))
          (some (.inr (.inl ()))))
        BIG 0)
      (fun (() : Unit) =>
        some (true)) some)

def wherrykeep_Mail (a : T_Mail) (b : T_Mail) : Option Bool :=
  bindS (S := Bool) (A := Bool)
    ((wherrykeep_Path (T_Path.mk a.From.Null a.From.Local a.From.Domain) (T_Path.mk b.From.Null b.From.Local b.From.Domain)).bind fun v1 =>
    cond (v1)
      ((wherrykeep_Paths a.To b.To).bind fun v2 =>
      cond (v2)
        ((wherrykeep_Bytes a.Body b.Body).bind fun v3 =>
        cond (v3)
          ((some (a.Quiet == b.Quiet)).bind fun v4 =>
          cond ((a.Quiet == b.Quiet))
            (cond ((a.Helo.toList == b.Helo.toList))
              (some (.inl (a.At == b.At)))
              (some (.inl false)))
            (some (.inl false)))
          (some (.inl false)))
        (some (.inl false)))
      (some (.inl false)))
    (fun (s5 : Bool) =>
      some (s5)) some

def wherrykeep_Ints (a : (List Int)) (b : (List Int)) : Option Bool :=
  cond (((a.length : Int) != (b.length : Int)))
    (some (false))
    (bindS (S := (Unit)) (A := Bool)
      (loopF (S := (Int)) (O := (Unit) ⊕ Bool) (fun (s12 : Int) =>
        cond ((decide (s12 < (a.length : Int))))
          ((ixO s12 a.length).bind fun v3 =>
          (getO a v3).bind fun v4 =>
          (ixO s12 b.length).bind fun v5 =>
          (getO b v5).bind fun v6 =>
          cond ((v4 != v6))
            (some (.inr (.inr (false))))
            ((some (IntKind.i64.wrap (s12 + 1))).bind fun v8 =>
            some (.inl v8)))
          (some (.inr (.inl ()))))
        BIG 0)
      (fun (() : Unit) =>
        some (true)) some)

def wherrykeep_Rec (a : T_Rec) (b : T_Rec) : Option Bool :=
  bindS (S := Bool) (A := Bool)
    (cond ((a.Kind == b.Kind))
      ((wherrykeep_Mail ((T_Mail.mk (T_Path.mk a.Mail.From.Null a.Mail.From.Local a.Mail.From.Domain) a.Mail.To a.Mail.Body a.Mail.Quiet a.Mail.Helo a.Mail.At)) ((T_Mail.mk (T_Path.mk b.Mail.From.Null b.Mail.From.Local b.Mail.From.Domain) b.Mail.To b.Mail.Body b.Mail.Quiet b.Mail.Helo b.Mail.At))).bind fun v1 =>
      cond (v1)
        (cond ((a.Id == b.Id))
          ((wherrykeep_Ints a.Ids b.Ids).bind fun v2 =>
          cond (v2)
            (cond ((a.Origin == b.Origin))
              (cond ((a.Number == b.Number))
                (cond ((a.Offset == b.Offset))
                  ((wherrykeep_Bytes a.Data b.Data).bind fun v3 =>
                  some (.inl v3))
                  (some (.inl false)))
                (some (.inl false)))
              (some (.inl false)))
            (some (.inl false)))
          (some (.inl false)))
        (some (.inl false)))
      (some (.inl false)))
    (fun (s4 : Bool) =>
      some (s4)) some

def wherrykeep_Recs (a : (List T_Rec)) (b : (List T_Rec)) : Option Bool :=
  cond (((a.length : Int) != (b.length : Int)))
    (some (false))
    (bindS (S := (Unit)) (A := Bool)
      (loopF (S := (Int)) (O := (Unit) ⊕ Bool) (fun (s13 : Int) =>
        cond ((decide (s13 < (a.length : Int))))
          ((ixO s13 a.length).bind fun v3 =>
          (getO a v3).bind fun v4 =>
          (ixO s13 b.length).bind fun v5 =>
          (getO b v5).bind fun v6 =>
          (wherrykeep_Rec ((T_Rec.mk v4.Kind ((T_Mail.mk (T_Path.mk v4.Mail.From.Null v4.Mail.From.Local v4.Mail.From.Domain) v4.Mail.To v4.Mail.Body v4.Mail.Quiet v4.Mail.Helo v4.Mail.At)) v4.Id v4.Ids v4.Origin v4.Number v4.Offset v4.Data)) ((T_Rec.mk v6.Kind ((T_Mail.mk (T_Path.mk v6.Mail.From.Null v6.Mail.From.Local v6.Mail.From.Domain) v6.Mail.To v6.Mail.Body v6.Mail.Quiet v6.Mail.Helo v6.Mail.At)) v6.Id v6.Ids v6.Origin v6.Number v6.Offset v6.Data))).bind fun v7 =>
          cond ((!v7))
            (some (.inr (.inr (false))))
            ((some (IntKind.i64.wrap (s13 + 1))).bind fun v9 =>
            some (.inl v9)))
          (some (.inr (.inl ()))))
        BIG 0)
      (fun (() : Unit) =>
        some (true)) some)

def wherrylaw18_DiaryTrips (l : (List T_Rec)) (n : Int) (keep : Int) : Option Bool :=
  bindS (S := Bool) (A := Bool)
    ((wherrylaw18_Heavy l).bind fun v1 =>
    cond (v1)
      (some (.inl true))
      (some (.inl (((l.length : Int) == 0)))))
    (fun (s2 : Bool) =>
      cond (s2)
        (some (true))
        ((diary_New 131072).bind fun v7 =>
        obS v7.1 (fun (v8 : T_diary_Diary) =>
          bindS (S := Bool) (A := Bool)
            (cond ((v7.2 != 0))
              (some (.inl true))
              (some (.inl false)))
            (fun (s10 : Bool) =>
              cond (s10)
                (some (false))
                ((some (IntKind.u64.wrap n)).bind fun v15 =>
                (some (IntKind.i64.wrap ((l.length : Int) + 1))).bind fun v16 =>
                (some (IntKind.u64.wrap v16)).bind fun v17 =>
                (remO v15 v17).bind fun v18 =>
                (some (IntKind.i64.wrap v18)).bind fun v19 =>
                (some (IntKind.i64.wrap (1 + v19))).bind fun v20 =>
                (diary_Diary_Trip v8 v20 keep).bind fun v21 =>
                bindS (S := (Int × (List T_Rec) × Int × Int × Int × Int × Bool × Int × Int)) (A := Bool)
                  (loopF (S := (Int × (List T_Rec) × Int × Int × Int × Int × Bool × Int × Int × Int)) (O := (Int × (List T_Rec) × Int × Int × Int × Int × Bool × Int × Int) ⊕ Bool) (fun ((s54, s55, s56, s57, s58, s59, s60, s61, s62, s63) : Int × (List T_Rec) × Int × Int × Int × Int × Bool × Int × Int × Int) =>
                    cond ((decide (s63 < (l.length : Int))))
                      ((ixO s63 l.length).bind fun v23 =>
                      (getO l v23).bind fun v24 =>
                      (diary_Diary_Put (T_diary_Diary.mk s54 s55 s56 s57 s58 s59 s60 s61 s62) ((T_Rec.mk v24.Kind ((T_Mail.mk (T_Path.mk v24.Mail.From.Null v24.Mail.From.Local v24.Mail.From.Domain) v24.Mail.To v24.Mail.Body v24.Mail.Quiet v24.Mail.Helo v24.Mail.At)) v24.Id v24.Ids v24.Origin v24.Number v24.Offset v24.Data))).bind fun v25 =>
                      cond ((v25.1 == 8))
                        ((wherrylaw18_wakes ).bind fun v27 =>
                        some (.inr (.inr (v27))))
                        (bindS (S := Bool) (A := ((Int × (List T_Rec) × Int × Int × Int × Int × Bool × Int × Int × Int) ⊕ ((Int × (List T_Rec) × Int × Int × Int × Int × Bool × Int × Int) ⊕ Bool)))
                          ((some (IntKind.i64.wrap (v20 - 1))).bind fun v28 =>
                          cond ((decide (s63 < v28)))
                            (cond ((v25.1 != 0))
                              (some (.inl true))
                              ((some (IntKind.i64.wrap (v20 - 1))).bind fun v29 =>
                              cond ((decide (v29 ≤ s63)))
                                (some (.inl (v25.1 != 7)))
                                (some (.inl false))))
                            ((some (IntKind.i64.wrap (v20 - 1))).bind fun v30 =>
                            cond ((decide (v30 ≤ s63)))
                              (some (.inl (v25.1 != 7)))
                              (some (.inl false))))
                          (fun (s88 : Bool) =>
                            cond (s88)
                              (some (.inr (.inr (false))))
                              ((some (IntKind.i64.wrap (s63 + 1))).bind fun v36 =>
                              some (.inl (v25.2.limit, v25.2.recs, v25.2.used, v25.2.safe, v25.2.kept, v25.2.life, v25.2.off, v25.2.trip, v25.2.tripKeep, v36)))) some))
                      (some (.inr (.inl (s54, s55, s56, s57, s58, s59, s60, s61, s62)))))
                    BIG (v21.limit, v21.recs, v21.used, v21.safe, v21.kept, v21.life, v21.off, v21.trip, v21.tripKeep, 0))
                  (fun ((s71, s72, s73, s74, s75, s76, s77, s78, s79) : Int × (List T_Rec) × Int × Int × Int × Int × Bool × Int × Int) =>
                    bindS (S := Int × (List T_Rec) × Int × Int × Int × Int × Bool × Int × Int × Bool) (A := Bool)
                      ((some (IntKind.i64.wrap ((l.length : Int) + 1))).bind fun v93 =>
                      cond ((v20 == v93))
                        ((diary_Diary_Sync (T_diary_Diary.mk s71 s72 s73 s74 s75 s76 s77 s78 s79)).bind fun v94 =>
                        some (.inl ((v94.2.limit, v94.2.recs, v94.2.used, v94.2.safe, v94.2.kept, v94.2.life, v94.2.off, v94.2.trip, v94.2.tripKeep, (v94.1 != 7)))))
                        (some (.inl (s71, s72, s73, s74, s75, s76, s77, s78, s79, false))))
                      (fun ((s95, s96, s97, s98, s99, s100, s101, s102, s103, s104) : Int × (List T_Rec) × Int × Int × Int × Int × Bool × Int × Int × Bool) =>
                        cond (s104)
                          (some (false))
                          ((diary_Diary_Start (T_diary_Diary.mk s95 s96 s97 s98 s99 s100 s101 s102 s103)).bind fun v109 =>
                          (some (if 0 > keep then 0 else keep)).bind fun v110 =>
                          (some (if (l.length : Int) < v20 then (l.length : Int) else v20)).bind fun v111 =>
                          (some (if v111 < v110 then v111 else v110)).bind fun v112 =>
                          (diary_Diary_Read v109).bind fun v113 =>
                          bindS (S := Bool) (A := Bool)
                            (cond ((v113.2.1 == 0))
                              ((diary_Diary_Life v113.2.2).bind fun v114 =>
                              cond ((v114.1 == 1))
                                ((sliO l 0 v112).bind fun v115 =>
                                (wherrykeep_Recs v113.1 v115).bind fun v116 =>
                                cond (v116)
                                  ((diary_Diary_Kept v114.2).bind fun v117 =>
                                  cond ((v117.1 == v112))
                                    ((diary_Diary_Sync v117.2).bind fun v118 =>
                                    cond ((v118.1 == 0))
                                      ((diary_Diary_Kept v118.2).bind fun v119 =>
                                      cond ((v119.1 == 0))
                                        ((wherrylaw18_wakes ).bind fun v120 =>
                                        some (.inl v120))
                                        (some (.inl false)))
                                      (some (.inl false)))
                                    (some (.inl false)))
                                  (some (.inl false)))
                                (some (.inl false)))
                              (some (.inl false)))
                            (fun (s121 : Bool) =>
                              some (s121)) some)) some) some)) some)
          (bindS (S := Unit) (A := Bool)
            (cond ((v7.2 != 0))
              (some (.inl ()))
              (some (.inl ())))
            (fun (() : Unit) =>
              some (false)) some))) some

def diary_Diary_Len (d : T_diary_Diary) : Option (Int × T_diary_Diary) :=
  some (((d.recs.length : Int), d))

def diary_Diary_Renew (d : T_diary_Diary) (l : (List T_Rec)) : Option (Int × T_diary_Diary) :=
  cond (d.off)
    (some ((7, d)))
    ((diary_size l).bind fun v2 =>
    cond ((decide (d.limit < v2)))
      (some ((8, d)))
      ((diary_Diary_step d).bind fun v4 =>
      cond ((v4.1 != 0))
        (some ((v4.1, v4.2)))
        ((clone_Each_api_Rec_of_clone_Rec l).bind fun v6 =>
        (diary_Diary_settle (T_diary_Diary.mk v4.2.limit v6 v2 v4.2.safe v4.2.kept v4.2.life v4.2.off v4.2.trip v4.2.tripKeep)).bind fun v7 =>
        some ((0, v7)))))

def diary_Diary_Safe (d : T_diary_Diary) : Option (Int × T_diary_Diary) :=
  some ((d.safe, d))

def wherrylaw18_DiaryRooms (l : (List T_Rec)) (less : Int) : Option Bool :=
  (wherrylaw18_Heavy l).bind fun v1 =>
  cond (v1)
    (some (true))
    (bindS (S := (Int)) (A := Bool)
      (loopF (S := (Int × Int)) (O := (Int) ⊕ Bool) (fun ((s12, s13) : Int × Int) =>
        cond ((decide (s13 < (l.length : Int))))
          ((ixO s13 l.length).bind fun v4 =>
          (getO l v4).bind fun v5 =>
          (diary_Room ((T_Rec.mk v5.Kind ((T_Mail.mk (T_Path.mk v5.Mail.From.Null v5.Mail.From.Local v5.Mail.From.Domain) v5.Mail.To v5.Mail.Body v5.Mail.Quiet v5.Mail.Helo v5.Mail.At)) v5.Id v5.Ids v5.Origin v5.Number v5.Offset v5.Data))).bind fun v6 =>
          (some (IntKind.i64.wrap (s12 + v6))).bind fun v7 =>
          (some (IntKind.i64.wrap (s13 + 1))).bind fun v8 =>
          some (.inl (v7, v8)))
          (some (.inr (.inl s12))))
        BIG (0, 0))
      (fun (s15 : Int) =>
        (some (IntKind.u64.wrap less)).bind fun v23 =>
        (remO v23 2).bind fun v24 =>
        (some (IntKind.i64.wrap v24)).bind fun v25 =>
        bindS (S := Bool) (A := Bool)
          ((some (IntKind.i64.wrap (s15 - v25))).bind fun v26 =>
          cond ((decide (v26 < 1)))
            (some (.inl true))
            (some (.inl ((decide (131072 < s15))))))
          (fun (s27 : Bool) =>
            cond (s27)
              ((wherrylaw18_wakes ).bind fun v32 =>
              some (v32))
              ((some (IntKind.i64.wrap (s15 - v25))).bind fun v33 =>
              (diary_New v33).bind fun v34 =>
              obS v34.1 (fun (v35 : T_diary_Diary) =>
                bindS (S := Bool) (A := Bool)
                  (cond ((v34.2 != 0))
                    (some (.inl true))
                    (some (.inl false)))
                  (fun (s37 : Bool) =>
                    cond (s37)
                      (some (false))
                      (bindS (S := (Int × (List T_Rec) × Int × Int × Int × Int × Bool × Int × Int × Int)) (A := Bool)
                        (loopF (S := (Int × (List T_Rec) × Int × Int × Int × Int × Bool × Int × Int × Int × Int)) (O := (Int × (List T_Rec) × Int × Int × Int × Int × Bool × Int × Int × Int) ⊕ Bool) (fun ((s67, s68, s69, s70, s71, s72, s73, s74, s75, s76, s77) : Int × (List T_Rec) × Int × Int × Int × Int × Bool × Int × Int × Int × Int) =>
                          bindS (S := Bool) (A := ((Int × (List T_Rec) × Int × Int × Int × Int × Bool × Int × Int × Int × Int) ⊕ ((Int × (List T_Rec) × Int × Int × Int × Int × Bool × Int × Int × Int) ⊕ Bool)))
                            (cond ((decide (s77 < (l.length : Int))))
                              (some (.inl (s76 == 0)))
                              (some (.inl false)))
                            (fun (s99 : Bool) =>
                              cond (s99)
                                ((ixO s77 l.length).bind fun v47 =>
                                (getO l v47).bind fun v48 =>
                                (diary_Diary_Put (T_diary_Diary.mk s67 s68 s69 s70 s71 s72 s73 s74 s75) ((T_Rec.mk v48.Kind ((T_Mail.mk (T_Path.mk v48.Mail.From.Null v48.Mail.From.Local v48.Mail.From.Domain) v48.Mail.To v48.Mail.Body v48.Mail.Quiet v48.Mail.Helo v48.Mail.At)) v48.Id v48.Ids v48.Origin v48.Number v48.Offset v48.Data))).bind fun v49 =>
                                (some (IntKind.i64.wrap (s77 + 1))).bind fun v50 =>
                                some (.inl (v49.2.limit, v49.2.recs, v49.2.used, v49.2.safe, v49.2.kept, v49.2.life, v49.2.off, v49.2.trip, v49.2.tripKeep, v49.1, v50)))
                                (some (.inr (.inl (s67, s68, s69, s70, s71, s72, s73, s74, s75, s76))))) some)
                          BIG (v35.limit, v35.recs, v35.used, v35.safe, v35.kept, v35.life, v35.off, v35.trip, v35.tripKeep, 0, 0))
                        (fun ((s83, s84, s85, s86, s87, s88, s89, s90, s91, s92) : Int × (List T_Rec) × Int × Int × Int × Int × Bool × Int × Int × Int) =>
                          cond ((v25 == 1))
                            (bindS (S := Bool) (A := Bool)
                              (cond ((s92 == 8))
                                ((diary_Diary_Len (T_diary_Diary.mk s83 s84 s85 s86 s87 s88 s89 s90 s91)).bind fun v105 =>
                                (some (IntKind.i64.wrap ((l.length : Int) - 1))).bind fun v106 =>
                                cond ((v105.1 == v106))
                                  ((diary_Diary_Renew v105.2 l).bind fun v107 =>
                                  cond ((v107.1 == 8))
                                    ((wherrylaw18_wakes ).bind fun v108 =>
                                    some (.inl v108))
                                    (some (.inl false)))
                                  (some (.inl false)))
                                (some (.inl false)))
                              (fun (s109 : Bool) =>
                                some (s109)) some)
                            (bindS (S := Bool) (A := Bool)
                              (cond ((s92 == 0))
                                ((diary_Diary_Used (T_diary_Diary.mk s83 s84 s85 s86 s87 s88 s89 s90 s91)).bind fun v113 =>
                                cond ((v113.1 == s15))
                                  ((diary_Diary_Put v113.2 ((T_Rec.mk 0 ((T_Mail.mk ((T_Path.mk false (⟨#[]⟩ : ByteArray) (⟨#[]⟩ : ByteArray))) [] [] false (⟨#[]⟩ : ByteArray) 0)) 0 [] 0 0 0 []))).bind fun v114 =>
                                  cond ((v114.1 == 8))
                                    ((diary_Diary_Renew v114.2 l).bind fun v115 =>
                                    cond ((v115.1 == 0))
                                      ((diary_Diary_Safe v115.2).bind fun v116 =>
                                      cond ((v116.1 == (l.length : Int)))
                                        ((wherrylaw18_wakes ).bind fun v117 =>
                                        some (.inl v117))
                                        (some (.inl false)))
                                      (some (.inl false)))
                                    (some (.inl false)))
                                  (some (.inl false)))
                                (some (.inl false)))
                              (fun (s118 : Bool) =>
                                some (s118)) some)) some)) some)
                (bindS (S := Unit) (A := Bool)
                  (cond ((v34.2 != 0))
                    (some (.inl ()))
                    (some (.inl ())))
                  (fun (() : Unit) =>
                    some (false)) some))) some) some)

def diary_Diary_Off (d : T_diary_Diary) : Option (Bool × T_diary_Diary) :=
  some ((d.off, d))

def wherrylaw18_DiaryTwice (l : (List T_Rec)) (keep : Int) (n : Int) : Option Bool :=
  (wherrylaw18_Heavy l).bind fun v1 =>
  cond (v1)
    (some (true))
    ((diary_New 131072).bind fun v3 =>
    obS v3.1 (fun (v4 : T_diary_Diary) =>
      bindS (S := Bool) (A := Bool)
        (cond ((v3.2 != 0))
          (some (.inl true))
          (some (.inl false)))
        (fun (s6 : Bool) =>
          cond (s6)
            (some (false))
            ((some (IntKind.u64.wrap n)).bind fun v11 =>
            (remO v11 4).bind fun v12 =>
            (some (IntKind.i64.wrap v12)).bind fun v13 =>
            bindS (S := (Int × (List T_Rec) × Int × Int × Int × Int × Bool × Int × Int)) (A := Bool)
              (loopF (S := (Int × (List T_Rec) × Int × Int × Int × Int × Bool × Int × Int × Int × Int)) (O := (Int × (List T_Rec) × Int × Int × Int × Int × Bool × Int × Int) ⊕ Bool) (fun ((s118, s119, s120, s121, s122, s123, s124, s125, s126, s127, s128) : Int × (List T_Rec) × Int × Int × Int × Int × Bool × Int × Int × Int × Int) =>
                cond ((decide (s128 < (l.length : Int))))
                  ((ixO s128 l.length).bind fun v15 =>
                  (getO l v15).bind fun v16 =>
                  (diary_Diary_Put (T_diary_Diary.mk s118 s119 s120 s121 s122 s123 s124 s125 s126) ((T_Rec.mk v16.Kind ((T_Mail.mk (T_Path.mk v16.Mail.From.Null v16.Mail.From.Local v16.Mail.From.Domain) v16.Mail.To v16.Mail.Body v16.Mail.Quiet v16.Mail.Helo v16.Mail.At)) v16.Id v16.Ids v16.Origin v16.Number v16.Offset v16.Data))).bind fun v17 =>
                  cond ((v17.1 != 0))
                    ((wherrylaw18_wakes ).bind fun v19 =>
                    some (.inr (.inr (v19))))
                    ((diary_Diary_Crash v17.2 keep).bind fun v20 =>
                    (diary_Diary_Crash v20 keep).bind fun v21 =>
                    (diary_Diary_Start v21).bind fun v22 =>
                    bindS (S := Int) (A := ((Int × (List T_Rec) × Int × Int × Int × Int × Bool × Int × Int × Int × Int) ⊕ ((Int × (List T_Rec) × Int × Int × Int × Int × Bool × Int × Int) ⊕ Bool)))
                      (cond ((decide (0 < keep)))
                        ((some (IntKind.i64.wrap (s127 + 1))).bind fun v24 =>
                        some (.inl v24))
                        (some (.inl s127)))
                      (fun (s186 : Int) =>
                        bindS (S := Int × (List T_Rec) × Int × Int × Int × Int × Bool × Int × Int × Int) (A := ((Int × (List T_Rec) × Int × Int × Int × Int × Bool × Int × Int × Int × Int) ⊕ ((Int × (List T_Rec) × Int × Int × Int × Int × Bool × Int × Int) ⊕ Bool)))
                          ((remO s128 4).bind fun v30 =>
                          cond ((v30 == v13))
                            ((diary_Diary_Sync v22).bind fun v32 =>
                            cond ((v32.1 != 0))
                              (some (.inr (.inr (.inr (false)))))
                              (some (.inl (v32.2.limit, v32.2.recs, v32.2.used, v32.2.safe, v32.2.kept, v32.2.life, v32.2.off, v32.2.trip, v32.2.tripKeep, 0))))
                            (some (.inl (v22.limit, v22.recs, v22.used, v22.safe, v22.kept, v22.life, v22.off, v22.trip, v22.tripKeep, s186))))
                          (fun ((s193, s194, s195, s196, s197, s198, s199, s200, s201, s202) : Int × (List T_Rec) × Int × Int × Int × Int × Bool × Int × Int × Int) =>
                            bindS (S := Int × (List T_Rec) × Int × Int × Int × Int × Bool × Int × Int × Bool) (A := ((Int × (List T_Rec) × Int × Int × Int × Int × Bool × Int × Int × Int × Int) ⊕ ((Int × (List T_Rec) × Int × Int × Int × Int × Bool × Int × Int) ⊕ Bool)))
                              ((diary_Diary_Life (T_diary_Diary.mk s193 s194 s195 s196 s197 s198 s199 s200 s201)).bind fun v49 =>
                              (some (IntKind.i64.wrap (s128 + 1))).bind fun v50 =>
                              cond ((v49.1 != v50))
                                (some (.inl (v49.2.limit, v49.2.recs, v49.2.used, v49.2.safe, v49.2.kept, v49.2.life, v49.2.off, v49.2.trip, v49.2.tripKeep, true)))
                                ((diary_Diary_Kept v49.2).bind fun v51 =>
                                cond ((v51.1 != s202))
                                  (some (.inl (v51.2.limit, v51.2.recs, v51.2.used, v51.2.safe, v51.2.kept, v51.2.life, v51.2.off, v51.2.trip, v51.2.tripKeep, true)))
                                  ((diary_Diary_Off v51.2).bind fun v52 =>
                                  some (.inl (v52.2.limit, v52.2.recs, v52.2.used, v52.2.safe, v52.2.kept, v52.2.life, v52.2.off, v52.2.trip, v52.2.tripKeep, v52.1)))))
                              (fun ((s208, s209, s210, s211, s212, s213, s214, s215, s216, s217) : Int × (List T_Rec) × Int × Int × Int × Int × Bool × Int × Int × Bool) =>
                                cond (s217)
                                  (some (.inr (.inr (false))))
                                  ((some (IntKind.i64.wrap (s128 + 1))).bind fun v67 =>
                                  some (.inl (s208, s209, s210, s211, s212, s213, s214, s215, s216, s202, v67)))) some) some) some))
                  (some (.inr (.inl (s118, s119, s120, s121, s122, s123, s124, s125, s126)))))
                BIG (v4.limit, v4.recs, v4.used, v4.safe, v4.kept, v4.life, v4.off, v4.trip, v4.tripKeep, 0, 0))
              (fun ((s168, s169, s170, s171, s172, s173, s174, s175, s176) : Int × (List T_Rec) × Int × Int × Int × Int × Bool × Int × Int) =>
                bindS (S := Int) (A := Bool)
                  (cond ((decide (0 < keep)))
                    (some (.inl (l.length : Int)))
                    (some (.inl 0)))
                  (fun (s223 : Int) =>
                    bindS (S := Bool) (A := Bool)
                      ((diary_Diary_Len (T_diary_Diary.mk s168 s169 s170 s171 s172 s173 s174 s175 s176)).bind fun v228 =>
                      cond ((v228.1 == s223))
                        ((diary_Diary_Safe v228.2).bind fun v229 =>
                        cond ((v229.1 == s223))
                          ((wherrylaw18_wakes ).bind fun v230 =>
                          some (.inl v230))
                          (some (.inl false)))
                        (some (.inl false)))
                      (fun (s231 : Bool) =>
                        some (s231)) some) some) some)) some)
      (bindS (S := Unit) (A := Bool)
        (cond ((v3.2 != 0))
          (some (.inl ()))
          (some (.inl ())))
        (fun (() : Unit) =>
          some (false)) some))

def wherrylaw18_DiaryRenews (l : (List T_Rec)) (k : (List T_Rec)) (keep : Int) : Option Bool :=
  bindS (S := Bool) (A := Bool)
    ((wherrylaw18_Heavy l).bind fun v1 =>
    cond (v1)
      (some (.inl true))
      ((wherrylaw18_Heavy k).bind fun v2 =>
      some (.inl v2)))
    (fun (s3 : Bool) =>
      cond (s3)
        (some (true))
        ((diary_New 131072).bind fun v8 =>
        obS v8.1 (fun (v9 : T_diary_Diary) =>
          bindS (S := Bool) (A := Bool)
            (cond ((v8.2 != 0))
              (some (.inl true))
              (some (.inl false)))
            (fun (s11 : Bool) =>
              cond (s11)
                (some (false))
                (bindS (S := (Int × (List T_Rec) × Int × Int × Int × Int × Bool × Int × Int)) (A := Bool)
                  (loopF (S := (Int × (List T_Rec) × Int × Int × Int × Int × Bool × Int × Int × Int)) (O := (Int × (List T_Rec) × Int × Int × Int × Int × Bool × Int × Int) ⊕ Bool) (fun ((s35, s36, s37, s38, s39, s40, s41, s42, s43, s44) : Int × (List T_Rec) × Int × Int × Int × Int × Bool × Int × Int × Int) =>
                    cond ((decide (s44 < (l.length : Int))))
                      ((ixO s44 l.length).bind fun v17 =>
                      (getO l v17).bind fun v18 =>
                      (diary_Diary_Put (T_diary_Diary.mk s35 s36 s37 s38 s39 s40 s41 s42 s43) ((T_Rec.mk v18.Kind ((T_Mail.mk (T_Path.mk v18.Mail.From.Null v18.Mail.From.Local v18.Mail.From.Domain) v18.Mail.To v18.Mail.Body v18.Mail.Quiet v18.Mail.Helo v18.Mail.At)) v18.Id v18.Ids v18.Origin v18.Number v18.Offset v18.Data))).bind fun v19 =>
                      cond ((v19.1 != 0))
                        ((wherrylaw18_wakes ).bind fun v21 =>
                        some (.inr (.inr (v21))))
                        ((some (IntKind.i64.wrap (s44 + 1))).bind fun v22 =>
                        some (.inl (v19.2.limit, v19.2.recs, v19.2.used, v19.2.safe, v19.2.kept, v19.2.life, v19.2.off, v19.2.trip, v19.2.tripKeep, v22))))
                      (some (.inr (.inl (s35, s36, s37, s38, s39, s40, s41, s42, s43)))))
                    BIG (v9.limit, v9.recs, v9.used, v9.safe, v9.kept, v9.life, v9.off, v9.trip, v9.tripKeep, 0))
                  (fun ((s47, s48, s49, s50, s51, s52, s53, s54, s55) : Int × (List T_Rec) × Int × Int × Int × Int × Bool × Int × Int) =>
                    (mkO 1 131072 (0 : Int)).bind fun v64 =>
                    bindS (S := Int × (List T_Rec) × Int × Int × Int × Int × Bool × Int × Int × Bool) (A := Bool)
                      ((diary_Diary_Renew (T_diary_Diary.mk s47 s48 s49 s50 s51 s52 s53 s54 s55) ([(T_Rec.mk 0 ((T_Mail.mk ((T_Path.mk false (⟨#[]⟩ : ByteArray) (⟨#[]⟩ : ByteArray))) [] [] false (⟨#[]⟩ : ByteArray) 0)) 0 [] 0 0 0 v64)])).bind fun v65 =>
                      cond ((v65.1 != 8))
                        (some (.inl (v65.2.limit, v65.2.recs, v65.2.used, v65.2.safe, v65.2.kept, v65.2.life, v65.2.off, v65.2.trip, v65.2.tripKeep, true)))
                        ((diary_Diary_Len v65.2).bind fun v66 =>
                        cond ((v66.1 != (l.length : Int)))
                          (some (.inl (v66.2.limit, v66.2.recs, v66.2.used, v66.2.safe, v66.2.kept, v66.2.life, v66.2.off, v66.2.trip, v66.2.tripKeep, true)))
                          ((diary_Diary_Safe v66.2).bind fun v67 =>
                          some (.inl ((v67.2.limit, v67.2.recs, v67.2.used, v67.2.safe, v67.2.kept, v67.2.life, v67.2.off, v67.2.trip, v67.2.tripKeep, (v67.1 != 0)))))))
                      (fun ((s68, s69, s70, s71, s72, s73, s74, s75, s76, s77) : Int × (List T_Rec) × Int × Int × Int × Int × Bool × Int × Int × Bool) =>
                        cond (s77)
                          (some (false))
                          ((diary_Diary_Renew (T_diary_Diary.mk s68 s69 s70 s71 s72 s73 s74 s75 s76) k).bind fun v82 =>
                          cond ((v82.1 != 0))
                            (bindS (S := Bool) (A := Bool)
                              (cond ((v82.1 == 8))
                                ((diary_Diary_Len v82.2).bind fun v84 =>
                                cond ((v84.1 == (l.length : Int)))
                                  ((wherrylaw18_wakes ).bind fun v85 =>
                                  some (.inl v85))
                                  (some (.inl false)))
                                (some (.inl false)))
                              (fun (s86 : Bool) =>
                                some (s86)) some)
                            ((diary_Diary_Crash v82.2 keep).bind fun v90 =>
                            (diary_Diary_Start v90).bind fun v91 =>
                            (diary_Diary_Read v91).bind fun v92 =>
                            bindS (S := Bool) (A := Bool)
                              (cond ((v92.2.1 == 0))
                                ((wherrykeep_Recs v92.1 k).bind fun v93 =>
                                cond (v93)
                                  ((diary_Diary_Safe v92.2.2).bind fun v94 =>
                                  cond ((v94.1 == (k.length : Int)))
                                    ((diary_Diary_Kept v94.2).bind fun v95 =>
                                    cond ((v95.1 == 0))
                                      ((wherrylaw18_wakes ).bind fun v96 =>
                                      some (.inl v96))
                                      (some (.inl false)))
                                    (some (.inl false)))
                                  (some (.inl false)))
                                (some (.inl false)))
                              (fun (s97 : Bool) =>
                                some (s97)) some))) some) some)) some)
          (bindS (S := Unit) (A := Bool)
            (cond ((v8.2 != 0))
              (some (.inl ()))
              (some (.inl ())))
            (fun (() : Unit) =>
              some (false)) some))) some

def wherrykeep_TwinPaths (l : (List T_Path)) : Option (List T_Path) :=
  (appO 40 ([] : List T_Path) l).bind fun v1 =>
  some (v1)

def wherrykeep_Twin (l : (List Int)) : Option (List Int) :=
  (appO 1 ([] : List Int) l).bind fun v1 =>
  some (v1)

def wherrykeep_TwinMail (m : T_Mail) : Option T_Mail :=
  (wherrykeep_TwinPaths m.To).bind fun v1 =>
  (wherrykeep_Twin m.Body).bind fun v2 =>
  some ((T_Mail.mk (T_Path.mk m.From.Null m.From.Local m.From.Domain) v1 v2 m.Quiet m.Helo m.At))

def wherrykeep_TwinInts (l : (List Int)) : Option (List Int) :=
  (appO 8 ([] : List Int) l).bind fun v1 =>
  some (v1)

def wherrykeep_TwinRec (p_r : T_Rec) : Option T_Rec :=
  (wherrykeep_TwinMail ((T_Mail.mk (T_Path.mk p_r.Mail.From.Null p_r.Mail.From.Local p_r.Mail.From.Domain) p_r.Mail.To p_r.Mail.Body p_r.Mail.Quiet p_r.Mail.Helo p_r.Mail.At))).bind fun v1 =>
  (wherrykeep_TwinInts p_r.Ids).bind fun v2 =>
  (wherrykeep_Twin p_r.Data).bind fun v3 =>
  some ((T_Rec.mk p_r.Kind ((T_Mail.mk (T_Path.mk v1.From.Null v1.From.Local v1.From.Domain) v1.To v1.Body v1.Quiet v1.Helo v1.At)) p_r.Id v2 p_r.Origin p_r.Number p_r.Offset v3))

def wherrykeep_TwinRecs (l : (List T_Rec)) : Option (List T_Rec) :=
  bindS (S := ((List T_Rec))) (A := (List T_Rec))
    (loopF (S := ((List T_Rec) × Int)) (O := ((List T_Rec)) ⊕ (List T_Rec)) (fun ((s10, s11) : (List T_Rec) × Int) =>
      cond ((decide (s11 < (l.length : Int))))
        ((ixO s11 l.length).bind fun v2 =>
        (getO l v2).bind fun v3 =>
        (wherrykeep_TwinRec ((T_Rec.mk v3.Kind ((T_Mail.mk (T_Path.mk v3.Mail.From.Null v3.Mail.From.Local v3.Mail.From.Domain) v3.Mail.To v3.Mail.Body v3.Mail.Quiet v3.Mail.Helo v3.Mail.At)) v3.Id v3.Ids v3.Origin v3.Number v3.Offset v3.Data))).bind fun v4 =>
        (appO 208 s10 [(T_Rec.mk v4.Kind ((T_Mail.mk (T_Path.mk v4.Mail.From.Null v4.Mail.From.Local v4.Mail.From.Domain) v4.Mail.To v4.Mail.Body v4.Mail.Quiet v4.Mail.Helo v4.Mail.At)) v4.Id v4.Ids v4.Origin v4.Number v4.Offset v4.Data)]).bind fun v5 =>
        (some (IntKind.i64.wrap (s11 + 1))).bind fun v6 =>
        some (.inl (v5, v6)))
        (some (.inr (.inl s10))))
      BIG ([], 0))
    (fun (s13 : (List T_Rec)) =>
      some (s13)) some

def wherrylaw18_DiarySafe (l : (List T_Rec)) (more : (List T_Rec)) (keep : Int) : Option Bool :=
  bindS (S := Bool) (A := Bool)
    ((wherrylaw18_Heavy l).bind fun v1 =>
    cond (v1)
      (some (.inl true))
      ((wherrylaw18_Heavy more).bind fun v2 =>
      some (.inl v2)))
    (fun (s3 : Bool) =>
      cond (s3)
        (some (true))
        ((diary_New 131072).bind fun v8 =>
        obS v8.1 (fun (v9 : T_diary_Diary) =>
          bindS (S := Bool) (A := Bool)
            (cond ((v8.2 != 0))
              (some (.inl true))
              (some (.inl false)))
            (fun (s11 : Bool) =>
              cond (s11)
                (some (false))
                (bindS (S := (Int × (List T_Rec) × Int × Int × Int × Int × Bool × Int × Int)) (A := Bool)
                  (loopF (S := (Int × (List T_Rec) × Int × Int × Int × Int × Bool × Int × Int × Int)) (O := (Int × (List T_Rec) × Int × Int × Int × Int × Bool × Int × Int) ⊕ Bool) (fun ((s43, s44, s45, s46, s47, s48, s49, s50, s51, s52) : Int × (List T_Rec) × Int × Int × Int × Int × Bool × Int × Int × Int) =>
                    cond ((decide (s52 < (l.length : Int))))
                      ((ixO s52 l.length).bind fun v17 =>
                      (getO l v17).bind fun v18 =>
                      (diary_Diary_Put (T_diary_Diary.mk s43 s44 s45 s46 s47 s48 s49 s50 s51) ((T_Rec.mk v18.Kind ((T_Mail.mk (T_Path.mk v18.Mail.From.Null v18.Mail.From.Local v18.Mail.From.Domain) v18.Mail.To v18.Mail.Body v18.Mail.Quiet v18.Mail.Helo v18.Mail.At)) v18.Id v18.Ids v18.Origin v18.Number v18.Offset v18.Data))).bind fun v19 =>
                      cond ((v19.1 != 0))
                        (bindS (S := Bool) (A := ((Int × (List T_Rec) × Int × Int × Int × Int × Bool × Int × Int × Int) ⊕ ((Int × (List T_Rec) × Int × Int × Int × Int × Bool × Int × Int) ⊕ Bool)))
                          (cond ((v19.1 == 8))
                            ((wherrylaw18_wakes ).bind fun v21 =>
                            some (.inl v21))
                            (some (.inl false)))
                          (fun (s76 : Bool) =>
                            some (.inr (.inr (s76)))) some)
                        ((some (IntKind.i64.wrap (s52 + 1))).bind fun v26 =>
                        some (.inl (v19.2.limit, v19.2.recs, v19.2.used, v19.2.safe, v19.2.kept, v19.2.life, v19.2.off, v19.2.trip, v19.2.tripKeep, v26))))
                      (some (.inr (.inl (s43, s44, s45, s46, s47, s48, s49, s50, s51)))))
                    BIG (v9.limit, v9.recs, v9.used, v9.safe, v9.kept, v9.life, v9.off, v9.trip, v9.tripKeep, 0))
                  (fun ((s59, s60, s61, s62, s63, s64, s65, s66, s67) : Int × (List T_Rec) × Int × Int × Int × Int × Bool × Int × Int) =>
                    bindS (S := Int × (List T_Rec) × Int × Int × Int × Int × Bool × Int × Int × Bool) (A := Bool)
                      ((diary_Diary_Sync (T_diary_Diary.mk s59 s60 s61 s62 s63 s64 s65 s66 s67)).bind fun v80 =>
                      cond ((v80.1 != 0))
                        (some (.inl (v80.2.limit, v80.2.recs, v80.2.used, v80.2.safe, v80.2.kept, v80.2.life, v80.2.off, v80.2.trip, v80.2.tripKeep, true)))
                        ((diary_Diary_Safe v80.2).bind fun v81 =>
                        some (.inl ((v81.2.limit, v81.2.recs, v81.2.used, v81.2.safe, v81.2.kept, v81.2.life, v81.2.off, v81.2.trip, v81.2.tripKeep, (v81.1 != (l.length : Int)))))))
                      (fun ((s82, s83, s84, s85, s86, s87, s88, s89, s90, s91) : Int × (List T_Rec) × Int × Int × Int × Int × Bool × Int × Int × Bool) =>
                        cond (s91)
                          (some (false))
                          (bindS (S := (Int × (List T_Rec) × Int × Int × Int × Int × Bool × Int × Int)) (A := Bool)
                            (loopF (S := (Int × (List T_Rec) × Int × Int × Int × Int × Bool × Int × Int × Int)) (O := (Int × (List T_Rec) × Int × Int × Int × Int × Bool × Int × Int) ⊕ Bool) (fun ((s123, s124, s125, s126, s127, s128, s129, s130, s131, s132) : Int × (List T_Rec) × Int × Int × Int × Int × Bool × Int × Int × Int) =>
                              cond ((decide (s132 < (more.length : Int))))
                                ((ixO s132 more.length).bind fun v97 =>
                                (getO more v97).bind fun v98 =>
                                (diary_Diary_Put (T_diary_Diary.mk s123 s124 s125 s126 s127 s128 s129 s130 s131) ((T_Rec.mk v98.Kind ((T_Mail.mk (T_Path.mk v98.Mail.From.Null v98.Mail.From.Local v98.Mail.From.Domain) v98.Mail.To v98.Mail.Body v98.Mail.Quiet v98.Mail.Helo v98.Mail.At)) v98.Id v98.Ids v98.Origin v98.Number v98.Offset v98.Data))).bind fun v99 =>
                                cond ((v99.1 != 0))
                                  (bindS (S := Bool) (A := ((Int × (List T_Rec) × Int × Int × Int × Int × Bool × Int × Int × Int) ⊕ ((Int × (List T_Rec) × Int × Int × Int × Int × Bool × Int × Int) ⊕ Bool)))
                                    (cond ((v99.1 == 8))
                                      ((wherrylaw18_wakes ).bind fun v101 =>
                                      some (.inl v101))
                                      (some (.inl false)))
                                    (fun (s156 : Bool) =>
                                      some (.inr (.inr (s156)))) some)
                                  ((some (IntKind.i64.wrap (s132 + 1))).bind fun v106 =>
                                  some (.inl (v99.2.limit, v99.2.recs, v99.2.used, v99.2.safe, v99.2.kept, v99.2.life, v99.2.off, v99.2.trip, v99.2.tripKeep, v106))))
                                (some (.inr (.inl (s123, s124, s125, s126, s127, s128, s129, s130, s131)))))
                              BIG (s82, s83, s84, s85, s86, s87, s88, s89, s90, 0))
                            (fun ((s139, s140, s141, s142, s143, s144, s145, s146, s147) : Int × (List T_Rec) × Int × Int × Int × Int × Bool × Int × Int) =>
                              (some (if 0 > keep then 0 else keep)).bind fun v160 =>
                              (some (if (more.length : Int) < v160 then (more.length : Int) else v160)).bind fun v161 =>
                              (diary_Diary_Crash (T_diary_Diary.mk s139 s140 s141 s142 s143 s144 s145 s146 s147) keep).bind fun v162 =>
                              (diary_Diary_Read v162).bind fun v163 =>
                              bindS (S := Int × (List T_Rec) × Int × Int × Int × Int × Bool × Int × Int × Bool) (A := Bool)
                                (cond ((v163.2.1 != 7))
                                  (some (.inl (v163.2.2.limit, v163.2.2.recs, v163.2.2.used, v163.2.2.safe, v163.2.2.kept, v163.2.2.life, v163.2.2.off, v163.2.2.trip, v163.2.2.tripKeep, true)))
                                  ((diary_Diary_Put v163.2.2 ((T_Rec.mk 0 ((T_Mail.mk ((T_Path.mk false (⟨#[]⟩ : ByteArray) (⟨#[]⟩ : ByteArray))) [] [] false (⟨#[]⟩ : ByteArray) 0)) 0 [] 0 0 0 []))).bind fun v164 =>
                                  cond ((v164.1 != 7))
                                    (some (.inl (v164.2.limit, v164.2.recs, v164.2.used, v164.2.safe, v164.2.kept, v164.2.life, v164.2.off, v164.2.trip, v164.2.tripKeep, true)))
                                    ((diary_Diary_Sync v164.2).bind fun v165 =>
                                    cond ((v165.1 != 7))
                                      (some (.inl (v165.2.limit, v165.2.recs, v165.2.used, v165.2.safe, v165.2.kept, v165.2.life, v165.2.off, v165.2.trip, v165.2.tripKeep, true)))
                                      ((diary_Diary_Renew v165.2 []).bind fun v166 =>
                                      some (.inl ((v166.2.limit, v166.2.recs, v166.2.used, v166.2.safe, v166.2.kept, v166.2.life, v166.2.off, v166.2.trip, v166.2.tripKeep, (v166.1 != 7))))))))
                                (fun ((s167, s168, s169, s170, s171, s172, s173, s174, s175, s176) : Int × (List T_Rec) × Int × Int × Int × Int × Bool × Int × Int × Bool) =>
                                  cond (s176)
                                    (some (false))
                                    ((diary_Diary_Start (T_diary_Diary.mk s167 s168 s169 s170 s171 s172 s173 s174 s175)).bind fun v181 =>
                                    (diary_Diary_Read v181).bind fun v182 =>
                                    bindS (S := Bool) (A := Bool)
                                      (cond ((v182.2.1 == 0))
                                        ((wherrykeep_TwinRecs l).bind fun v183 =>
                                        (sliO more 0 v161).bind fun v184 =>
                                        (appO 208 v183 v184).bind fun v185 =>
                                        (wherrykeep_Recs v182.1 v185).bind fun v186 =>
                                        cond (v186)
                                          ((diary_Diary_Kept v182.2.2).bind fun v187 =>
                                          cond ((v187.1 == v161))
                                            ((diary_Diary_Safe v187.2).bind fun v188 =>
                                            (some (IntKind.i64.wrap ((l.length : Int) + v161))).bind fun v189 =>
                                            cond ((v188.1 == v189))
                                              ((wherrylaw18_wakes ).bind fun v190 =>
                                              some (.inl v190))
                                              (some (.inl false)))
                                            (some (.inl false)))
                                          (some (.inl false)))
                                        (some (.inl false)))
                                      (fun (s191 : Bool) =>
                                        some (s191)) some)) some) some)) some) some)) some)
          (bindS (S := Unit) (A := Bool)
            (cond ((v8.2 != 0))
              (some (.inl ()))
              (some (.inl ())))
            (fun (() : Unit) =>
              some (false)) some))) some

end Go.Abs.Sh
