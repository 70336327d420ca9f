/-
 The program told in Lean: plain functions; none where Go would panic or a slice outgrow its room.
-/
import Derived.Test.YthhebpiaknfnhaaDoorAN
set_option linter.unusedVariables false
namespace Go.Abs.Sh

structure T_Path where
 Null : Bool
 Local : ByteArray
 Domain : ByteArray
 deriving DecidableEq, Inhabited
def T_Path.enc (x : T_Path) : List Value := [.bool x.Null, .string x.Local, .string x.Domain]
theorem T_Path.len (x : T_Path) : (T_Path.enc x).length = 3 := rfl
def T_Path.wf (x : T_Path) : Prop := True ∧ wfS x.Local ∧ wfS x.Domain
def T_Path.wz (x : T_Path) : Prop := True ∧ wzS x.Local ∧ wzS x.Domain

structure T_Mail where
 From : T_Path
 To : (List T_Path)
 Body : (List Int)
 Quiet : Bool
 Helo : ByteArray
 At : Int
 deriving DecidableEq, Inhabited
def T_Mail.ienc (x : T_Mail) : List IC := [.v (.bool x.From.Null), .v (.string x.From.Local), .v (.string x.From.Domain), .row 3 (List.map IC.v (List.flatten (List.map T_Path.enc x.To))), .row 1 (List.map IC.v (List.map (Value.int .u8) x.Body)), .v (.bool x.Quiet), .v (.string x.Helo), .v (.int .i64 x.At)]
theorem T_Mail.ilen (x : T_Mail) : (T_Mail.ienc x).length = 8 := rfl
def T_Mail.wf (x : T_Mail) : Prop := T_Path.wf x.From ∧ wfL T_Path.wf x.To ∧ wfL (wfI .u8) x.Body ∧ True ∧ wfS x.Helo ∧ wfI .i64 x.At
def T_Mail.wz (x : T_Mail) : Prop := T_Path.wz x.From ∧ (wzL 40 T_Path.wz) x.To ∧ (wzL 1 (wfI .u8)) x.Body ∧ True ∧ wzS x.Helo ∧ (wfI .i64) x.At

structure T_Rec where
 Kind : Int
 Mail : T_Mail
 Id : Int
 Ids : (List Int)
 Origin : Int
 Number : Int
 Offset : Int
 Data : (List Int)
 deriving DecidableEq, Inhabited
def T_Rec.ienc (x : T_Rec) : List IC := [.v (.int .i64 x.Kind), .v (.bool x.Mail.From.Null), .v (.string x.Mail.From.Local), .v (.string x.Mail.From.Domain), .row 3 (List.map IC.v (List.flatten (List.map T_Path.enc x.Mail.To))), .row 1 (List.map IC.v (List.map (Value.int .u8) x.Mail.Body)), .v (.bool x.Mail.Quiet), .v (.string x.Mail.Helo), .v (.int .i64 x.Mail.At), .v (.int .i64 x.Id), .row 1 (List.map IC.v (List.map (Value.int .i64) x.Ids)), .v (.int .i64 x.Origin), .v (.int .i64 x.Number), .v (.int .i64 x.Offset), .row 1 (List.map IC.v (List.map (Value.int .u8) x.Data))]
theorem T_Rec.ilen (x : T_Rec) : (T_Rec.ienc x).length = 15 := rfl
def T_Rec.wf (x : T_Rec) : Prop := wfI .i64 x.Kind ∧ T_Mail.wf x.Mail ∧ wfI .i64 x.Id ∧ wfL (wfI .i64) x.Ids ∧ wfI .i64 x.Origin ∧ wfI .i64 x.Number ∧ wfI .i64 x.Offset ∧ wfL (wfI .u8) x.Data
def T_Rec.wz (x : T_Rec) : Prop := (wfI .i64) x.Kind ∧ T_Mail.wz x.Mail ∧ (wfI .i64) x.Id ∧ (wzL 8 (wfI .i64)) x.Ids ∧ (wfI .i64) x.Origin ∧ (wfI .i64) x.Number ∧ (wfI .i64) x.Offset ∧ (wzL 1 (wfI .u8)) x.Data

structure T_Take where
 Open : Bool
 Number : Int
 Total : Int
 deriving DecidableEq, Inhabited
def T_Take.enc (x : T_Take) : List Value := [.bool x.Open, .int .i64 x.Number, .int .i64 x.Total]
theorem T_Take.len (x : T_Take) : (T_Take.enc x).length = 3 := rfl
def T_Take.wf (x : T_Take) : Prop := True ∧ wfI .i64 x.Number ∧ wfI .i64 x.Total
def T_Take.wz (x : T_Take) : Prop := True ∧ (wfI .i64) x.Number ∧ (wfI .i64) x.Total

structure T_Item where
 Id : Int
 Mail : T_Mail
 State : Int
 Pack : Int
 deriving DecidableEq, Inhabited
def T_Item.ienc (x : T_Item) : List IC := [.v (.int .i64 x.Id), .v (.bool x.Mail.From.Null), .v (.string x.Mail.From.Local), .v (.string x.Mail.From.Domain), .row 3 (List.map IC.v (List.flatten (List.map T_Path.enc x.Mail.To))), .row 1 (List.map IC.v (List.map (Value.int .u8) x.Mail.Body)), .v (.bool x.Mail.Quiet), .v (.string x.Mail.Helo), .v (.int .i64 x.Mail.At), .v (.int .i64 x.State), .v (.int .i64 x.Pack)]
theorem T_Item.ilen (x : T_Item) : (T_Item.ienc x).length = 11 := rfl
def T_Item.wf (x : T_Item) : Prop := wfI .i64 x.Id ∧ T_Mail.wf x.Mail ∧ wfI .i64 x.State ∧ wfI .i64 x.Pack
def T_Item.wz (x : T_Item) : Prop := (wfI .i64) x.Id ∧ T_Mail.wz x.Mail ∧ (wfI .i64) x.State ∧ (wfI .i64) x.Pack

structure T_Spool where
 Items : (List T_Item)
 Packs : Int
 Sent : (List Int)
 Part : (List Int)
 Of : Int
 Done : (List Int)
 deriving DecidableEq, Inhabited
def T_Spool.ienc (x : T_Spool) : List IC := [.row 11 (List.flatten (List.map T_Item.ienc x.Items)), .v (.int .i64 x.Packs), .row 1 (List.map IC.v (List.map (Value.int .i64) x.Sent)), .row 1 (List.map IC.v (List.map (Value.int .u8) x.Part)), .v (.int .i64 x.Of), .row 1 (List.map IC.v (List.map (Value.int .i64) x.Done))]
theorem T_Spool.ilen (x : T_Spool) : (T_Spool.ienc x).length = 6 := rfl
def T_Spool.wf (x : T_Spool) : Prop := wfL T_Item.wf x.Items ∧ wfI .i64 x.Packs ∧ wfL (wfI .i64) x.Sent ∧ wfL (wfI .u8) x.Part ∧ wfI .i64 x.Of ∧ wfL (wfI .i64) x.Done
def T_Spool.wz (x : T_Spool) : Prop := (wzL 144 T_Item.wz) x.Items ∧ (wfI .i64) x.Packs ∧ (wzL 8 (wfI .i64)) x.Sent ∧ (wzL 1 (wfI .u8)) x.Part ∧ (wfI .i64) x.Of ∧ (wzL 8 (wfI .i64)) x.Done

structure T_Frame where
 Kind : Int
 Number : Int
 Offset : Int
 Seq : Int
 Data : (List Int)
 deriving DecidableEq, Inhabited
def T_Frame.ienc (x : T_Frame) : List IC := [.v (.int .i64 x.Kind), .v (.int .i64 x.Number), .v (.int .i64 x.Offset), .v (.int .i64 x.Seq), .row 1 (List.map IC.v (List.map (Value.int .u8) x.Data))]
theorem T_Frame.ilen (x : T_Frame) : (T_Frame.ienc x).length = 5 := rfl
def T_Frame.wf (x : T_Frame) : Prop := wfI .i64 x.Kind ∧ wfI .i64 x.Number ∧ wfI .i64 x.Offset ∧ wfI .i64 x.Seq ∧ wfL (wfI .u8) x.Data
def T_Frame.wz (x : T_Frame) : Prop := (wfI .i64) x.Kind ∧ (wfI .i64) x.Number ∧ (wfI .i64) x.Offset ∧ (wfI .i64) x.Seq ∧ (wzL 1 (wfI .u8)) x.Data

structure T_taker_result where
 take : T_Take
 recs : (List T_Rec)
 out : (List T_Frame)
 deriving DecidableEq, Inhabited
def T_taker_result.ienc (x : T_taker_result) : List IC := [.v (.bool x.take.Open), .v (.int .i64 x.take.Number), .v (.int .i64 x.take.Total), .row 15 (List.flatten (List.map T_Rec.ienc x.recs)), .row 5 (List.flatten (List.map T_Frame.ienc x.out))]
theorem T_taker_result.ilen (x : T_taker_result) : (T_taker_result.ienc x).length = 5 := rfl
def T_taker_result.wf (x : T_taker_result) : Prop := T_Take.wf x.take ∧ wfL T_Rec.wf x.recs ∧ wfL T_Frame.wf x.out
def T_taker_result.wz (x : T_taker_result) : Prop := T_Take.wz x.take ∧ (wzL 208 T_Rec.wz) x.recs ∧ (wzL 56 T_Frame.wz) x.out

def wherrylaw17_Heavy (l : (List T_Mail)) : Option Bool :=
 cond ((decide (20 < (l.length : Int))))
  (some (true))
  (bindS (S := (Int)) (A := Bool)
   (loopF (S := (Int × Int)) (O := (Int) ⊕ Bool) (fun ((s66, s67) : Int × Int) =>
    cond ((decide (s67 < (l.length : Int))))
     ((ixO s67 l.length).bind fun v3 =>
     (getO l v3).bind fun v4 =>
     (some (IntKind.i64.wrap (s66 + (v4.Body.length : Int)))).bind fun v5 =>
     (ixO s67 l.length).bind fun v6 =>
     (getO l v6).bind fun v7 =>
     (some (IntKind.i64.wrap (v5 + (v7.Helo.size : Int)))).bind fun v8 =>
     (ixO s67 l.length).bind fun v9 =>
     (getO l v9).bind fun v10 =>
     (some (IntKind.i64.wrap (v8 + (v10.From.Local.size : Int)))).bind fun v11 =>
     (ixO s67 l.length).bind fun v12 =>
     (getO l v12).bind fun v13 =>
     (some (IntKind.i64.wrap (v11 + (v13.From.Domain.size : Int)))).bind fun v14 =>
     (ixO s67 l.length).bind fun v15 =>
     (getO l v15).bind fun v16 =>
     cond ((decide (40 < (v16.To.length : Int))))
      (some (.inr (.inr (true))))
      (bindS (S := (Int)) (A := ((Int × Int) ⊕ ((Int) ⊕ Bool)))
       (loopF (S := (Int × Int)) (O := (Int) ⊕ ((Int × Int) ⊕ ((Int) ⊕ Bool))) (fun ((s98, s99) : Int × Int) =>
        (ixO s67 l.length).bind fun v18 =>
        (getO l v18).bind fun v19 =>
        cond ((decide (s99 < (v19.To.length : Int))))
         ((ixO s67 l.length).bind fun v21 =>
         (getO l v21).bind fun v22 =>
         (ixO s99 v22.To.length).bind fun v23 =>
         (getO v22.To v23).bind fun v24 =>
         (some (IntKind.i64.wrap (s98 + (v24.Local.size : Int)))).bind fun v25 =>
         (ixO s67 l.length).bind fun v26 =>
         (getO l v26).bind fun v27 =>
         (ixO s99 v27.To.length).bind fun v28 =>
         (getO v27.To v28).bind fun v29 =>
         (some (IntKind.i64.wrap (v25 + (v29.Domain.size : Int)))).bind fun v30 =>
         (some (IntKind.i64.wrap (s99 + 1))).bind fun v31 =>
         some (.inl (v30, v31)))
         (some (.inr (.inl s98))))
        BIG (v14, 0))
       (fun (s101 : Int) =>
        (some (IntKind.i64.wrap (s67 + 1))).bind fun v46 =>
        some (.inl (s101, v46))) some))
     (some (.inr (.inl s66))))
    BIG (0, 0))
   (fun (s85 : Int) =>
    some ((decide (20000 < s85)))) some)

def wherrylaw18_Heavy (l : (List T_Rec)) : Option Bool :=
 cond ((decide (60 < (l.length : Int))))
  (some (true))
  (bindS (S := (Unit)) (A := Bool)
   (loopF (S := (Int)) (O := (Unit) ⊕ Bool) (fun (s23 : Int) =>
    cond ((decide (s23 < (l.length : Int))))
     (bindS (S := Bool) (A := ((Int) ⊕ ((Unit) ⊕ Bool)))
      ((ixO s23 l.length).bind fun v3 =>
      (getO l v3).bind fun v4 =>
      cond ((decide (600 < (v4.Data.length : Int))))
       (some (.inl true))
       ((ixO s23 l.length).bind fun v5 =>
       (getO l v5).bind fun v6 =>
       cond ((decide (60 < (v6.Ids.length : Int))))
        (some (.inl true))
        ((ixO s23 l.length).bind fun v7 =>
        (getO l v7).bind fun v8 =>
        (wherrylaw17_Heavy [(T_Mail.mk (T_Path.mk v8.Mail.From.Null v8.Mail.From.Local v8.Mail.From.Domain) v8.Mail.To v8.Mail.Body v8.Mail.Quiet v8.Mail.Helo v8.Mail.At)]).bind fun v9 =>
        some (.inl v9))))
      (fun (s37 : Bool) =>
       cond (s37)
        (some (.inr (.inr (true))))
        ((some (IntKind.i64.wrap (s23 + 1))).bind fun v15 =>
        some (.inl v15))) some)
     (some (.inr (.inl ()))))
    BIG 0)
   (fun (() : Unit) =>
    some (false)) some)

def spool_New : Option T_Spool :=
 some ((T_Spool.mk [] 0 [] [] (-1) []))

def spool_rest_sh (p_r : T_Rec) : Option T_Rec :=
 bindS (S := Bool × ByteArray × ByteArray × (List T_Path) × (List Int) × Bool × ByteArray × Int × Int × (List Int) × Int × Int × Int × (List Int)) (A := T_Rec)
  (bindS (S := Bool × ByteArray × ByteArray × (List T_Path) × (List Int) × Bool × ByteArray × Int × Int × (List Int) × Int × Int × Int × (List Int)) (A := ((Bool × ByteArray × ByteArray × (List T_Path) × (List Int) × Bool × ByteArray × Int × Int × (List Int) × Int × Int × Int × (List Int)) ⊕ T_Rec))
   (cond ((p_r.Kind == 1))
    (some (.inl ((false, (⟨#[]⟩ : ByteArray), (⟨#[]⟩ : ByteArray), [], [], false, (⟨#[]⟩ : ByteArray), 0, 0, p_r.Ids, 0, p_r.Number, p_r.Offset, p_r.Data))))
    (cond ((p_r.Kind == 2))
     (some (.inl (p_r.Mail.From.Null, p_r.Mail.From.Local, p_r.Mail.From.Domain, p_r.Mail.To, p_r.Mail.Body, p_r.Mail.Quiet, p_r.Mail.Helo, p_r.Mail.At, p_r.Id, [], p_r.Origin, 0, p_r.Offset, p_r.Data)))
     (bindS (S := Bool) (A := ((Bool × ByteArray × ByteArray × (List T_Path) × (List Int) × Bool × ByteArray × Int × Int × (List Int) × Int × Int × Int × (List Int)) ⊕ ((Bool × ByteArray × ByteArray × (List T_Path) × (List Int) × Bool × ByteArray × Int × Int × (List Int) × Int × Int × Int × (List Int)) ⊕ T_Rec)))
      (cond ((p_r.Kind == 3))
       (some (.inl (p_r.Kind == 3)))
       (some (.inl (p_r.Kind == 6))))
      (fun (s88 : Bool) =>
       cond (s88)
        (some (.inl (p_r.Mail.From.Null, p_r.Mail.From.Local, p_r.Mail.From.Domain, p_r.Mail.To, p_r.Mail.Body, p_r.Mail.Quiet, p_r.Mail.Helo, p_r.Mail.At, p_r.Id, p_r.Ids, p_r.Origin, 0, p_r.Offset, p_r.Data)))
        (cond ((p_r.Kind == 4))
         (some (.inl (p_r.Mail.From.Null, p_r.Mail.From.Local, p_r.Mail.From.Domain, p_r.Mail.To, p_r.Mail.Body, p_r.Mail.Quiet, p_r.Mail.Helo, p_r.Mail.At, 0, p_r.Ids, p_r.Origin, p_r.Number, p_r.Offset, p_r.Data)))
         (cond ((p_r.Kind == 5))
          (some (.inl (p_r.Mail.From.Null, p_r.Mail.From.Local, p_r.Mail.From.Domain, p_r.Mail.To, p_r.Mail.Body, p_r.Mail.Quiet, p_r.Mail.Helo, p_r.Mail.At, p_r.Id, p_r.Ids, p_r.Origin, 0, 0, [])))
          (some (.inl (p_r.Mail.From.Null, p_r.Mail.From.Local, p_r.Mail.From.Domain, p_r.Mail.To, p_r.Mail.Body, p_r.Mail.Quiet, p_r.Mail.Helo, p_r.Mail.At, p_r.Id, p_r.Ids, p_r.Origin, p_r.Number, p_r.Offset, p_r.Data)))))) some)))
   (fun ((s68, s69, s70, s71, s72, s73, s74, s75, s76, s77, s78, s79, s80, s81) : Bool × ByteArray × ByteArray × (List T_Path) × (List Int) × Bool × ByteArray × Int × Int × (List Int) × Int × Int × Int × (List Int)) =>
    some (.inl (s68, s69, s70, s71, s72, s73, s74, s75, s76, s77, s78, s79, s80, s81))) some)
  (fun ((s40, s41, s42, s43, s44, s45, s46, s47, s48, s49, s50, s51, s52, s53) : Bool × ByteArray × ByteArray × (List T_Path) × (List Int) × Bool × ByteArray × Int × Int × (List Int) × Int × Int × Int × (List Int)) =>
   some ((T_Rec.mk 0 ((T_Mail.mk (T_Path.mk s40 s41 s42) s43 s44 s45 s46 s47)) s48 s49 s50 s51 s52 s53))) some

def spool_empty (p_r : T_Rec) : Option Bool :=
 bindS (S := Bool) (A := Bool)
  (cond (((p_r.Mail.From.Null == false) && ((p_r.Mail.From.Local.toList == (⟨#[]⟩ : ByteArray).toList) && ((p_r.Mail.From.Domain.toList == (⟨#[]⟩ : ByteArray).toList) && true))))
   (cond (((p_r.Mail.To.length : Int) == 0))
    (cond (((p_r.Mail.Body.length : Int) == 0))
     (cond ((!p_r.Mail.Quiet))
      (cond ((p_r.Mail.Helo.toList == (⟨#[]⟩ : ByteArray).toList))
       (some (.inl (p_r.Mail.At == 0)))
       (some (.inl false)))
      (some (.inl false)))
     (some (.inl false)))
    (some (.inl false)))
   (some (.inl false)))
  (fun (s1 : Bool) =>
   bindS (S := Bool) (A := Bool)
    (cond (s1)
     (cond ((p_r.Kind == 0))
      (cond ((p_r.Id == 0))
       (cond (((p_r.Ids.length : Int) == 0))
        (cond ((p_r.Origin == 0))
         (cond ((p_r.Number == 0))
          (cond ((p_r.Offset == 0))
           (some (.inl (((p_r.Data.length : Int) == 0))))
           (some (.inl false)))
          (some (.inl false)))
         (some (.inl false)))
        (some (.inl false)))
       (some (.inl false)))
      (some (.inl false)))
     (some (.inl false)))
    (fun (s5 : Bool) =>
     some (s5)) some) some

def strings_splitSeq (s : ByteArray) (sep : ByteArray) (sepSave : Int) : Option (ByteArray × ByteArray × Int) :=
 some ((sep, s, sepSave))

def strings_SplitSeq (s : ByteArray) (sep : ByteArray) : Option (ByteArray × ByteArray × Int) :=
 (strings_splitSeq s sep 0).bind fun v1 =>
 some ((v1.1, v1.2.1, v1.2.2))

set_option maxRecDepth 100000 in
def utf8_first : List Int := (240 :: 240 :: 240 :: 240 :: 240 :: 240 :: 240 :: 240 :: 240 :: 240 :: 240 :: 240 :: 240 :: 240 :: 240 :: 240 :: 240 :: 240 :: 240 :: 240 :: 240 :: 240 :: 240 :: 240 :: 240 :: 240 :: 240 :: 240 :: 240 :: 240 :: 240 :: 240 :: 240 :: 240 :: 240 :: 240 :: 240 :: 240 :: 240 :: 240 :: 240 :: 240 :: 240 :: 240 :: 240 :: 240 :: 240 :: 240 :: 240 :: 240 :: 240 :: 240 :: 240 :: 240 :: 240 :: 240 :: 240 :: 240 :: 240 :: 240 :: 240 :: 240 :: 240 :: 240 :: 240 :: 240 :: 240 :: 240 :: 240 :: 240 :: 240 :: 240 :: 240 :: 240 :: 240 :: 240 :: 240 :: 240 :: 240 :: 240 :: 240 :: 240 :: 240 :: 240 :: 240 :: 240 :: 240 :: 240 :: 240 :: 240 :: 240 :: 240 :: 240 :: 240 :: 240 :: 240 :: 240 :: 240 :: 240 :: 240 :: 240 :: 240 :: 240 :: 240 :: 240 :: 240 :: 240 :: 240 :: 240 :: 240 :: 240 :: 240 :: 240 :: 240 :: 240 :: 240 :: 240 :: 240 :: 240 :: 240 :: 240 :: 240 :: 240 :: 240 :: 240 :: 240 :: 240 :: 240 :: 241 :: 241 :: 241 :: 241 :: 241 :: 241 :: 241 :: 241 :: 241 :: 241 :: 241 :: 241 :: 241 :: 241 :: 241 :: 241 :: 241 :: 241 :: 241 :: 241 :: 241 :: 241 :: 241 :: 241 :: 241 :: 241 :: 241 :: 241 :: 241 :: 241 :: 241 :: 241 :: 241 :: 241 :: 241 :: 241 :: 241 :: 241 :: 241 :: 241 :: 241 :: 241 :: 241 :: 241 :: 241 :: 241 :: 241 :: 241 :: 241 :: 241 :: 241 :: 241 :: 241 :: 241 :: 241 :: 241 :: 241 :: 241 :: 241 :: 241 :: 241 :: 241 :: 241 :: 241 :: 241 :: 241 :: 2 :: 2 :: 2 :: 2 :: 2 :: 2 :: 2 :: 2 :: 2 :: 2 :: 2 :: 2 :: 2 :: 2 :: 2 :: 2 :: 2 :: 2 :: 2 :: 2 :: 2 :: 2 :: 2 :: 2 :: 2 :: 2 :: 2 :: 2 :: 2 :: 2 :: 19 :: 3 :: 3 :: 3 :: 3 :: 3 :: 3 :: 3 :: 3 :: 3 :: 3 :: 3 :: 3 :: 35 :: 3 :: 3 :: 52 :: 4 :: 4 :: 4 :: 68 :: 241 :: 241 :: 241 :: 241 :: 241 :: 241 :: 241 :: 241 :: 241 :: 241 :: 241 :: [])

set_option maxRecDepth 100000 in
def utf8_accept : List Int := (128 :: 191 :: 160 :: 191 :: 128 :: 159 :: 144 :: 191 :: 128 :: 143 :: 0 :: 0 :: 0 :: 0 :: 0 :: 0 :: 0 :: 0 :: 0 :: 0 :: 0 :: 0 :: 0 :: 0 :: 0 :: 0 :: 0 :: 0 :: 0 :: 0 :: 0 :: 0 :: [])

def unicode_utf8_decodeRuneInStringSlow (s : ByteArray) : Option (Int × Int) :=
 cond ((decide ((s.size : Int) < 1)))
  (some ((65533, 0)))
  ((chrO s 0).bind fun v2 =>
  (ixO v2 256).bind fun v3 =>
  (getO utf8_first (0 + v3 * 1)).bind fun v4 =>
  cond ((decide (240 ≤ v4)))
   ((some (IntKind.i32.wrap v4)).bind fun v6 =>
   (shlO .i32 v6 31).bind fun v7 =>
   (shrO .i32 v7 31).bind fun v8 =>
   (chrO s 0).bind fun v9 =>
   (some (IntKind.i32.wrap v9)).bind fun v10 =>
   (some (bits .andNot .i32 v10 v8)).bind fun v11 =>
   (some (bits .and .i32 65533 v8)).bind fun v12 =>
   (some (bits .or .i32 v11 v12)).bind fun v13 =>
   some ((v13, 1)))
   (none))

def unicode_utf8_DecodeRuneInString (s : ByteArray) : Option (Int × Int) :=
 bindS (S := Bool) (A := (Int × Int))
  (cond ((!(s.toList == (⟨#[]⟩ : ByteArray).toList)))
   ((chrO s 0).bind fun v1 =>
   some (.inl ((decide (v1 < 128)))))
   (some (.inl false)))
  (fun (s2 : Bool) =>
   cond (s2)
    ((chrO s 0).bind fun v7 =>
    (some (IntKind.i32.wrap v7)).bind fun v8 =>
    some ((v8, 1)))
    ((unicode_utf8_decodeRuneInStringSlow s).bind fun v9 =>
    some ((v9.1, v9.2)))) some

def strings_splitSeq_1 {S : Type} (Y : ByteArray → S → Option (S × Bool)) (c0 : ByteArray) (c1 : ByteArray) (c2 : Int) (st : S) : Option S :=
 cond (((c0.size : Int) == 0))
  (bindS (S := (S)) (A := S)
   (loopF (S := (ByteArray × S)) (O := (S) ⊕ S) (fun ((s12, s13) : ByteArray × S) =>
    cond ((decide (0 < (s12.size : Int))))
     ((unicode_utf8_DecodeRuneInString s12).bind fun v3 =>
     (subO s12 0 v3.2).bind fun v4 =>
     (Y v4 s13).bind fun v5 =>
     cond ((!v5.2))
      (some (.inr (.inr (v5.1))))
      ((subO s12 v3.2 (s12.size : Int)).bind fun v7 =>
      some (.inl (v7, v5.1))))
     (some (.inr (.inl s13))))
    BIG (c1, st))
   (fun (s16 : S) =>
    some (s16)) some)
  (bindS (S := (ByteArray × S)) (A := S)
   (loopF (S := (ByteArray × S)) (O := (ByteArray × S) ⊕ S) (fun ((s37, s38) : ByteArray × S) =>
    (strings_Index s37 c0).bind fun v25 =>
    cond ((decide (v25 < 0)))
     (some (.inr (.inl (s37, s38))))
     ((some (IntKind.i64.wrap (v25 + c2))).bind fun v27 =>
     (subO s37 0 v27).bind fun v28 =>
     (Y v28 s38).bind fun v29 =>
     cond ((!v29.2))
      (some (.inr (.inr (v29.1))))
      ((some (IntKind.i64.wrap (v25 + (c0.size : Int)))).bind fun v31 =>
      (subO s37 v31 (s37.size : Int)).bind fun v32 =>
      some (.inl (v32, v29.1)))))
    BIG (c1, st))
   (fun ((s41, s42) : ByteArray × S) =>
    (Y s41 s42).bind fun v51 =>
    some (v51.1)) some)

def path_alphanumeric (c : Int) : Option Bool :=
 bindS (S := Bool) (A := Bool)
  (cond ((decide (48 ≤ c)))
   (cond ((decide (c ≤ 57)))
    (some (.inl true))
    (cond ((decide (65 ≤ c)))
     (cond ((decide (c ≤ 90)))
      (some (.inl true))
      (cond ((decide (97 ≤ c)))
       (some (.inl ((decide (c ≤ 122)))))
       (some (.inl false))))
     (cond ((decide (97 ≤ c)))
      (some (.inl ((decide (c ≤ 122)))))
      (some (.inl false)))))
   (cond ((decide (65 ≤ c)))
    (cond ((decide (c ≤ 90)))
     (some (.inl true))
     (cond ((decide (97 ≤ c)))
      (some (.inl ((decide (c ≤ 122)))))
      (some (.inl false))))
    (cond ((decide (97 ≤ c)))
     (some (.inl ((decide (c ≤ 122)))))
     (some (.inl false)))))
  (fun (s1 : Bool) =>
   some (s1)) some

def path_atom_1 (c : Int) : Option Bool :=
 bindS (S := Bool) (A := Bool)
  ((path_alphanumeric c).bind fun v1 =>
  cond (v1)
   (some (.inl true))
   ((strings_IndexByte (⟨#[33, 35, 36, 37, 38, 39, 42, 43, 45, 47, 61, 63, 94, 95, 96, 123, 124, 125, 126]⟩ : ByteArray) c).bind fun v2 =>
   some (.inl ((decide (0 ≤ v2))))))
  (fun (s3 : Bool) =>
   some (s3)) some

def path_all_of_path_atom_1 (s : ByteArray) : Option Bool :=
 bindS (S := (Unit)) (A := Bool)
  (loopF (S := (Int)) (O := (Unit) ⊕ Bool) (fun (s9 : Int) =>
   cond ((decide (s9 < (s.size : Int))))
    ((chrO s s9).bind fun v2 =>
    (path_atom_1 v2).bind fun v3 =>
    cond ((!v3))
     (some (.inr (.inr (false))))
     ((some (IntKind.i64.wrap (s9 + 1))).bind fun v5 =>
     some (.inl v5)))
    (some (.inr (.inl ()))))
   BIG 0)
  (fun (() : Unit) =>
   some (true)) some

def path_atom (s : ByteArray) : Option Bool :=
 bindS (S := Bool) (A := Bool)
  (cond ((!(s.toList == (⟨#[]⟩ : ByteArray).toList)))
   ((path_all_of_path_atom_1 s).bind fun v1 =>
   some (.inl v1))
   (some (.inl false)))
  (fun (s2 : Bool) =>
   some (s2)) some

def path_dotted_of_path_atom (s : ByteArray) : Option Bool :=
 (strings_SplitSeq s (⟨#[46]⟩ : ByteArray)).bind fun v1 =>
 bindS (S := (Unit)) (A := (Unit))
  (rangeS (S := (Unit)) (O := (Unit)) (fun Y st => Sh.strings_splitSeq_1 Y v1.1 v1.2.1 v1.2.2 st) (fun (x : ByteArray) (() : Unit) =>
   (path_atom x).bind fun v2 =>
   cond ((!v2))
    (some (.inr ()))
    (some (.inl ())))
   ())
  (fun (() : Unit) =>
   some (true))
  (fun (() : Unit) =>
   some (false))

def path_local (s : ByteArray) : Option Bool :=
 bindS (S := Bool) (A := Bool)
  (cond ((decide ((s.size : Int) ≤ 64)))
   ((path_dotted_of_path_atom s).bind fun v1 =>
   some (.inl v1))
   (some (.inl false)))
  (fun (s2 : Bool) =>
   some (s2)) some

def path_label_1 (c : Int) : Option Bool :=
 bindS (S := Bool) (A := Bool)
  ((path_alphanumeric c).bind fun v1 =>
  cond (v1)
   (some (.inl true))
   (some (.inl (c == 45))))
  (fun (s2 : Bool) =>
   some (s2)) some

def path_all_of_path_label_1 (s : ByteArray) : Option Bool :=
 bindS (S := (Unit)) (A := Bool)
  (loopF (S := (Int)) (O := (Unit) ⊕ Bool) (fun (s9 : Int) =>
   cond ((decide (s9 < (s.size : Int))))
    ((chrO s s9).bind fun v2 =>
    (path_label_1 v2).bind fun v3 =>
    cond ((!v3))
     (some (.inr (.inr (false))))
     ((some (IntKind.i64.wrap (s9 + 1))).bind fun v5 =>
     some (.inl v5)))
    (some (.inr (.inl ()))))
   BIG 0)
  (fun (() : Unit) =>
   some (true)) some

def path_label (s : ByteArray) : Option Bool :=
 bindS (S := Bool) (A := Bool)
  (cond ((!(s.toList == (⟨#[]⟩ : ByteArray).toList)))
   (cond ((decide ((s.size : Int) ≤ 63)))
    ((chrO s 0).bind fun v1 =>
    cond ((v1 != 45))
     ((some (IntKind.i64.wrap ((s.size : Int) - 1))).bind fun v2 =>
     (chrO s v2).bind fun v3 =>
     cond ((v3 != 45))
      ((path_all_of_path_label_1 s).bind fun v4 =>
      some (.inl v4))
      (some (.inl false)))
     (some (.inl false)))
    (some (.inl false)))
   (some (.inl false)))
  (fun (s5 : Bool) =>
   some (s5)) some

def path_dotted_of_path_label (s : ByteArray) : Option Bool :=
 (strings_SplitSeq s (⟨#[46]⟩ : ByteArray)).bind fun v1 =>
 bindS (S := (Unit)) (A := (Unit))
  (rangeS (S := (Unit)) (O := (Unit)) (fun Y st => Sh.strings_splitSeq_1 Y v1.1 v1.2.1 v1.2.2 st) (fun (x : ByteArray) (() : Unit) =>
   (path_label x).bind fun v2 =>
   cond ((!v2))
    (some (.inr ()))
    (some (.inl ())))
   ())
  (fun (() : Unit) =>
   some (true))
  (fun (() : Unit) =>
   some (false))

def path_Domain (s : ByteArray) : Option Bool :=
 bindS (S := Bool) (A := Bool)
  (cond ((decide ((s.size : Int) ≤ 255)))
   ((path_dotted_of_path_label s).bind fun v1 =>
   some (.inl v1))
   (some (.inl false)))
  (fun (s2 : Bool) =>
   some (s2)) some

def path_Check (p : T_Path) : Option Int :=
 bindS (S := Bool) (A := Int)
  (cond ((!p.Null))
   ((path_local p.Local).bind fun v1 =>
   cond (v1)
    ((path_Domain p.Domain).bind fun v2 =>
    some (.inl v2))
    (some (.inl false)))
   (some (.inl false)))
  (fun (s3 : Bool) =>
   bindS (S := Bool) (A := Int)
    (cond ((!(((p.Null == true) && ((p.Local.toList == (⟨#[]⟩ : ByteArray).toList) && ((p.Domain.toList == (⟨#[]⟩ : ByteArray).toList) && true))))))
     (some (.inl (!s3)))
     (some (.inl false)))
    (fun (s7 : Bool) =>
     cond (s7)
      (some (5))
      (some (0))) some) some

def envelope_Valid (m : T_Mail) : Option Bool :=
 bindS (S := Bool) (A := Bool)
  ((path_Check (T_Path.mk m.From.Null m.From.Local m.From.Domain)).bind fun v1 =>
  cond ((v1 != 0))
   (some (.inl true))
   (cond ((decide ((m.To.length : Int) < 1)))
    (some (.inl true))
    (some (.inl ((decide (8 < (m.To.length : Int))))))))
  (fun (s2 : Bool) =>
   cond (s2)
    (some (false))
    (bindS (S := (Unit)) (A := Bool)
     (loopF (S := (Int)) (O := (Unit) ⊕ Bool) (fun (s24 : Int) =>
      cond ((decide (s24 < (m.To.length : Int))))
       ((ixO s24 m.To.length).bind fun v8 =>
       (getO m.To v8).bind fun v9 =>
       bindS (S := Bool) (A := ((Int) ⊕ ((Unit) ⊕ Bool)))
        ((path_Check v9).bind fun v10 =>
        cond ((v10 != 0))
         (some (.inl true))
         (some (.inl v9.Null)))
        (fun (s38 : Bool) =>
         cond (s38)
          (some (.inr (.inr (false))))
          ((some (IntKind.i64.wrap (s24 + 1))).bind fun v16 =>
          some (.inl v16))) some)
       (some (.inr (.inl ()))))
      BIG 0)
     (fun (() : Unit) =>
      some (true)) some)) some

def dots_lines (b : (List Int)) : Option (List Int) :=
 some (b)

def bytes_Cut_sh (s : (List Int)) (sep : (List Int)) : Option ((List Int) × (List Int) × Bool) :=
 (bytes_Index s sep).bind fun v1 =>
 cond ((decide (0 ≤ v1)))
  ((sliO s 0 v1).bind fun v3 =>
  (some (IntKind.i64.wrap (v1 + (sep.length : Int)))).bind fun v4 =>
  (sliO s v4 (s.length : Int)).bind fun v5 =>
  some ((v3, v5, true)))
  (some ((s, [], false)))

def dots_lines_1 {S : Type} (Y : (List Int) → S → Option (S × Bool)) (c0 : (List Int)) (st : S) : Option S :=
 bindS (S := (Unit)) (A := S)
  (loopF (S := ((List Int) × S)) (O := (Unit) ⊕ S) (fun ((s17, s18) : (List Int) × S) =>
   (bytes_Cut_sh s17 [13, 10]).bind fun v1 =>
   bindS (S := S × Bool) (A := (((List Int) × S) ⊕ ((Unit) ⊕ S)))
    (cond ((!v1.2.2))
     (some (.inl (s18, true)))
     ((Y v1.1 s18).bind fun v2 =>
     some (.inl ((v2.1, (!v2.2))))))
    (fun ((s31, s32) : S × Bool) =>
     cond (s32)
      (some (.inr (.inr (s31))))
      (some (.inl (v1.2.1, s31)))) some)
   BIG (c0, st))
  (fun (() : Unit) =>
   none) some

def bytes_ContainsAny (b : (List Int)) (chars : ByteArray) : Option Bool :=
 (bytes_IndexAny b chars).bind fun v1 =>
 some ((decide (0 ≤ v1)))

def dots_Check (b : (List Int)) : Option Int :=
 (dots_lines b).bind fun v1 =>
 bindS (S := (Int)) (A := (Int))
  (rangeS (S := (Int)) (O := (Int)) (fun Y st => Sh.dots_lines_1 Y v1 st) (fun (x : (List Int)) (s8 : Int) =>
   (bytes_ContainsAny x (⟨#[13, 10]⟩ : ByteArray)).bind fun v2 =>
   cond (v2)
    (some (.inr s8))
    ((some (IntKind.i64.wrap ((x.length : Int) + 2))).bind fun v4 =>
    (some (IntKind.i64.wrap (s8 + v4))).bind fun v5 =>
    some (.inl v5)))
   0)
  (fun (s8 : Int) =>
   cond ((s8 != (b.length : Int)))
    (some (5))
    (some (0)))
  (fun (s10 : Int) =>
   some (5))

def spool_validMail (m : T_Mail) : Option Bool :=
 bindS (S := Bool) (A := Bool)
  ((envelope_Valid ((T_Mail.mk (T_Path.mk m.From.Null m.From.Local m.From.Domain) m.To m.Body m.Quiet m.Helo m.At))).bind fun v1 =>
  cond (v1)
   ((dots_Check m.Body).bind fun v2 =>
   cond ((v2 == 0))
    (cond ((decide (0 ≤ m.At)))
     (some (.inl ((decide (m.At ≤ 1099511627776)))))
     (some (.inl false)))
    (some (.inl false)))
   (some (.inl false)))
  (fun (s3 : Bool) =>
   some (s3)) some

def spool_find_1_cap (x : T_Item) (cap : Int) : Option Bool :=
 some ((x.Id == cap))

def slices_IndexFunc_api_Item_api_Item_of_spool_find_1 (s : (List T_Item)) (cap : Int) : Option Int :=
 bindS (S := (Unit)) (A := Int)
  (loopF (S := (Int)) (O := (Unit) ⊕ Int) (fun (s10 : Int) =>
   cond ((decide (s10 < (s.length : Int))))
    ((ixO s10 s.length).bind fun v2 =>
    (getO s v2).bind fun v3 =>
    (spool_find_1_cap ((T_Item.mk v3.Id ((T_Mail.mk (T_Path.mk v3.Mail.From.Null v3.Mail.From.Local v3.Mail.From.Domain) v3.Mail.To v3.Mail.Body v3.Mail.Quiet v3.Mail.Helo v3.Mail.At)) v3.State v3.Pack)) cap).bind fun v4 =>
    cond (v4)
     (some (.inr (.inr (s10))))
     ((some (IntKind.i64.wrap (s10 + 1))).bind fun v6 =>
     some (.inl v6)))
    (some (.inr (.inl ()))))
   BIG 0)
  (fun (() : Unit) =>
   some ((-1))) some

def spool_find (s : T_Spool) (p_id : Int) : Option Int :=
 (slices_IndexFunc_api_Item_api_Item_of_spool_find_1 s.Items p_id).bind fun v1 =>
 some (v1)

def spool_waits (s : T_Spool) (p_id : Int) : Option Bool :=
 (spool_find s p_id).bind fun v1 =>
 bindS (S := Bool) (A := Bool)
  (cond ((decide (0 ≤ v1)))
   ((ixO v1 s.Items.length).bind fun v2 =>
   (getO s.Items v2).bind fun v3 =>
   some (.inl (v3.State == 1)))
   (some (.inl false)))
  (fun (s4 : Bool) =>
   some (s4)) some

def spool_validIds (s : T_Spool) (ids : (List Int)) : Option Bool :=
 bindS (S := Bool) (A := Bool)
  (cond ((decide ((ids.length : Int) < 1)))
   (some (.inl true))
   (some (.inl ((decide (4 < (ids.length : Int)))))))
  (fun (s1 : Bool) =>
   cond (s1)
    (some (false))
    (bindS (S := (Unit)) (A := Bool)
     (loopF (S := (Int)) (O := (Unit) ⊕ Bool) (fun (s27 : Int) =>
      cond ((decide (s27 < (ids.length : Int))))
       ((ixO s27 ids.length).bind fun v7 =>
       (getO ids v7).bind fun v8 =>
       bindS (S := Bool) (A := ((Int) ⊕ ((Unit) ⊕ Bool)))
        (cond ((decide (0 < s27)))
         ((some (IntKind.i64.wrap (s27 - 1))).bind fun v9 =>
         (ixO v9 ids.length).bind fun v10 =>
         (getO ids v10).bind fun v11 =>
         cond ((decide (v8 ≤ v11)))
          (some (.inl true))
          ((spool_waits s v8).bind fun v12 =>
          some (.inl (!v12))))
         ((spool_waits s v8).bind fun v13 =>
         some (.inl (!v13))))
        (fun (s41 : Bool) =>
         cond (s41)
          (some (.inr (.inr (false))))
          ((some (IntKind.i64.wrap (s27 + 1))).bind fun v19 =>
          some (.inl v19))) some)
       (some (.inr (.inl ()))))
      BIG 0)
     (fun (() : Unit) =>
      some (true)) some)) some

def slices_Index_int_int (s : (List Int)) (v : Int) : Option Int :=
 bindS (S := (Unit)) (A := Int)
  (loopF (S := (Int)) (O := (Unit) ⊕ Int) (fun (s9 : Int) =>
   cond ((decide (s9 < (s.length : Int))))
    ((ixO s9 s.length).bind fun v2 =>
    (getO s v2).bind fun v3 =>
    cond ((v == v3))
     (some (.inr (.inr (s9))))
     ((some (IntKind.i64.wrap (s9 + 1))).bind fun v5 =>
     some (.inl v5)))
    (some (.inr (.inl ()))))
   BIG 0)
  (fun (() : Unit) =>
   some ((-1))) some

def slices_Contains_int_int (s : (List Int)) (v : Int) : Option Bool :=
 (slices_Index_int_int s v).bind fun v1 =>
 some ((decide (0 ≤ v1)))

def spool_open (s : T_Spool) (number : Int) : Option Bool :=
 bindS (S := Bool) (A := Bool)
  (cond ((decide (1 ≤ number)))
   (cond ((decide (number ≤ 65535)))
    ((slices_Contains_int_int s.Done number).bind fun v1 =>
    some (.inl (!v1)))
    (some (.inl false)))
   (some (.inl false)))
  (fun (s2 : Bool) =>
   some (s2)) some

def spool_validChunk (s : T_Spool) (p_r : T_Rec) : Option Bool :=
 bindS (S := Bool) (A := Bool)
  (cond ((decide ((p_r.Data.length : Int) < 1)))
   (some (.inl true))
   (some (.inl ((decide (48 < (p_r.Data.length : Int)))))))
  (fun (s1 : Bool) =>
   cond (s1)
    (some (false))
    (cond ((p_r.Offset == 0))
     (some (true))
     (bindS (S := Bool) (A := Bool)
      (cond ((s.Of == p_r.Number))
       (cond ((p_r.Offset == (s.Part.length : Int)))
        ((some (IntKind.i64.wrap ((s.Part.length : Int) + (p_r.Data.length : Int)))).bind fun v7 =>
        some (.inl ((decide (v7 ≤ 5000)))))
        (some (.inl false)))
       (some (.inl false)))
      (fun (s8 : Bool) =>
       some (s8)) some))) some

def spool_valid (s : T_Spool) (p_r : T_Rec) : Option Bool :=
 (spool_rest_sh ((T_Rec.mk p_r.Kind ((T_Mail.mk (T_Path.mk p_r.Mail.From.Null p_r.Mail.From.Local p_r.Mail.From.Domain) p_r.Mail.To p_r.Mail.Body p_r.Mail.Quiet p_r.Mail.Helo p_r.Mail.At)) p_r.Id p_r.Ids p_r.Origin p_r.Number p_r.Offset p_r.Data))).bind fun v1 =>
 (spool_empty ((T_Rec.mk v1.Kind ((T_Mail.mk (T_Path.mk v1.Mail.From.Null v1.Mail.From.Local v1.Mail.From.Domain) v1.Mail.To v1.Mail.Body v1.Mail.Quiet v1.Mail.Helo v1.Mail.At)) v1.Id v1.Ids v1.Origin v1.Number v1.Offset v1.Data))).bind fun v2 =>
 cond ((!v2))
  (some (false))
  (cond ((p_r.Kind == 1))
   (bindS (S := Bool) (A := Bool)
    (cond ((decide ((s.Items.length : Int) < 60)))
     ((some (IntKind.i64.wrap ((s.Items.length : Int) + 1))).bind fun v5 =>
     cond ((p_r.Id == v5))
      (cond ((p_r.Origin == 0))
       ((spool_validMail ((T_Mail.mk (T_Path.mk p_r.Mail.From.Null p_r.Mail.From.Local p_r.Mail.From.Domain) p_r.Mail.To p_r.Mail.Body p_r.Mail.Quiet p_r.Mail.Helo p_r.Mail.At))).bind fun v6 =>
       some (.inl v6))
       (cond ((p_r.Origin == 1))
        ((spool_validMail ((T_Mail.mk (T_Path.mk p_r.Mail.From.Null p_r.Mail.From.Local p_r.Mail.From.Domain) p_r.Mail.To p_r.Mail.Body p_r.Mail.Quiet p_r.Mail.Helo p_r.Mail.At))).bind fun v7 =>
        some (.inl v7))
        (some (.inl false))))
      (some (.inl false)))
     (some (.inl false)))
    (fun (s8 : Bool) =>
     some (s8)) some)
   (cond ((p_r.Kind == 2))
    (bindS (S := Bool) (A := Bool)
     ((some (IntKind.i64.wrap (s.Packs + 1))).bind fun v13 =>
     cond ((p_r.Number == v13))
      ((spool_validIds s p_r.Ids).bind fun v14 =>
      some (.inl v14))
      (some (.inl false)))
     (fun (s15 : Bool) =>
      some (s15)) some)
    (cond ((p_r.Kind == 3))
     (bindS (S := Bool) (A := Bool)
      (cond ((decide (1 ≤ p_r.Number)))
       (cond ((decide (p_r.Number ≤ s.Packs)))
        ((slices_Contains_int_int s.Sent p_r.Number).bind fun v20 =>
        some (.inl (!v20)))
        (some (.inl false)))
       (some (.inl false)))
      (fun (s21 : Bool) =>
       some (s21)) some)
     (cond ((p_r.Kind == 4))
      ((spool_waits s p_r.Id).bind fun v26 =>
      some (v26))
      (cond ((p_r.Kind == 5))
       (bindS (S := Bool) (A := Bool)
        ((spool_open s p_r.Number).bind fun v28 =>
        cond (v28)
         ((spool_validChunk s ((T_Rec.mk p_r.Kind ((T_Mail.mk (T_Path.mk p_r.Mail.From.Null p_r.Mail.From.Local p_r.Mail.From.Domain) p_r.Mail.To p_r.Mail.Body p_r.Mail.Quiet p_r.Mail.Helo p_r.Mail.At)) p_r.Id p_r.Ids p_r.Origin p_r.Number p_r.Offset p_r.Data))).bind fun v29 =>
         some (.inl v29))
         (some (.inl false)))
        (fun (s30 : Bool) =>
         some (s30)) some)
       (cond ((p_r.Kind == 6))
        ((spool_open s p_r.Number).bind fun v35 =>
        some (v35))
        (some (false))))))))

def clone_List_api_Path (l : (List T_Path)) : Option (List T_Path) :=
 (appO 40 ([] : List T_Path) l).bind fun v1 =>
 some (v1)

def clone_List_byte (l : (List Int)) : Option (List Int) :=
 (appO 1 ([] : List Int) l).bind fun v1 =>
 some (v1)

def clone_Mail (m : T_Mail) : Option T_Mail :=
 (clone_List_api_Path m.To).bind fun v1 =>
 (clone_List_byte m.Body).bind fun v2 =>
 some ((T_Mail.mk (T_Path.mk m.From.Null m.From.Local m.From.Domain) v1 v2 m.Quiet m.Helo m.At))

def cmp_isNaN_int (x : Int) : Option Bool :=
 some ((x != x))

def cmp_Less_int (x : Int) (y : Int) : Option Bool :=
 bindS (S := Bool) (A := Bool)
  ((cmp_isNaN_int x).bind fun v1 =>
  cond (v1)
   ((cmp_isNaN_int y).bind fun v2 =>
   cond ((!v2))
    (some (.inl true))
    (some (.inl ((decide (x < y))))))
   (some (.inl ((decide (x < y))))))
  (fun (s3 : Bool) =>
   some (s3)) some

def slices_isNaN_int (x : Int) : Option Bool :=
 some ((x != x))

def slices_BinarySearch_int_int (x : (List Int)) (target : Int) : Option (Int × Bool) :=
 bindS (S := (Int)) (A := (Int × Bool))
  (loopF (S := (Int × Int)) (O := (Int) ⊕ (Int × Bool)) (fun ((s27, s28) : Int × Int) =>
   cond ((decide (s27 < s28)))
    (bindS (S := Int × Int) (A := ((Int × Int) ⊕ ((Int) ⊕ (Int × Bool))))
     ((some (IntKind.i64.wrap (s27 + s28))).bind fun v2 =>
     (some (IntKind.u64.wrap v2)).bind fun v3 =>
     (shrO .u64 v3 1).bind fun v4 =>
     (some (IntKind.i64.wrap v4)).bind fun v5 =>
     (ixO v5 x.length).bind fun v6 =>
     (getO x v6).bind fun v7 =>
     (cmp_Less_int v7 target).bind fun v8 =>
     cond (v8)
      ((some (IntKind.i64.wrap (v5 + 1))).bind fun v10 =>
      some (.inl (s28, v10)))
      (some (.inl (v5, s27))))
     (fun ((s46, s47) : Int × Int) =>
      some (.inl (s47, s46))) some)
    (some (.inr (.inl s27))))
   BIG ((0, (x.length : Int))))
  (fun (s37 : Int) =>
   bindS (S := Bool) (A := (Int × Bool))
    (cond ((decide (s37 < (x.length : Int))))
     ((ixO s37 x.length).bind fun v52 =>
     (getO x v52).bind fun v53 =>
     cond ((v53 == target))
      (some (.inl true))
      ((ixO s37 x.length).bind fun v54 =>
      (getO x v54).bind fun v55 =>
      (slices_isNaN_int v55).bind fun v56 =>
      cond (v56)
       ((slices_isNaN_int target).bind fun v57 =>
       some (.inl v57))
       (some (.inl false))))
     (some (.inl false)))
    (fun (s58 : Bool) =>
     some ((s37, s58))) some) some

def spool_apply (s : T_Spool) (p_r : T_Rec) : Option T_Spool :=
 bindS (S := (List T_Item) × Int × (List Int) × (List Int) × Int × (List Int)) (A := T_Spool)
  (cond ((p_r.Kind == 1))
   (bindS (S := Int) (A := (((List T_Item) × Int × (List Int) × (List Int) × Int × (List Int)) ⊕ T_Spool))
    (cond ((p_r.Origin == 0))
     (some (.inl 3))
     (some (.inl 1)))
    (fun (s136 : Int) =>
     (clone_Mail ((T_Mail.mk (T_Path.mk p_r.Mail.From.Null p_r.Mail.From.Local p_r.Mail.From.Domain) p_r.Mail.To p_r.Mail.Body p_r.Mail.Quiet p_r.Mail.Helo p_r.Mail.At))).bind fun v8 =>
     (appO 144 s.Items [(T_Item.mk p_r.Id ((T_Mail.mk (T_Path.mk v8.From.Null v8.From.Local v8.From.Domain) v8.To v8.Body v8.Quiet v8.Helo v8.At)) s136 0)]).bind fun v9 =>
     some (.inl (v9, s.Packs, s.Sent, s.Part, s.Of, s.Done))) some)
   (cond ((p_r.Kind == 2))
    (bindS (S := ((List T_Item))) (A := (((List T_Item) × Int × (List Int) × (List Int) × Int × (List Int)) ⊕ T_Spool))
     (loopF (S := ((List T_Item) × Int)) (O := ((List T_Item)) ⊕ (((List T_Item) × Int × (List Int) × (List Int) × Int × (List Int)) ⊕ T_Spool)) (fun ((s158, s159) : (List T_Item) × Int) =>
      cond ((decide (s159 < (s.Items.length : Int))))
       (bindS (S := (List T_Item)) (A := (((List T_Item) × Int) ⊕ (((List T_Item)) ⊕ (((List T_Item) × Int × (List Int) × (List Int) × Int × (List Int)) ⊕ T_Spool))))
        ((ixO s159 s158.length).bind fun v12 =>
        (getO s158 v12).bind fun v13 =>
        (slices_Contains_int_int p_r.Ids v13.Id).bind fun v14 =>
        cond (v14)
         ((ixO s159 s158.length).bind fun v16 =>
         (getO s158 v16).bind fun v17 =>
         (some (s158.set v16 ((T_Item.mk v17.Id ((T_Mail.mk (T_Path.mk v17.Mail.From.Null v17.Mail.From.Local v17.Mail.From.Domain) v17.Mail.To v17.Mail.Body v17.Mail.Quiet v17.Mail.Helo v17.Mail.At)) 2 v17.Pack)))).bind fun v18 =>
         (ixO s159 v18.length).bind fun v19 =>
         (getO v18 v19).bind fun v20 =>
         (some (v18.set v19 ((T_Item.mk v20.Id ((T_Mail.mk (T_Path.mk v20.Mail.From.Null v20.Mail.From.Local v20.Mail.From.Domain) v20.Mail.To v20.Mail.Body v20.Mail.Quiet v20.Mail.Helo v20.Mail.At)) v20.State p_r.Number)))).bind fun v21 =>
         some (.inl v21))
         (some (.inl s158)))
        (fun (s176 : (List T_Item)) =>
         (some (IntKind.i64.wrap (s159 + 1))).bind fun v27 =>
         some (.inl (s176, v27))) some)
       (some (.inr (.inl s158))))
      BIG (s.Items, 0))
     (fun (s167 : (List T_Item)) =>
      some (.inl (s167, p_r.Number, s.Sent, s.Part, s.Of, s.Done))) some)
    (cond ((p_r.Kind == 3))
     (bindS (S := ((List T_Item))) (A := (((List T_Item) × Int × (List Int) × (List Int) × Int × (List Int)) ⊕ T_Spool))
      (loopF (S := ((List T_Item) × Int)) (O := ((List T_Item)) ⊕ (((List T_Item) × Int × (List Int) × (List Int) × Int × (List Int)) ⊕ T_Spool)) (fun ((s198, s199) : (List T_Item) × Int) =>
       cond ((decide (s199 < (s.Items.length : Int))))
        (bindS (S := (List T_Item)) (A := (((List T_Item) × Int) ⊕ (((List T_Item)) ⊕ (((List T_Item) × Int × (List Int) × (List Int) × Int × (List Int)) ⊕ T_Spool))))
         ((ixO s199 s198.length).bind fun v62 =>
         (getO s198 v62).bind fun v63 =>
         cond ((v63.Pack == p_r.Number))
          ((ixO s199 s198.length).bind fun v65 =>
          (getO s198 v65).bind fun v66 =>
          (some (s198.set v65 ((T_Item.mk v66.Id ((T_Mail.mk (T_Path.mk v66.Mail.From.Null v66.Mail.From.Local v66.Mail.From.Domain) v66.Mail.To v66.Mail.Body v66.Mail.Quiet v66.Mail.Helo v66.Mail.At)) 3 v66.Pack)))).bind fun v67 =>
          some (.inl v67))
          (some (.inl s198)))
         (fun (s216 : (List T_Item)) =>
          (some (IntKind.i64.wrap (s199 + 1))).bind fun v73 =>
          some (.inl (s216, v73))) some)
        (some (.inr (.inl s198))))
       BIG (s.Items, 0))
      (fun (s207 : (List T_Item)) =>
       (appO 8 s.Sent [p_r.Number]).bind fun v106 =>
       some (.inl (s207, s.Packs, v106, s.Part, s.Of, s.Done))) some)
     (cond ((p_r.Kind == 4))
      ((spool_find s p_r.Id).bind fun v108 =>
      (ixO v108 s.Items.length).bind fun v109 =>
      (getO s.Items v109).bind fun v110 =>
      (some (s.Items.set v109 ((T_Item.mk v110.Id ((T_Mail.mk (T_Path.mk v110.Mail.From.Null v110.Mail.From.Local v110.Mail.From.Domain) v110.Mail.To v110.Mail.Body v110.Mail.Quiet v110.Mail.Helo v110.Mail.At)) 4 v110.Pack)))).bind fun v111 =>
      some (.inl (v111, s.Packs, s.Sent, s.Part, s.Of, s.Done)))
      (cond ((p_r.Kind == 5))
       (bindS (S := (List Int) × Int) (A := (((List T_Item) × Int × (List Int) × (List Int) × Int × (List Int)) ⊕ T_Spool))
        (cond ((p_r.Offset == 0))
         (some (.inl ([], p_r.Number)))
         (some (.inl (s.Part, s.Of))))
        (fun ((s224, s225) : (List Int) × Int) =>
         (appO 1 s224 p_r.Data).bind fun v120 =>
         some (.inl (s.Items, s.Packs, s.Sent, v120, s225, s.Done))) some)
       (cond ((p_r.Kind == 6))
        ((slices_BinarySearch_int_int s.Done p_r.Number).bind fun v122 =>
        (slices_Insert_int_int s.Done v122.1 [p_r.Number]).bind fun v123 =>
        cond ((s.Of == p_r.Number))
         (some (.inl ((s.Items, s.Packs, s.Sent, [], (-1), v123))))
         (some (.inl (s.Items, s.Packs, s.Sent, s.Part, s.Of, v123))))
        (some (.inl (s.Items, s.Packs, s.Sent, s.Part, s.Of, s.Done)))))))))
  (fun ((s125, s126, s127, s128, s129, s130) : (List T_Item) × Int × (List Int) × (List Int) × Int × (List Int)) =>
   some ((T_Spool.mk s125 s126 s127 s128 s129 s130))) some

def spool_Fold (l : (List T_Rec)) : Option (T_Spool × Int) :=
 (spool_New ).bind fun v1 =>
 bindS (S := ((List T_Item) × Int × (List Int) × (List Int) × Int × (List Int))) (A := (T_Spool × Int))
  (loopF (S := ((List T_Item) × Int × (List Int) × (List Int) × Int × (List Int) × Int)) (O := ((List T_Item) × Int × (List Int) × (List Int) × Int × (List Int)) ⊕ (T_Spool × Int)) (fun ((s18, s19, s20, s21, s22, s23, s24) : (List T_Item) × Int × (List Int) × (List Int) × Int × (List Int) × Int) =>
   cond ((decide (s24 < (l.length : Int))))
    ((ixO s24 l.length).bind fun v3 =>
    (getO l v3).bind fun v4 =>
    (spool_valid (T_Spool.mk s18 s19 s20 s21 s22 s23) ((T_Rec.mk v4.Kind ((T_Mail.mk (T_Path.mk v4.Mail.From.Null v4.Mail.From.Local v4.Mail.From.Domain) v4.Mail.To v4.Mail.Body v4.Mail.Quiet v4.Mail.Helo v4.Mail.At)) v4.Id v4.Ids v4.Origin v4.Number v4.Offset v4.Data))).bind fun v5 =>
    cond ((!v5))
     (some (.inr (.inr (((T_Spool.mk s18 s19 s20 s21 s22 s23), s24)))))
     ((spool_apply (T_Spool.mk s18 s19 s20 s21 s22 s23) ((T_Rec.mk v4.Kind ((T_Mail.mk (T_Path.mk v4.Mail.From.Null v4.Mail.From.Local v4.Mail.From.Domain) v4.Mail.To v4.Mail.Body v4.Mail.Quiet v4.Mail.Helo v4.Mail.At)) v4.Id v4.Ids v4.Origin v4.Number v4.Offset v4.Data))).bind fun v7 =>
     (some (IntKind.i64.wrap (s24 + 1))).bind fun v8 =>
     some (.inl (v7.Items, v7.Packs, v7.Sent, v7.Part, v7.Of, v7.Done, v8))))
    (some (.inr (.inl (s18, s19, s20, s21, s22, s23)))))
   BIG (v1.Items, v1.Packs, v1.Sent, v1.Part, v1.Of, v1.Done, 0))
  (fun ((s27, s28, s29, s30, s31, s32) : (List T_Item) × Int × (List Int) × (List Int) × Int × (List Int)) =>
   some (((T_Spool.mk s27 s28 s29 s30 s31 s32), (l.length : Int)))) some

def frame_Check (f : T_Frame) : Option Int :=
 bindS (S := Bool) (A := Int)
  (cond ((decide (0 ≤ f.Offset)))
   (some (.inl ((decide (f.Offset ≤ 5000)))))
   (some (.inl false)))
  (fun (s1 : Bool) =>
   bindS (S := Bool) (A := Int)
    (cond ((decide (0 ≤ f.Seq)))
     (some (.inl ((decide (f.Seq ≤ 7)))))
     (some (.inl false)))
    (fun (s5 : Bool) =>
     bindS (S := Bool) (A := Int)
      (bindS (S := Bool) (A := (Bool ⊕ Int))
       (bindS (S := Bool) (A := (Bool ⊕ (Bool ⊕ Int)))
        (cond ((f.Kind == 1))
         (some (.inl (f.Kind == 1)))
         (some (.inl (f.Kind == 2))))
        (fun (s100 : Bool) =>
         cond (s100)
          (bindS (S := Bool) (A := (Bool ⊕ (Bool ⊕ Int)))
           (cond (s1)
            (cond ((f.Seq == 0))
             (some (.inl (((f.Data.length : Int) == 0))))
             (some (.inl false)))
            (some (.inl false)))
           (fun (s106 : Bool) =>
            some (.inl s106)) some)
          (cond ((f.Kind == 3))
           (bindS (S := Bool) (A := (Bool ⊕ (Bool ⊕ Int)))
            (cond (s1)
             (cond (s5)
              (cond ((!(((f.Data.length : Int) == 0))))
               (some (.inl ((decide ((f.Data.length : Int) ≤ 48)))))
               (some (.inl false)))
              (some (.inl false)))
             (some (.inl false)))
            (fun (s111 : Bool) =>
             some (.inl s111)) some)
           (cond ((f.Kind == 4))
            (bindS (S := Bool) (A := (Bool ⊕ (Bool ⊕ Int)))
             (cond ((f.Offset == 0))
              (cond (s5)
               (some (.inl (((f.Data.length : Int) == 0))))
               (some (.inl false)))
              (some (.inl false)))
             (fun (s116 : Bool) =>
              some (.inl s116)) some)
            (cond ((f.Kind == 5))
             (bindS (S := Bool) (A := (Bool ⊕ (Bool ⊕ Int)))
              (cond ((f.Offset == 0))
               (cond ((f.Seq == 0))
                (some (.inl (((f.Data.length : Int) == 0))))
                (some (.inl false)))
               (some (.inl false)))
              (fun (s121 : Bool) =>
               some (.inl s121)) some)
             (some (.inl false)))))) some)
       (fun (s95 : Bool) =>
        some (.inl s95)) some)
      (fun (s65 : Bool) =>
       bindS (S := Bool) (A := Int)
        (cond ((!s65))
         (some (.inl true))
         (cond ((decide (f.Number < 1)))
          (some (.inl true))
          (some (.inl ((decide (65535 < f.Number)))))))
        (fun (s125 : Bool) =>
         cond (s125)
          (some (1))
          (some (0))) some) some) some) some

def taker_answer_sh (t : T_Take) (f : T_Frame) : Option T_taker_result :=
 some ((T_taker_result.mk t [] [f]))

def taker_Far (s : T_Spool) (number : Int) : Option Int :=
 cond ((s.Of != number))
  (some (0))
  (some ((s.Part.length : Int)))

def taker_hello_sh (off : Int) (f : T_Frame) : Option (T_taker_result × Int) :=
 bindS (S := Bool) (A := (T_taker_result × Int))
  (cond ((f.Offset == 0))
   (some (.inl true))
   (some (.inl ((decide (f.Offset < off))))))
  (fun (s1 : Bool) =>
   cond (s1)
    (some (((T_taker_result.mk (T_Take.mk false 0 0) [] []), 11)))
    ((taker_answer_sh (T_Take.mk true f.Number f.Offset) (T_Frame.mk 2 f.Number off 0 [])).bind fun v6 =>
    some (((T_taker_result.mk (T_Take.mk v6.take.Open v6.take.Number v6.take.Total) v6.recs v6.out), 0)))) some

def taker_ack (number : Int) (piece : Int) : Option T_Frame :=
 (remO piece 8).bind fun v1 =>
 some ((T_Frame.mk 4 number 0 v1 []))

def taker_chunk_sh (off : Int) (t : T_Take) (f : T_Frame) : Option (T_taker_result × Int) :=
 bindS (S := Bool) (A := (T_taker_result × Int))
  (cond ((!t.Open))
   (some (.inl true))
   (some (.inl (t.Number != f.Number))))
  (fun (s74 : Bool) =>
   cond (s74)
    (some (((T_taker_result.mk (T_Take.mk false 0 0) [] []), 11)))
    (cond ((off == t.Total))
     (some (((T_taker_result.mk t [] []), 0)))
     ((quoO .i64 off 48).bind fun v7 =>
     cond ((f.Offset != off))
      (bindS (S := Int) (A := (T_taker_result × Int))
       ((remO off 48).bind fun v9 =>
       cond ((v9 != 0))
        ((some (IntKind.i64.wrap (v7 + 1))).bind fun v11 =>
        some (.inl v11))
        (some (.inl v7)))
       (fun (s82 : Int) =>
        (taker_ack f.Number s82).bind fun v17 =>
        (taker_answer_sh t v17).bind fun v44 =>
        some (((T_taker_result.mk (T_Take.mk v44.take.Open v44.take.Number v44.take.Total) v44.recs v44.out), 0))) some)
      ((some (if off > t.Total then off else t.Total)).bind fun v45 =>
      (some (IntKind.i64.wrap (v45 - off))).bind fun v46 =>
      bindS (S := Bool) (A := (T_taker_result × Int))
       ((remO v7 8).bind fun v47 =>
       cond ((f.Seq != v47))
        (some (.inl true))
        ((some (if v46 < 48 then v46 else 48)).bind fun v48 =>
        some (.inl (((f.Data.length : Int) != v48)))))
       (fun (s87 : Bool) =>
        cond (s87)
         (some (((T_taker_result.mk (T_Take.mk false 0 0) [] []), 11)))
         ((some (IntKind.i64.wrap (v7 + 1))).bind fun v54 =>
         (taker_ack f.Number v54).bind fun v55 =>
         (taker_answer_sh t v55).bind fun v92 =>
         (clone_List_byte f.Data).bind fun v93 =>
         some (((T_taker_result.mk (T_Take.mk v92.take.Open v92.take.Number v92.take.Total) ([(T_Rec.mk 5 ((T_Mail.mk ((T_Path.mk false (⟨#[]⟩ : ByteArray) (⟨#[]⟩ : ByteArray))) [] [] false (⟨#[]⟩ : ByteArray) 0)) 0 [] 0 f.Number off v93)]) v92.out), 0)))) some)))) some

def taker_hear_sh (s : T_Spool) (t : T_Take) (f : T_Frame) : Option (T_taker_result × Int) :=
 bindS (S := Bool) (A := (T_taker_result × Int))
  (cond ((f.Kind != 1))
   (some (.inl (f.Kind != 3)))
   (some (.inl false)))
  (fun (s1 : Bool) =>
   cond (s1)
    (some (((T_taker_result.mk (T_Take.mk false 0 0) [] []), 11)))
    ((slices_Contains_int_int s.Done f.Number).bind fun v6 =>
    cond (v6)
     ((taker_answer_sh t (T_Frame.mk 5 f.Number 0 0 [])).bind fun v8 =>
     some (((T_taker_result.mk (T_Take.mk v8.take.Open v8.take.Number v8.take.Total) v8.recs v8.out), 0)))
     (cond ((f.Kind == 1))
      ((taker_Far s f.Number).bind fun v10 =>
      (taker_hello_sh v10 f).bind fun v11 =>
      some (((T_taker_result.mk (T_Take.mk v11.1.take.Open v11.1.take.Number v11.1.take.Total) v11.1.recs v11.1.out), v11.2)))
      ((taker_Far (T_Spool.mk s.Items s.Packs s.Sent s.Part s.Of s.Done) f.Number).bind fun v12 =>
      (taker_chunk_sh v12 t f).bind fun v13 =>
      some (((T_taker_result.mk (T_Take.mk v13.1.take.Open v13.1.take.Number v13.1.take.Total) v13.1.recs v13.1.out), v13.2)))))) some

def taker_Hear_sh (s : T_Spool) (t : T_Take) (f : T_Frame) : Option (T_Take × (List T_Rec) × (List T_Frame) × Int) :=
 (frame_Check f).bind fun v1 =>
 cond ((v1 != 0))
  (some (((T_Take.mk false 0 0), [], [], v1)))
  ((taker_hear_sh s t f).bind fun v3 =>
  cond ((v3.2 != 0))
   (some (((T_Take.mk false 0 0), [], [], v3.2)))
   (some (((T_Take.mk v3.1.take.Open v3.1.take.Number v3.1.take.Total), v3.1.recs, v3.1.out, 0))))

def taker_Whole (s : T_Spool) (t : T_Take) : Option Bool :=
 bindS (S := Bool) (A := Bool)
  (cond (t.Open)
   (cond ((s.Of == t.Number))
    (some (.inl (((s.Part.length : Int) == t.Total))))
    (some (.inl false)))
   (some (.inl false)))
  (fun (s1 : Bool) =>
   some (s1)) some

def wherrylaw22_wakes : Option Bool :=
 (spool_New ).bind fun v1 =>
 (taker_Hear_sh v1 (T_Take.mk false 0 0) (T_Frame.mk 1 3 100 0 [])).bind fun v2 =>
 bindS (S := Bool) (A := Bool)
  (cond ((v2.2.2.2 == 0))
   (cond (((v2.2.1.length : Int) == 0))
    (cond (((v2.2.2.1.length : Int) == 1))
     ((ixO 0 v2.2.2.1.length).bind fun v3 =>
     (getO v2.2.2.1 v3).bind fun v4 =>
     cond ((v4.Kind == 2))
      ((ixO 0 v2.2.2.1.length).bind fun v5 =>
      (getO v2.2.2.1 v5).bind fun v6 =>
      cond ((v6.Offset == 0))
       (cond (v2.1.Open)
        (cond ((v2.1.Total == 100))
         ((spool_New ).bind fun v7 =>
         (taker_Whole v7 v2.1).bind fun v8 =>
         cond ((!v8))
          ((spool_New ).bind fun v9 =>
          (taker_Far v9 3).bind fun v10 =>
          some (.inl (v10 == 0)))
          (some (.inl false)))
         (some (.inl false)))
        (some (.inl false)))
       (some (.inl false)))
      (some (.inl false)))
     (some (.inl false)))
    (some (.inl false)))
   (some (.inl false)))
  (fun (s11 : Bool) =>
   some (s11)) some

def wherrykeep_Take (a : T_Take) (b : T_Take) : Option Bool :=
 bindS (S := Bool) (A := Bool)
  ((some (a.Open == b.Open)).bind fun v1 =>
  cond ((a.Open == b.Open))
   (cond ((a.Number == b.Number))
    (some (.inl (a.Total == b.Total)))
    (some (.inl false)))
   (some (.inl false)))
  (fun (s2 : Bool) =>
   some (s2)) some

def wherrylaw22_TakerHellos (l : (List T_Rec)) (t : T_Take) (number : Int) (total : Int) : Option Bool :=
 (wherrylaw18_Heavy l).bind fun v1 =>
 cond (v1)
  (some (true))
  ((some (IntKind.u64.wrap number)).bind fun v3 =>
  (remO v3 65535).bind fun v4 =>
  (some (IntKind.i64.wrap v4)).bind fun v5 =>
  (some (IntKind.i64.wrap (1 + v5))).bind fun v6 =>
  (some (IntKind.u64.wrap total)).bind fun v7 =>
  (remO v7 5001).bind fun v8 =>
  (some (IntKind.i64.wrap v8)).bind fun v9 =>
  (spool_Fold l).bind fun v10 =>
  bindS (S := (Unit)) (A := Bool)
   (loopF (S := (Int)) (O := (Unit) ⊕ Bool) (fun (s55 : Int) =>
    cond ((decide (s55 < (v10.1.Done.length : Int))))
     ((ixO s55 v10.1.Done.length).bind fun v12 =>
     (getO v10.1.Done v12).bind fun v13 =>
     cond ((v13 == v6))
      ((wherrylaw22_wakes ).bind fun v15 =>
      some (.inr (.inr (v15))))
      ((some (IntKind.i64.wrap (s55 + 1))).bind fun v16 =>
      some (.inl v16)))
     (some (.inr (.inl ()))))
    BIG 0)
   (fun (() : Unit) =>
    (taker_Far v10.1 v6).bind fun v31 =>
    (taker_Hear_sh v10.1 t (T_Frame.mk 1 v6 v9 0 [])).bind fun v66 =>
    bindS (S := Bool) (A := Bool)
     (cond ((v9 == 0))
      (some (.inl true))
      (some (.inl ((decide (v9 < v31))))))
     (fun (s67 : Bool) =>
      cond (s67)
       (bindS (S := Bool) (A := Bool)
        (cond ((v66.2.2.2 == 11))
         ((some (IntKind.i64.wrap ((v66.2.1.length : Int) + (v66.2.2.1.length : Int)))).bind fun v72 =>
         cond ((v72 == 0))
          ((wherrykeep_Take v66.1 (T_Take.mk false 0 0)).bind fun v73 =>
          cond (v73)
           ((wherrylaw22_wakes ).bind fun v74 =>
           some (.inl v74))
           (some (.inl false)))
          (some (.inl false)))
         (some (.inl false)))
        (fun (s75 : Bool) =>
         some (s75)) some)
       (bindS (S := Bool) (A := Bool)
        (cond ((v66.2.2.2 == 0))
         (cond (((v66.2.1.length : Int) == 0))
          (cond (((v66.2.2.1.length : Int) == 1))
           ((ixO 0 v66.2.2.1.length).bind fun v79 =>
           (getO v66.2.2.1 v79).bind fun v80 =>
           cond ((v80.Kind == 2))
            ((ixO 0 v66.2.2.1.length).bind fun v81 =>
            (getO v66.2.2.1 v81).bind fun v82 =>
            cond ((v82.Offset == v31))
             ((ixO 0 v66.2.2.1.length).bind fun v83 =>
             (getO v66.2.2.1 v83).bind fun v84 =>
             cond ((v84.Number == v6))
              ((wherrykeep_Take v66.1 (T_Take.mk true v6 v9)).bind fun v85 =>
              cond (v85)
               ((wherrylaw22_wakes ).bind fun v86 =>
               some (.inl v86))
               (some (.inl false)))
              (some (.inl false)))
             (some (.inl false)))
            (some (.inl false)))
           (some (.inl false)))
          (some (.inl false)))
         (some (.inl false)))
        (fun (s87 : Bool) =>
         some (s87)) some)) some) some)

end Go.Abs.Sh
