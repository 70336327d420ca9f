/-
 The program told in Lean: plain functions; none where Go would panic or a slice outgrow its room.
-/
import Derived.Test.YtdligpdfcfbgpaaAN
set_option linter.unusedVariables false
namespace Go.Abs.Sh

structure T_Send where
 Number : Int
 Data : (List Int)
 Ready : Bool
 Base : Int
 Next : Int
 Wait : Int
 Over : Bool
 deriving DecidableEq, Inhabited
def T_Send.ienc (x : T_Send) : List IC := [.v (.int .i64 x.Number), .row 1 (List.map IC.v (List.map (Value.int .u8) x.Data)), .v (.bool x.Ready), .v (.int .i64 x.Base), .v (.int .i64 x.Next), .v (.int .i64 x.Wait), .v (.bool x.Over)]
theorem T_Send.ilen (x : T_Send) : (T_Send.ienc x).length = 7 := rfl
def T_Send.wf (x : T_Send) : Prop := wfI .i64 x.Number ∧ wfL (wfI .u8) x.Data ∧ True ∧ wfI .i64 x.Base ∧ wfI .i64 x.Next ∧ wfI .i64 x.Wait ∧ True
def T_Send.wz (x : T_Send) : Prop := (wfI .i64) x.Number ∧ (wzL 1 (wfI .u8)) x.Data ∧ True ∧ (wfI .i64) x.Base ∧ (wfI .i64) x.Next ∧ (wfI .i64) x.Wait ∧ True

structure T_Frame where
 Kind : Int
 Number : Int
 Offset : Int
 Seq : Int
 Data : (List Int)
 deriving DecidableEq, Inhabited
def T_Frame.ienc (x : T_Frame) : List IC := [.v (.int .i64 x.Kind), .v (.int .i64 x.Number), .v (.int .i64 x.Offset), .v (.int .i64 x.Seq), .row 1 (List.map IC.v (List.map (Value.int .u8) x.Data))]
theorem T_Frame.ilen (x : T_Frame) : (T_Frame.ienc x).length = 5 := rfl
def T_Frame.wf (x : T_Frame) : Prop := wfI .i64 x.Kind ∧ wfI .i64 x.Number ∧ wfI .i64 x.Offset ∧ wfI .i64 x.Seq ∧ wfL (wfI .u8) x.Data
def T_Frame.wz (x : T_Frame) : Prop := (wfI .i64) x.Kind ∧ (wfI .i64) x.Number ∧ (wfI .i64) x.Offset ∧ (wfI .i64) x.Seq ∧ (wzL 1 (wfI .u8)) x.Data

def wherrykeep_Twin (l : (List Int)) : Option (List Int) :=
 (appO 1 ([] : List Int) l).bind fun v1 =>
 some (v1)

def wherrykeep_TwinSend (s : T_Send) : Option T_Send :=
 (wherrykeep_Twin s.Data).bind fun v1 =>
 some ((T_Send.mk s.Number v1 s.Ready s.Base s.Next s.Wait s.Over))

def wherrykeep_TwinFrame (f : T_Frame) : Option T_Frame :=
 (wherrykeep_Twin f.Data).bind fun v1 =>
 some ((T_Frame.mk f.Kind f.Number f.Offset f.Seq v1))

def wherryref18_pieces (b : (List Int)) : Option Int :=
 (some (IntKind.i64.wrap ((b.length : Int) + 48))).bind fun v1 =>
 (some (IntKind.i64.wrap (v1 - 1))).bind fun v2 =>
 (quoO .i64 v2 48).bind fun v3 =>
 some (v3)

def wherryref18_in (n : Int) (lo : Int) (hi : Int) : Option Bool :=
 bindS (S := Bool) (A := Bool)
  (cond ((decide (lo ≤ n)))
   (some (.inl ((decide (n ≤ hi)))))
   (some (.inl false)))
  (fun (s1 : Bool) =>
   some (s1)) some

def wherryref18_Send (s : T_Send) : Option Bool :=
 (wherryref18_pieces s.Data).bind fun v1 =>
 bindS (S := Bool) (A := Bool)
  ((wherryref18_in s.Number 1 65535).bind fun v2 =>
  cond (v2)
   ((wherryref18_in (s.Data.length : Int) 1 5000).bind fun v3 =>
   cond (v3)
    ((wherryref18_in s.Base 0 v1).bind fun v4 =>
    cond (v4)
     ((some (IntKind.i64.wrap (s.Base + 7))).bind fun v5 =>
     (some (if v1 < v5 then v1 else v5)).bind fun v6 =>
     (wherryref18_in s.Next s.Base v6).bind fun v7 =>
     cond (v7)
      ((wherryref18_in s.Wait 0 3).bind fun v8 =>
      cond (v8)
       (cond (s.Ready)
        (some (.inl true))
        (cond ((s.Base == 0))
         (some (.inl (s.Next == 0)))
         (some (.inl false))))
       (some (.inl false)))
      (some (.inl false)))
     (some (.inl false)))
    (some (.inl false)))
   (some (.inl false)))
  (fun (s9 : Bool) =>
   some (s9)) some

def sender_pieces (s : T_Send) : Option Int :=
 (some (IntKind.i64.wrap ((s.Data.length : Int) + 48))).bind fun v1 =>
 (some (IntKind.i64.wrap (v1 - 1))).bind fun v2 =>
 (quoO .i64 v2 48).bind fun v3 =>
 some (v3)

def sender_window (s : T_Send) : Option Int :=
 (some (IntKind.i64.wrap (s.Base + 7))).bind fun v1 =>
 (sender_pieces s).bind fun v2 =>
 (some (if v2 < v1 then v2 else v1)).bind fun v3 =>
 some (v3)

def sender_Check (s : T_Send) : Option Int :=
 (sender_pieces s).bind fun v1 =>
 bindS (S := Bool) (A := Int)
  (bindS (S := Bool) (A := (Bool ⊕ Int))
   (cond ((decide (s.Number < 1)))
    (some (.inl true))
    (some (.inl ((decide (65535 < s.Number))))))
   (fun (s36 : Bool) =>
    cond (s36)
     (some (.inl s36))
     (bindS (S := Bool) (A := (Bool ⊕ Int))
      (cond ((decide ((s.Data.length : Int) < 1)))
       (some (.inl true))
       (some (.inl ((decide (5000 < (s.Data.length : Int)))))))
      (fun (s41 : Bool) =>
       cond (s41)
        (some (.inl s41))
        (bindS (S := Bool) (A := (Bool ⊕ Int))
         (cond ((decide (s.Base < 0)))
          (some (.inl true))
          (some (.inl ((decide (v1 < s.Base))))))
         (fun (s46 : Bool) =>
          cond (s46)
           (some (.inl s46))
           (bindS (S := Bool) (A := (Bool ⊕ Int))
            (cond ((decide (s.Next < s.Base)))
             (some (.inl true))
             ((sender_window s).bind fun v17 =>
             some (.inl ((decide (v17 < s.Next))))))
            (fun (s51 : Bool) =>
             cond (s51)
              (some (.inl s51))
              (bindS (S := Bool) (A := (Bool ⊕ Int))
               (cond ((decide (s.Wait < 0)))
                (some (.inl true))
                (some (.inl ((decide (3 < s.Wait))))))
               (fun (s56 : Bool) =>
                cond (s56)
                 (some (.inl s56))
                 (bindS (S := Bool) (A := (Bool ⊕ Int))
                  (cond ((!s.Ready))
                   (cond ((s.Base != 0))
                    (some (.inl true))
                    (some (.inl (s.Next != 0))))
                   (some (.inl false)))
                  (fun (s61 : Bool) =>
                   some (.inl s61)) some)) some)) some)) some)) some)) some)
  (fun (s32 : Bool) =>
   cond (s32)
    (some (1))
    (some (0))) some

def clone_List_byte (l : (List Int)) : Option (List Int) :=
 (appO 1 ([] : List Int) l).bind fun v1 =>
 some (v1)

def clone_Send (s : T_Send) : Option T_Send :=
 (clone_List_byte s.Data).bind fun v1 =>
 some ((T_Send.mk s.Number v1 s.Ready s.Base s.Next s.Wait s.Over))

def sender_hello (s : T_Send) : Option T_Frame :=
 some ((T_Frame.mk 1 s.Number (s.Data.length : Int) 0 []))

def sender_piece (s : T_Send) (i : Int) : Option T_Frame :=
 (some (IntKind.i64.wrap (i * 48))).bind fun v1 =>
 (some (IntKind.i64.wrap (v1 + 48))).bind fun v2 =>
 (some (if (s.Data.length : Int) < v2 then (s.Data.length : Int) else v2)).bind fun v3 =>
 (remO i 8).bind fun v4 =>
 (sliO s.Data v1 v3).bind fun v5 =>
 (clone_List_byte v5).bind fun v6 =>
 some ((T_Frame.mk 3 s.Number v1 v4 v6))

def sender_Tick (s : T_Send) : Option (T_Send × (List T_Frame) × Int) :=
 (sender_Check s).bind fun v1 =>
 cond ((v1 != 0))
  (some (((T_Send.mk 0 [] false 0 0 0 false), [], v1)))
  ((clone_Send s).bind fun v3 =>
  (sender_window v3).bind fun v4 =>
  bindS (S := Bool × Int × Int × Int × (List T_Frame)) (A := (T_Send × (List T_Frame) × Int))
   (cond (v3.Over)
    (some (.inl (v3.Ready, v3.Base, v3.Next, v3.Wait, [])))
    (bindS (S := Bool) (A := ((Bool × Int × Int × Int × (List T_Frame)) ⊕ (T_Send × (List T_Frame) × Int)))
     (cond ((!v3.Ready))
      (some (.inl true))
      ((sender_pieces v3).bind fun v6 =>
      some (.inl (v3.Base == v6))))
     (fun (s48 : Bool) =>
      cond (s48)
       (cond ((decide (0 < v3.Wait)))
        ((some (IntKind.i64.wrap (v3.Wait - 1))).bind fun v13 =>
        some (.inl (v3.Ready, v3.Base, v3.Next, v13, [])))
        ((sender_hello v3).bind fun v14 =>
        (appO 56 ([] : List T_Frame) [v14]).bind fun v15 =>
        some (.inl (v3.Ready, v3.Base, v3.Next, 3, v15))))
       (cond ((decide (v3.Next < v4)))
        (bindS (S := ((List T_Frame))) (A := ((Bool × Int × Int × Int × (List T_Frame)) ⊕ (T_Send × (List T_Frame) × Int)))
         (loopF (S := ((List T_Frame) × Int)) (O := ((List T_Frame)) ⊕ ((Bool × Int × Int × Int × (List T_Frame)) ⊕ (T_Send × (List T_Frame) × Int))) (fun ((s59, s60) : (List T_Frame) × Int) =>
          cond ((decide (s60 < v4)))
           ((sender_piece v3 s60).bind fun v18 =>
           (appO 56 s59 [v18]).bind fun v19 =>
           (some (IntKind.i64.wrap (s60 + 1))).bind fun v20 =>
           some (.inl (v19, v20)))
           (some (.inr (.inl s59))))
          BIG ([], v3.Next))
         (fun (s62 : (List T_Frame)) =>
          some (.inl (v3.Ready, v3.Base, v4, 3, s62))) some)
        (cond ((v3.Wait == 0))
         ((sender_hello v3).bind fun v36 =>
         (appO 56 ([] : List T_Frame) [v36]).bind fun v37 =>
         some (.inl (false, 0, 0, 3, v37)))
         ((some (IntKind.i64.wrap (v3.Wait - 1))).bind fun v38 =>
         some (.inl (v3.Ready, v3.Base, v3.Next, v38, [])))))) some))
   (fun ((s39, s40, s41, s42, s43) : Bool × Int × Int × Int × (List T_Frame)) =>
    some (((T_Send.mk v3.Number v3.Data s39 s40 s41 s42 v3.Over), s43, 0))) some)

def frame_Check (f : T_Frame) : Option Int :=
 bindS (S := Bool) (A := Int)
  (cond ((decide (0 ≤ f.Offset)))
   (some (.inl ((decide (f.Offset ≤ 5000)))))
   (some (.inl false)))
  (fun (s1 : Bool) =>
   bindS (S := Bool) (A := Int)
    (cond ((decide (0 ≤ f.Seq)))
     (some (.inl ((decide (f.Seq ≤ 7)))))
     (some (.inl false)))
    (fun (s5 : Bool) =>
     bindS (S := Bool) (A := Int)
      (bindS (S := Bool) (A := (Bool ⊕ Int))
       (bindS (S := Bool) (A := (Bool ⊕ (Bool ⊕ Int)))
        (cond ((f.Kind == 1))
         (some (.inl (f.Kind == 1)))
         (some (.inl (f.Kind == 2))))
        (fun (s100 : Bool) =>
         cond (s100)
          (bindS (S := Bool) (A := (Bool ⊕ (Bool ⊕ Int)))
           (cond (s1)
            (cond ((f.Seq == 0))
             (some (.inl (((f.Data.length : Int) == 0))))
             (some (.inl false)))
            (some (.inl false)))
           (fun (s106 : Bool) =>
            some (.inl s106)) some)
          (cond ((f.Kind == 3))
           (bindS (S := Bool) (A := (Bool ⊕ (Bool ⊕ Int)))
            (cond (s1)
             (cond (s5)
              (cond ((!(((f.Data.length : Int) == 0))))
               (some (.inl ((decide ((f.Data.length : Int) ≤ 48)))))
               (some (.inl false)))
              (some (.inl false)))
             (some (.inl false)))
            (fun (s111 : Bool) =>
             some (.inl s111)) some)
           (cond ((f.Kind == 4))
            (bindS (S := Bool) (A := (Bool ⊕ (Bool ⊕ Int)))
             (cond ((f.Offset == 0))
              (cond (s5)
               (some (.inl (((f.Data.length : Int) == 0))))
               (some (.inl false)))
              (some (.inl false)))
             (fun (s116 : Bool) =>
              some (.inl s116)) some)
            (cond ((f.Kind == 5))
             (bindS (S := Bool) (A := (Bool ⊕ (Bool ⊕ Int)))
              (cond ((f.Offset == 0))
               (cond ((f.Seq == 0))
                (some (.inl (((f.Data.length : Int) == 0))))
                (some (.inl false)))
               (some (.inl false)))
              (fun (s121 : Bool) =>
               some (.inl s121)) some)
             (some (.inl false)))))) some)
       (fun (s95 : Bool) =>
        some (.inl s95)) some)
      (fun (s65 : Bool) =>
       bindS (S := Bool) (A := Int)
        (cond ((!s65))
         (some (.inl true))
         (cond ((decide (f.Number < 1)))
          (some (.inl true))
          (some (.inl ((decide (65535 < f.Number)))))))
        (fun (s125 : Bool) =>
         cond (s125)
          (some (1))
          (some (0))) some) some) some) some

def sender_ready (s : T_Send) (offset : Int) : Option (Bool × T_Send) :=
 bindS (S := Bool) (A := (Bool × T_Send))
  (cond ((!((offset == (s.Data.length : Int)))))
   (cond ((decide ((s.Data.length : Int) < offset)))
    (some (.inl true))
    ((remO offset 48).bind fun v1 =>
    some (.inl (v1 != 0))))
   (some (.inl false)))
  (fun (s2 : Bool) =>
   cond (s2)
    (some ((false, s)))
    ((quoO .i64 offset 48).bind fun v7 =>
    bindS (S := Int) (A := (Bool × T_Send))
     (cond ((offset == (s.Data.length : Int)))
      ((sender_pieces s).bind fun v9 =>
      some (.inl v9))
      (some (.inl v7)))
     (fun (s10 : Int) =>
      some ((true, (T_Send.mk s.Number s.Data true s10 s10 0 s.Over)))) some)) some

def sender_ack (s : T_Send) (seq : Int) : Option (Bool × T_Send) :=
 cond ((!s.Ready))
  (some ((false, s)))
  ((some (IntKind.i64.wrap (s.Base + 1))).bind fun v2 =>
  bindS (S := (Unit)) (A := (Bool × T_Send))
   (loopF (S := (Int)) (O := (Unit) ⊕ (Bool × T_Send)) (fun (s10 : Int) =>
    cond ((decide (s10 ≤ s.Next)))
     ((remO s10 8).bind fun v4 =>
     cond ((v4 == seq))
      (some (.inr (.inr ((true, (T_Send.mk s.Number s.Data s.Ready s10 s.Next 3 s.Over))))))
      ((some (IntKind.i64.wrap (s10 + 1))).bind fun v6 =>
      some (.inl v6)))
     (some (.inr (.inl ()))))
    BIG v2)
   (fun (() : Unit) =>
    some ((false, s))) some)

def sender_Hear (s : T_Send) (f : T_Frame) : Option (T_Send × Int) :=
 (sender_Check s).bind fun v1 =>
 cond ((v1 != 0))
  (some (((T_Send.mk 0 [] false 0 0 0 false), v1)))
  ((frame_Check f).bind fun v3 =>
  cond ((v3 != 0))
   (some (((T_Send.mk 0 [] false 0 0 0 false), v3)))
   (bindS (S := Bool) (A := (T_Send × Int))
    (cond ((f.Number != s.Number))
     (some (.inl true))
     (some (.inl s.Over)))
    (fun (s5 : Bool) =>
     cond (s5)
      (some (((T_Send.mk 0 [] false 0 0 0 false), 11)))
      ((clone_Send s).bind fun v10 =>
      bindS (S := Int × (List Int) × Bool × Int × Int × Int × Bool × Bool) (A := (T_Send × Int))
       (bindS (S := Int × (List Int) × Bool × Int × Int × Int × Bool × Bool) (A := ((Int × (List Int) × Bool × Int × Int × Int × Bool × Bool) ⊕ (T_Send × Int)))
        (cond ((f.Kind == 2))
         ((sender_ready v10 f.Offset).bind fun v12 =>
         some (.inl (v12.2.Number, v12.2.Data, v12.2.Ready, v12.2.Base, v12.2.Next, v12.2.Wait, v12.2.Over, v12.1)))
         (cond ((f.Kind == 4))
          ((sender_ack v10 f.Seq).bind fun v14 =>
          some (.inl (v14.2.Number, v14.2.Data, v14.2.Ready, v14.2.Base, v14.2.Next, v14.2.Wait, v14.2.Over, v14.1)))
          (cond ((f.Kind == 5))
           (some (.inl (v10.Number, v10.Data, v10.Ready, v10.Base, v10.Next, v10.Wait, true, true)))
           (some (.inl (v10.Number, v10.Data, v10.Ready, v10.Base, v10.Next, v10.Wait, v10.Over, false))))))
        (fun ((s44, s45, s46, s47, s48, s49, s50, s51) : Int × (List Int) × Bool × Int × Int × Int × Bool × Bool) =>
         some (.inl (s44, s45, s46, s47, s48, s49, s50, s51))) some)
       (fun ((s30, s31, s32, s33, s34, s35, s36, s37) : Int × (List Int) × Bool × Int × Int × Int × Bool × Bool) =>
        cond ((!s37))
         (some (((T_Send.mk 0 [] false 0 0 0 false), 11)))
         (some (((T_Send.mk s30 s31 s32 s33 s34 s35 s36), 0)))) some)) some))

def sender_New (number : Int) (data : (List Int)) : Option (T_Send × Int) :=
 (clone_List_byte data).bind fun v1 =>
 (sender_Check (T_Send.mk number v1 false 0 0 0 false)).bind fun v2 =>
 cond ((v2 != 0))
  (some (((T_Send.mk 0 [] false 0 0 0 false), v2)))
  (some (((T_Send.mk number v1 false 0 0 0 false), 0)))

def sender_Pieces (s : T_Send) : Option Int :=
 (sender_Check s).bind fun v1 =>
 cond ((v1 != 0))
  (some (0))
  ((sender_pieces s).bind fun v3 =>
  some (v3))

def wherryref18_Pieces (s : T_Send) : Option Int :=
 (wherryref18_Send s).bind fun v1 =>
 cond ((!v1))
  (some (0))
  ((wherryref18_pieces s.Data).bind fun v3 =>
  some (v3))

def wherrykeep_Bytes (a : (List Int)) (b : (List Int)) : Option Bool :=
 cond (((a.length : Int) != (b.length : Int)))
  (some (false))
  (bindS (S := (Unit)) (A := Bool)
   (loopF (S := (Int)) (O := (Unit) ⊕ Bool) (fun (s12 : Int) =>
    cond ((decide (s12 < (a.length : Int))))
     ((ixO s12 a.length).bind fun v3 =>
     (getO a v3).bind fun v4 =>
     (ixO s12 b.length).bind fun v5 =>
     (getO b v5).bind fun v6 =>
     cond ((v4 != v6))
      (some (.inr (.inr (false))))
      ((some (IntKind.i64.wrap (s12 + 1))).bind fun v8 =>
      some (.inl v8)))
     (some (.inr (.inl ()))))
    BIG 0)
   (fun (() : Unit) =>
    some (true)) some)

def wherrykeep_Send (a : T_Send) (b : T_Send) : Option Bool :=
 bindS (S := Bool) (A := Bool)
  (cond ((a.Number == b.Number))
   ((wherrykeep_Bytes a.Data b.Data).bind fun v1 =>
   cond (v1)
    ((some (a.Ready == b.Ready)).bind fun v2 =>
    cond ((a.Ready == b.Ready))
     (cond ((a.Base == b.Base))
      (cond ((a.Next == b.Next))
       (cond ((a.Wait == b.Wait))
        ((some (a.Over == b.Over)).bind fun v3 =>
        some (.inl (a.Over == b.Over)))
        (some (.inl false)))
       (some (.inl false)))
      (some (.inl false)))
     (some (.inl false)))
    (some (.inl false)))
   (some (.inl false)))
  (fun (s4 : Bool) =>
   some (s4)) some

def wherrylaw21_wakes : Option Bool :=
 (sender_New 1 [7]).bind fun v1 =>
 (sender_Tick v1.1).bind fun v2 =>
 bindS (S := Bool) (A := Bool)
  (cond ((v1.2 == 0))
   (cond ((v2.2.2 == 0))
    (cond (((v2.2.1.length : Int) == 1))
     ((ixO 0 v2.2.1.length).bind fun v3 =>
     (getO v2.2.1 v3).bind fun v4 =>
     cond ((v4.Kind == 1))
      ((ixO 0 v2.2.1.length).bind fun v5 =>
      (getO v2.2.1 v5).bind fun v6 =>
      cond ((v6.Offset == 1))
       (cond ((v2.1.Wait == 3))
        ((sender_Pieces v1.1).bind fun v7 =>
        some (.inl (v7 == 1)))
        (some (.inl false)))
       (some (.inl false)))
      (some (.inl false)))
     (some (.inl false)))
    (some (.inl false)))
   (some (.inl false)))
  (fun (s8 : Bool) =>
   some (s8)) some

def wherryref18_chunk (s : T_Send) (i : Int) : Option T_Frame :=
 (some (IntKind.i64.wrap (i * 48))).bind fun v1 =>
 (remO i 8).bind fun v2 =>
 (some (IntKind.i64.wrap (v1 + 48))).bind fun v3 =>
 (some (if (s.Data.length : Int) < v3 then (s.Data.length : Int) else v3)).bind fun v4 =>
 (sliO s.Data v1 v4).bind fun v5 =>
 (wherrykeep_Twin v5).bind fun v6 =>
 some ((T_Frame.mk 3 s.Number v1 v2 v6))

def wherryref18_Tick (s : T_Send) : Option (T_Send × (List T_Frame)) :=
 (wherrykeep_TwinSend s).bind fun v1 =>
 (wherryref18_pieces s.Data).bind fun v2 =>
 (some (IntKind.i64.wrap (s.Base + 7))).bind fun v3 =>
 (some (if v2 < v3 then v2 else v3)).bind fun v4 =>
 bindS (S := Bool × Int × Int × Int × (List T_Frame)) (A := (T_Send × (List T_Frame)))
  (cond (s.Over)
   (some (.inl (v1.Ready, v1.Base, v1.Next, v1.Wait, [])))
   (bindS (S := Bool) (A := ((Bool × Int × Int × Int × (List T_Frame)) ⊕ (T_Send × (List T_Frame))))
    (cond ((!s.Ready))
     (some (.inl true))
     (some (.inl (s.Base == v2))))
    (fun (s45 : Bool) =>
     cond (s45)
      (cond ((decide (0 < s.Wait)))
       ((some (IntKind.i64.wrap (v1.Wait - 1))).bind fun v12 =>
       some (.inl (v1.Ready, v1.Base, v1.Next, v12, [])))
       ((appO 56 ([] : List T_Frame) ([(T_Frame.mk 1 s.Number (s.Data.length : Int) 0 [])])).bind fun v13 =>
       some (.inl (v1.Ready, v1.Base, v1.Next, 3, v13))))
      (cond ((decide (s.Next < v4)))
       (bindS (S := ((List T_Frame))) (A := ((Bool × Int × Int × Int × (List T_Frame)) ⊕ (T_Send × (List T_Frame))))
        (loopF (S := ((List T_Frame) × Int)) (O := ((List T_Frame)) ⊕ ((Bool × Int × Int × Int × (List T_Frame)) ⊕ (T_Send × (List T_Frame)))) (fun ((s56, s57) : (List T_Frame) × Int) =>
         cond ((decide (s57 < v4)))
          ((wherryref18_chunk s s57).bind fun v16 =>
          (appO 56 s56 [v16]).bind fun v17 =>
          (some (IntKind.i64.wrap (s57 + 1))).bind fun v18 =>
          some (.inl (v17, v18)))
          (some (.inr (.inl s56))))
         BIG ([], s.Next))
        (fun (s59 : (List T_Frame)) =>
         some (.inl (v1.Ready, v1.Base, v4, 3, s59))) some)
       (cond ((decide (0 < s.Wait)))
        ((some (IntKind.i64.wrap (v1.Wait - 1))).bind fun v34 =>
        some (.inl (v1.Ready, v1.Base, v1.Next, v34, [])))
        ((appO 56 ([] : List T_Frame) ([(T_Frame.mk 1 s.Number (s.Data.length : Int) 0 [])])).bind fun v35 =>
        some (.inl (false, 0, 0, 3, v35)))))) some))
  (fun ((s36, s37, s38, s39, s40) : Bool × Int × Int × Int × (List T_Frame)) =>
   some (((T_Send.mk v1.Number v1.Data s36 s37 s38 s39 v1.Over), s40))) some

def wherrykeep_Frame (a : T_Frame) (b : T_Frame) : Option Bool :=
 bindS (S := Bool) (A := Bool)
  (cond ((a.Kind == b.Kind))
   (cond ((a.Number == b.Number))
    (cond ((a.Offset == b.Offset))
     (cond ((a.Seq == b.Seq))
      ((wherrykeep_Bytes a.Data b.Data).bind fun v1 =>
      some (.inl v1))
      (some (.inl false)))
     (some (.inl false)))
    (some (.inl false)))
   (some (.inl false)))
  (fun (s2 : Bool) =>
   some (s2)) some

def wherrykeep_Frames (a : (List T_Frame)) (b : (List T_Frame)) : Option Bool :=
 cond (((a.length : Int) != (b.length : Int)))
  (some (false))
  (bindS (S := (Unit)) (A := Bool)
   (loopF (S := (Int)) (O := (Unit) ⊕ Bool) (fun (s13 : Int) =>
    cond ((decide (s13 < (a.length : Int))))
     ((ixO s13 a.length).bind fun v3 =>
     (getO a v3).bind fun v4 =>
     (ixO s13 b.length).bind fun v5 =>
     (getO b v5).bind fun v6 =>
     (wherrykeep_Frame v4 v6).bind fun v7 =>
     cond ((!v7))
      (some (.inr (.inr (false))))
      ((some (IntKind.i64.wrap (s13 + 1))).bind fun v9 =>
      some (.inl v9)))
     (some (.inr (.inl ()))))
    BIG 0)
   (fun (() : Unit) =>
    some (true)) some)

def wherryref18_Frame (f : T_Frame) : Option Bool :=
 (wherryref18_in f.Number 1 65535).bind fun v1 =>
 bindS (S := Int × Int × (List Int) × Bool) (A := Bool)
  (bindS (S := Int × Int × (List Int) × Bool) (A := ((Int × Int × (List Int) × Bool) ⊕ Bool))
   (bindS (S := Bool) (A := ((Int × Int × (List Int) × Bool) ⊕ ((Int × Int × (List Int) × Bool) ⊕ Bool)))
    (cond ((f.Kind == 1))
     (some (.inl (f.Kind == 1)))
     (some (.inl (f.Kind == 2))))
    (fun (s95 : Bool) =>
     cond (s95)
      (bindS (S := Bool) (A := ((Int × Int × (List Int) × Bool) ⊕ ((Int × Int × (List Int) × Bool) ⊕ Bool)))
       (cond (v1)
        ((wherryref18_in f.Offset 0 5000).bind fun v9 =>
        some (.inl v9))
        (some (.inl false)))
       (fun (s101 : Bool) =>
        some (.inl (f.Offset, 0, [], s101))) some)
      (cond ((f.Kind == 3))
       (bindS (S := Bool) (A := ((Int × Int × (List Int) × Bool) ⊕ ((Int × Int × (List Int) × Bool) ⊕ Bool)))
        (cond (v1)
         ((wherryref18_in f.Offset 0 5000).bind fun v15 =>
         cond (v15)
          ((wherryref18_in f.Seq 0 7).bind fun v16 =>
          cond (v16)
           ((wherryref18_in (f.Data.length : Int) 1 48).bind fun v17 =>
           some (.inl v17))
           (some (.inl false)))
          (some (.inl false)))
         (some (.inl false)))
        (fun (s106 : Bool) =>
         some (.inl (f.Offset, f.Seq, f.Data, s106))) some)
       (cond ((f.Kind == 4))
        (bindS (S := Bool) (A := ((Int × Int × (List Int) × Bool) ⊕ ((Int × Int × (List Int) × Bool) ⊕ Bool)))
         (cond (v1)
          ((wherryref18_in f.Seq 0 7).bind fun v23 =>
          some (.inl v23))
          (some (.inl false)))
         (fun (s111 : Bool) =>
          some (.inl (0, f.Seq, [], s111))) some)
        (cond ((f.Kind == 5))
         (some (.inl (0, 0, [], v1)))
         (some (.inl (0, 0, [], false))))))) some)
   (fun ((s87, s88, s89, s90) : Int × Int × (List Int) × Bool) =>
    some (.inl (s87, s88, s89, s90))) some)
  (fun ((s58, s59, s60, s61) : Int × Int × (List Int) × Bool) =>
   bindS (S := Bool) (A := Bool)
    (cond (s61)
     ((wherrykeep_Frame (T_Frame.mk f.Kind f.Number s58 s59 s60) f).bind fun v116 =>
     some (.inl v116))
     (some (.inl false)))
    (fun (s117 : Bool) =>
     some (s117)) some) some

def wherryref18_Hear (s : T_Send) (f : T_Frame) : Option (T_Send × Int) :=
 (wherrykeep_TwinSend s).bind fun v1 =>
 bindS (S := Bool) (A := (T_Send × Int))
  (cond ((f.Number != s.Number))
   (some (.inl true))
   (some (.inl s.Over)))
  (fun (s2 : Bool) =>
   cond (s2)
    (some (((T_Send.mk 0 [] false 0 0 0 false), 11)))
    (bindS (S := Unit) (A := (T_Send × Int))
     (bindS (S := Unit) (A := (Unit ⊕ (T_Send × Int)))
      (cond ((f.Kind == 2))
       (bindS (S := Bool) (A := (Unit ⊕ (Unit ⊕ (T_Send × Int))))
        (cond ((decide ((s.Data.length : Int) < f.Offset)))
         (some (.inl true))
         ((remO f.Offset 48).bind fun v8 =>
         cond ((v8 != 0))
          (some (.inl ((f.Offset != (s.Data.length : Int)))))
          (some (.inl false))))
        (fun (s144 : Bool) =>
         cond (s144)
          (some (.inr (.inr (((T_Send.mk 0 [] false 0 0 0 false), 11)))))
          ((some (IntKind.i64.wrap (f.Offset + 48))).bind fun v14 =>
          (some (IntKind.i64.wrap (v14 - 1))).bind fun v15 =>
          (quoO .i64 v15 48).bind fun v16 =>
          some (.inr (.inr (((T_Send.mk v1.Number v1.Data true v16 v16 0 v1.Over), 0)))))) some)
       (cond ((f.Kind == 4))
        ((some (IntKind.i64.wrap (s.Base + 1))).bind fun v18 =>
        bindS (S := (Unit)) (A := (Unit ⊕ (Unit ⊕ (T_Send × Int))))
         (loopF (S := (Int)) (O := (Unit) ⊕ (Unit ⊕ (Unit ⊕ (T_Send × Int)))) (fun (s163 : Int) =>
          bindS (S := Bool) (A := ((Int) ⊕ ((Unit) ⊕ (Unit ⊕ (Unit ⊕ (T_Send × Int))))))
           (cond ((decide (s163 ≤ s.Next)))
            (some (.inl s.Ready))
            (some (.inl false)))
           (fun (s176 : Bool) =>
            cond (s176)
             ((remO s163 8).bind fun v24 =>
             cond ((v24 == f.Seq))
              (some (.inr (.inr (.inr (.inr (((T_Send.mk v1.Number v1.Data v1.Ready s163 v1.Next 3 v1.Over), 0)))))))
              ((some (IntKind.i64.wrap (s163 + 1))).bind fun v26 =>
              some (.inl v26)))
             (some (.inr (.inl ())))) some)
          BIG v18)
         (fun (() : Unit) =>
          some (.inl ())) some)
        (cond ((f.Kind == 5))
         (some (.inr (.inr (((T_Send.mk v1.Number v1.Data v1.Ready v1.Base v1.Next v1.Wait true), 0)))))
         (some (.inl ())))))
      (fun (() : Unit) =>
       some (.inl ())) some)
     (fun (() : Unit) =>
      some (((T_Send.mk 0 [] false 0 0 0 false), 11))) some)) some

def wherrykeep_Over_row (b : (List Int)) : Option (List Int) :=
 bindS (S := ((List Int))) (A := (List Int))
  (loopF (S := ((List Int) × Int)) (O := ((List Int)) ⊕ (List Int)) (fun ((s11, s12) : (List Int) × Int) =>
   cond ((decide (s12 < (s11.length : Int))))
    ((ixO s12 s11.length).bind fun v2 =>
    (getO s11 v2).bind fun v3 =>
    (some (IntKind.u8.wrap (v3 + 91))).bind fun v4 =>
    (ixO s12 s11.length).bind fun v5 =>
    (some (s11.set v5 v4)).bind fun v6 =>
    (some (IntKind.i64.wrap (s12 + 1))).bind fun v7 =>
    some (.inl (v6, v7)))
    (some (.inr (.inl s11))))
   BIG (b, 0))
  (fun (s14 : (List Int)) =>
   some (s14)) some

def wherrykeep_Over (b : (List Int)) : Option Unit :=
 bindS (S := (Unit)) (A := Unit)
  (loopF (S := ((List Int) × Int)) (O := (Unit) ⊕ Unit) (fun ((s11, s12) : (List Int) × Int) =>
   cond ((decide (s12 < (s11.length : Int))))
    ((ixO s12 s11.length).bind fun v2 =>
    (getO s11 v2).bind fun v3 =>
    (some (IntKind.u8.wrap (v3 + 91))).bind fun v4 =>
    (ixO s12 s11.length).bind fun v5 =>
    (some (s11.set v5 v4)).bind fun v6 =>
    (some (IntKind.i64.wrap (s12 + 1))).bind fun v7 =>
    some (.inl (v6, v7)))
    (some (.inr (.inl ()))))
   BIG (b, 0))
  (fun (() : Unit) =>
   some (())) some

def wherrylaw21_SenderExact (s : T_Send) (f : T_Frame) (number : Int) (data : (List Int)) : Option Bool :=
 bindS (S := Bool) (A := Bool)
  (cond ((decide (5100 < (s.Data.length : Int))))
   (some (.inl true))
   (cond ((decide (5100 < (data.length : Int))))
    (some (.inl true))
    (some (.inl ((decide (300 < (f.Data.length : Int))))))))
  (fun (s1 : Bool) =>
   cond (s1)
    (some (true))
    ((wherrykeep_TwinSend s).bind fun v6 =>
    (wherrykeep_TwinFrame f).bind fun v7 =>
    (wherrykeep_Twin data).bind fun v8 =>
    (wherryref18_Send s).bind fun v9 =>
    (sender_Tick v6).bind fun v10 =>
    (sender_Hear v6 v7).bind fun v11 =>
    (sender_New number v8).bind fun v12 =>
    (wherryref18_Send (T_Send.mk number data false 0 0 0 false)).bind fun v13 =>
    bindS (S := Bool) (A := Bool)
     ((sender_Check v6).bind fun v14 =>
     (some (!((v14 == 0) == v9))).bind fun v15 =>
     cond ((!((v14 == 0) == v9)))
      (some (.inl true))
      ((sender_Pieces v6).bind fun v16 =>
      (wherryref18_Pieces s).bind fun v17 =>
      cond ((v16 != v17))
       (some (.inl true))
       (cond (v13)
        (cond ((v12.2 != 0))
         (some (.inl true))
         ((wherrykeep_Send v12.1 (T_Send.mk number data false 0 0 0 false)).bind fun v18 =>
         cond ((!v18))
          (some (.inl true))
          (cond ((!v13))
           (cond ((v12.2 != 1))
            (some (.inl true))
            ((wherrykeep_Send v12.1 (T_Send.mk 0 [] false 0 0 0 false)).bind fun v19 =>
            some (.inl (!v19))))
           (some (.inl false)))))
        (cond ((!v13))
         (cond ((v12.2 != 1))
          (some (.inl true))
          ((wherrykeep_Send v12.1 (T_Send.mk 0 [] false 0 0 0 false)).bind fun v20 =>
          some (.inl (!v20))))
         (some (.inl false))))))
     (fun (s21 : Bool) =>
      cond (s21)
       (some (false))
       (cond ((!v9))
        (bindS (S := Bool) (A := Bool)
         (cond ((v10.2.2 == 1))
          (cond ((v11.2 == 1))
           ((wherrykeep_Send v10.1 (T_Send.mk 0 [] false 0 0 0 false)).bind fun v27 =>
           cond (v27)
            ((wherrykeep_Send v11.1 (T_Send.mk 0 [] false 0 0 0 false)).bind fun v28 =>
            cond (v28)
             (cond (((v10.2.1.length : Int) == 0))
              ((wherrylaw21_wakes ).bind fun v29 =>
              some (.inl v29))
              (some (.inl false)))
             (some (.inl false)))
            (some (.inl false)))
           (some (.inl false)))
          (some (.inl false)))
         (fun (s30 : Bool) =>
          some (s30)) some)
        ((wherryref18_Tick s).bind fun v34 =>
        bindS (S := Bool) (A := Bool)
         (cond ((v10.2.2 != 0))
          (some (.inl true))
          ((wherrykeep_Send v10.1 v34.1).bind fun v35 =>
          cond ((!v35))
           (some (.inl true))
           ((wherrykeep_Frames v10.2.1 v34.2).bind fun v36 =>
           some (.inl (!v36)))))
         (fun (s37 : Bool) =>
          cond (s37)
           (some (false))
           (bindS (S := Int × (List Int) × Bool × Int × Int × Int × Bool × Int) (A := Bool)
            ((wherryref18_Frame f).bind fun v42 =>
            cond (v42)
             ((wherryref18_Hear s f).bind fun v44 =>
             some (.inl (v44.1.Number, v44.1.Data, v44.1.Ready, v44.1.Base, v44.1.Next, v44.1.Wait, v44.1.Over, v44.2)))
             (some (.inl (0, [], false, 0, 0, 0, false, 1))))
            (fun ((s45, s46, s47, s48, s49, s50, s51, s52) : Int × (List Int) × Bool × Int × Int × Int × Bool × Int) =>
             bindS (S := Bool) (A := Bool)
              (cond ((v11.2 != s52))
               (some (.inl true))
               ((wherrykeep_Send v11.1 (T_Send.mk s45 s46 s47 s48 s49 s50 s51)).bind fun v57 =>
               some (.inl (!v57))))
              (fun (s58 : Bool) =>
               cond (s58)
                (some (false))
                (bindS (S := (Unit)) (A := Bool)
                 (loopF (S := ((List T_Frame) × Int)) (O := (Unit) ⊕ Bool) (fun ((s71, s72) : (List T_Frame) × Int) =>
                  cond ((decide (s72 < (s71.length : Int))))
                   ((ixO s72 s71.length).bind fun v64 =>
                   (getO s71 v64).bind fun v65 =>
                   (wherrykeep_Over_row v65.Data).bind fun v66 =>
                   (some (IntKind.i64.wrap (s72 + 1))).bind fun v67 =>
                   some (.inl (((s71.set v64 (T_Frame.mk v65.Kind v65.Number v65.Offset v65.Seq v66)), v67))))
                   (some (.inr (.inl ()))))
                  BIG (v10.2.1, 0))
                 (fun (() : Unit) =>
                  (wherrykeep_Over v10.1.Data).bind fun v81 =>
                  bindS (S := Bool) (A := Bool)
                   ((wherrykeep_Send (T_Send.mk v6.Number v6.Data v6.Ready v6.Base v6.Next v6.Wait v6.Over) (T_Send.mk s.Number s.Data s.Ready s.Base s.Next s.Wait s.Over)).bind fun v82 =>
                   cond (v82)
                    ((wherrykeep_Frame (T_Frame.mk v7.Kind v7.Number v7.Offset v7.Seq v7.Data) (T_Frame.mk f.Kind f.Number f.Offset f.Seq f.Data)).bind fun v83 =>
                    cond (v83)
                     ((wherrykeep_Bytes v8 data).bind fun v84 =>
                     cond (v84)
                      ((wherrylaw21_wakes ).bind fun v85 =>
                      some (.inl v85))
                      (some (.inl false)))
                     (some (.inl false)))
                    (some (.inl false)))
                   (fun (s86 : Bool) =>
                    some (s86)) some) some)) some) some)) some))) some)) some

end Go.Abs.Sh
