/-
  The program told in Lean: plain functions; none where Go would panic or a slice outgrow its room.
-/
import Derived.Test.YtdligpdfcfbgpaaAO
set_option linter.unusedVariables false
namespace Go.Abs.Sh

structure T_Send where
  Number : Int
  Data : (List Int)
  Ready : Bool
  Base : Int
  Next : Int
  Wait : Int
  Over : Bool
  deriving DecidableEq
def T_Send.ienc (x : T_Send) : List IC := [.v (.int .i64 x.Number), .row 1 (List.map IC.v (List.map (Value.int .u8) x.Data)), .v (.bool x.Ready), .v (.int .i64 x.Base), .v (.int .i64 x.Next), .v (.int .i64 x.Wait), .v (.bool x.Over)]
theorem T_Send.ilen (x : T_Send) : (T_Send.ienc x).length = 7 := rfl
def T_Send.wf (x : T_Send) : Prop := wfI .i64 x.Number ∧ wfL (wfI .u8) x.Data ∧ True ∧ wfI .i64 x.Base ∧ wfI .i64 x.Next ∧ wfI .i64 x.Wait ∧ True

structure T_Frame where
  Kind : Int
  Number : Int
  Offset : Int
  Seq : Int
  Data : (List Int)
  deriving DecidableEq
def T_Frame.ienc (x : T_Frame) : List IC := [.v (.int .i64 x.Kind), .v (.int .i64 x.Number), .v (.int .i64 x.Offset), .v (.int .i64 x.Seq), .row 1 (List.map IC.v (List.map (Value.int .u8) x.Data))]
theorem T_Frame.ilen (x : T_Frame) : (T_Frame.ienc x).length = 5 := rfl
def T_Frame.wf (x : T_Frame) : Prop := wfI .i64 x.Kind ∧ wfI .i64 x.Number ∧ wfI .i64 x.Offset ∧ wfI .i64 x.Seq ∧ wfL (wfI .u8) x.Data

def wherryref18_pieces (b : (List Int)) : Option Int :=
  (some (IntKind.i64.wrap ((b.length : Int) + 48))).bind fun v1 =>
  (some (IntKind.i64.wrap (v1 - 1))).bind fun v2 =>
  (quoO .i64 v2 48).bind fun v3 =>
  some (v3)

def wherryref18_in (n : Int) (lo : Int) (hi : Int) : Option Bool :=
  bindS (S := Bool) (A := Bool)
    (cond ((decide (lo ≤ n)))
      (some (.inl ((decide (n ≤ hi)))))
      (some (.inl false)))
    (fun (s1 : Bool) =>
      some (s1)) some

def wherryref18_Send (s : T_Send) : Option Bool :=
  (wherryref18_pieces s.Data).bind fun v1 =>
  bindS (S := Bool) (A := Bool)
    ((wherryref18_in s.Number 1 65535).bind fun v2 =>
    cond (v2)
      ((wherryref18_in (s.Data.length : Int) 1 5000).bind fun v3 =>
      cond (v3)
        ((wherryref18_in s.Base 0 v1).bind fun v4 =>
        cond (v4)
          ((some (IntKind.i64.wrap (s.Base + 7))).bind fun v5 =>
          (some (if v1 < v5 then v1 else v5)).bind fun v6 =>
          (wherryref18_in s.Next s.Base v6).bind fun v7 =>
          cond (v7)
            ((wherryref18_in s.Wait 0 3).bind fun v8 =>
            cond (v8)
              (cond (s.Ready)
                (some (.inl true))
                (cond ((s.Base == 0))
                  (some (.inl (s.Next == 0)))
                  (some (.inl false))))
              (some (.inl false)))
            (some (.inl false)))
          (some (.inl false)))
        (some (.inl false)))
      (some (.inl false)))
    (fun (s9 : Bool) =>
      some (s9)) some

def sender_pieces (s : T_Send) : Option Int :=
  (some (IntKind.i64.wrap ((s.Data.length : Int) + 48))).bind fun v1 =>
  (some (IntKind.i64.wrap (v1 - 1))).bind fun v2 =>
  (quoO .i64 v2 48).bind fun v3 =>
  some (v3)

def sender_window (s : T_Send) : Option Int :=
  (some (IntKind.i64.wrap (s.Base + 7))).bind fun v1 =>
  (sender_pieces s).bind fun v2 =>
  (some (if v2 < v1 then v2 else v1)).bind fun v3 =>
  some (v3)

def sender_Check (s : T_Send) : Option Int :=
  (sender_pieces s).bind fun v1 =>
  bindS (S := Bool) (A := Int)
    (bindS (S := Bool) (A := (Bool ⊕ Int))
      (cond ((decide (s.Number < 1)))
        (some (.inl true))
        (some (.inl ((decide (65535 < s.Number))))))
      (fun (s36 : Bool) =>
        cond (s36)
          (some (.inl s36))
          (bindS (S := Bool) (A := (Bool ⊕ Int))
            (cond ((decide ((s.Data.length : Int) < 1)))
              (some (.inl true))
              (some (.inl ((decide (5000 < (s.Data.length : Int)))))))
            (fun (s41 : Bool) =>
              cond (s41)
                (some (.inl s41))
                (bindS (S := Bool) (A := (Bool ⊕ Int))
                  (cond ((decide (s.Base < 0)))
                    (some (.inl true))
                    (some (.inl ((decide (v1 < s.Base))))))
                  (fun (s46 : Bool) =>
                    cond (s46)
                      (some (.inl s46))
                      (bindS (S := Bool) (A := (Bool ⊕ Int))
                        (cond ((decide (s.Next < s.Base)))
                          (some (.inl true))
                          ((sender_window s).bind fun v17 =>
                          some (.inl ((decide (v17 < s.Next))))))
                        (fun (s51 : Bool) =>
                          cond (s51)
                            (some (.inl s51))
                            (bindS (S := Bool) (A := (Bool ⊕ Int))
                              (cond ((decide (s.Wait < 0)))
                                (some (.inl true))
                                (some (.inl ((decide (3 < s.Wait))))))
                              (fun (s56 : Bool) =>
                                cond (s56)
                                  (some (.inl s56))
                                  (bindS (S := Bool) (A := (Bool ⊕ Int))
                                    (cond ((!s.Ready))
                                      (cond ((s.Base != 0))
                                        (some (.inl true))
                                        (some (.inl (s.Next != 0))))
                                      (some (.inl false)))
                                    (fun (s61 : Bool) =>
                                      some (.inl s61)) some)) some)) some)) some)) some)) some)
    (fun (s32 : Bool) =>
      cond (s32)
        (some (1))
        (some (0))) some

def clone_List_byte (l : (List Int)) : Option (List Int) :=
  (appO 1 ([] : List Int) l).bind fun v1 =>
  some (v1)

def clone_Send (s : T_Send) : Option T_Send :=
  (clone_List_byte s.Data).bind fun v1 =>
  some ((T_Send.mk s.Number v1 s.Ready s.Base s.Next s.Wait s.Over))

def sender_hello (s : T_Send) : Option T_Frame :=
  some ((T_Frame.mk 1 s.Number (s.Data.length : Int) 0 []))

def sender_piece (s : T_Send) (i : Int) : Option T_Frame :=
  (some (IntKind.i64.wrap (i * 48))).bind fun v1 =>
  (some (IntKind.i64.wrap (v1 + 48))).bind fun v2 =>
  (some (if (s.Data.length : Int) < v2 then (s.Data.length : Int) else v2)).bind fun v3 =>
  (remO i 8).bind fun v4 =>
  (sliO s.Data v1 v3).bind fun v5 =>
  (clone_List_byte v5).bind fun v6 =>
  some ((T_Frame.mk 3 s.Number v1 v4 v6))

def sender_Tick (s : T_Send) : Option (T_Send × (List T_Frame) × Int) :=
  (sender_Check s).bind fun v1 =>
  cond ((v1 != 0))
    (some (((T_Send.mk 0 [] false 0 0 0 false), [], v1)))
    ((clone_Send s).bind fun v3 =>
    (sender_window v3).bind fun v4 =>
    bindS (S := Bool × Int × Int × Int × (List T_Frame)) (A := (T_Send × (List T_Frame) × Int))
      (cond (v3.Over)
        (some (.inl (v3.Ready, v3.Base, v3.Next, v3.Wait, [])))
        (bindS (S := Bool) (A := ((Bool × Int × Int × Int × (List T_Frame)) ⊕ (T_Send × (List T_Frame) × Int)))
          (cond ((!v3.Ready))
            (some (.inl true))
            ((sender_pieces v3).bind fun v6 =>
            some (.inl (v3.Base == v6))))
          (fun (s48 : Bool) =>
            cond (s48)
              (cond ((decide (0 < v3.Wait)))
                ((some (IntKind.i64.wrap (v3.Wait - 1))).bind fun v13 =>
                some (.inl (v3.Ready, v3.Base, v3.Next, v13, [])))
                ((sender_hello v3).bind fun v14 =>
                (appO 56 ([] : List T_Frame) [v14]).bind fun v15 =>
                some (.inl (v3.Ready, v3.Base, v3.Next, 3, v15))))
              (cond ((decide (v3.Next < v4)))
                (bindS (S := ((List T_Frame))) (A := ((Bool × Int × Int × Int × (List T_Frame)) ⊕ (T_Send × (List T_Frame) × Int)))
                  (loopF (S := ((List T_Frame) × Int)) (O := ((List T_Frame)) ⊕ ((Bool × Int × Int × Int × (List T_Frame)) ⊕ (T_Send × (List T_Frame) × Int))) (fun ((s59, s60) : (List T_Frame) × Int) =>
                    cond ((decide (s60 < v4)))
                      ((sender_piece v3 s60).bind fun v18 =>
                      (appO 56 s59 [v18]).bind fun v19 =>
                      (some (IntKind.i64.wrap (s60 + 1))).bind fun v20 =>
                      some (.inl (v19, v20)))
                      (some (.inr (.inl s59))))
                    BIG ([], v3.Next))
                  (fun (s62 : (List T_Frame)) =>
                    some (.inl (v3.Ready, v3.Base, v4, 3, s62))) some)
                (cond ((v3.Wait == 0))
                  ((sender_hello v3).bind fun v36 =>
                  (appO 56 ([] : List T_Frame) [v36]).bind fun v37 =>
                  some (.inl (false, 0, 0, 3, v37)))
                  ((some (IntKind.i64.wrap (v3.Wait - 1))).bind fun v38 =>
                  some (.inl (v3.Ready, v3.Base, v3.Next, v38, [])))))) some))
      (fun ((s39, s40, s41, s42, s43) : Bool × Int × Int × Int × (List T_Frame)) =>
        some (((T_Send.mk v3.Number v3.Data s39 s40 s41 s42 v3.Over), s43, 0))) some)

def sender_New (number : Int) (data : (List Int)) : Option (T_Send × Int) :=
  (clone_List_byte data).bind fun v1 =>
  (sender_Check (T_Send.mk number v1 false 0 0 0 false)).bind fun v2 =>
  cond ((v2 != 0))
    (some (((T_Send.mk 0 [] false 0 0 0 false), v2)))
    (some (((T_Send.mk number v1 false 0 0 0 false), 0)))

def sender_Pieces (s : T_Send) : Option Int :=
  (sender_Check s).bind fun v1 =>
  cond ((v1 != 0))
    (some (0))
    ((sender_pieces s).bind fun v3 =>
    some (v3))

def wherrylaw21_wakes : Option Bool :=
  (sender_New 1 [7]).bind fun v1 =>
  (sender_Tick v1.1).bind fun v2 =>
  bindS (S := Bool) (A := Bool)
    (cond ((v1.2 == 0))
      (cond ((v2.2.2 == 0))
        (cond (((v2.2.1.length : Int) == 1))
          ((ixO 0 v2.2.1.length).bind fun v3 =>
          (getO v2.2.1 v3).bind fun v4 =>
          cond ((v4.Kind == 1))
            ((ixO 0 v2.2.1.length).bind fun v5 =>
            (getO v2.2.1 v5).bind fun v6 =>
            cond ((v6.Offset == 1))
              (cond ((v2.1.Wait == 3))
                ((sender_Pieces v1.1).bind fun v7 =>
                some (.inl (v7 == 1)))
                (some (.inl false)))
              (some (.inl false)))
            (some (.inl false)))
          (some (.inl false)))
        (some (.inl false)))
      (some (.inl false)))
    (fun (s8 : Bool) =>
      some (s8)) some

def wherrylaw21_SenderAsks (s : T_Send) (ticks : Int) : Option Bool :=
  bindS (S := Bool) (A := Bool)
    (cond ((decide (5100 < (s.Data.length : Int))))
      (some (.inl true))
      ((wherryref18_Send s).bind fun v1 =>
      some (.inl (!v1))))
    (fun (s2 : Bool) =>
      cond (s2)
        (some (true))
        ((some (IntKind.u64.wrap ticks)).bind fun v7 =>
        (remO v7 30).bind fun v8 =>
        (some (IntKind.i64.wrap v8)).bind fun v9 =>
        (some (IntKind.i64.wrap (1 + v9))).bind fun v10 =>
        bindS (S := (Int × (List Int) × Bool × Int × Int × Int × Bool × Bool)) (A := Bool)
          (loopF (S := (Int × (List Int) × Bool × Int × Int × Int × Bool × Int × Bool × Int)) (O := (Int × (List Int) × Bool × Int × Int × Int × Bool × Bool) ⊕ Bool) (fun ((s62, s63, s64, s65, s66, s67, s68, s69, s70, s71) : Int × (List Int) × Bool × Int × Int × Int × Bool × Int × Bool × Int) =>
            cond ((decide (s71 < v10)))
              ((sender_Tick (T_Send.mk s62 s63 s64 s65 s66 s67 s68)).bind fun v12 =>
              cond ((v12.2.2 != 0))
                (some (.inr (.inr (false))))
                ((some (IntKind.i64.wrap (s69 + 1))).bind fun v14 =>
                bindS (S := Int) (A := ((Int × (List Int) × Bool × Int × Int × Int × Bool × Int × Bool × Int) ⊕ ((Int × (List Int) × Bool × Int × Int × Int × Bool × Bool) ⊕ Bool)))
                  (cond ((decide (0 < (v12.2.1.length : Int))))
                    (some (.inl 0))
                    (some (.inl v14)))
                  (fun (s106 : Int) =>
                    bindS (S := Bool) (A := ((Int × (List Int) × Bool × Int × Int × Int × Bool × Int × Bool × Int) ⊕ ((Int × (List Int) × Bool × Int × Int × Int × Bool × Bool) ⊕ Bool)))
                      (cond (s70)
                        (some (.inl true))
                        (cond (((v12.2.1.length : Int) == 1))
                          ((ixO 0 v12.2.1.length).bind fun v51 =>
                          (getO v12.2.1 v51).bind fun v52 =>
                          some (.inl (v52.Kind == 1)))
                          (some (.inl false))))
                      (fun (s111 : Bool) =>
                        bindS (S := Bool) (A := ((Int × (List Int) × Bool × Int × Int × Int × Bool × Int × Bool × Int) ⊕ ((Int × (List Int) × Bool × Int × Int × Int × Bool × Bool) ⊕ Bool)))
                          (cond ((decide (3 < s106)))
                            (cond ((!s68))
                              (some (.inl true))
                              (cond (s68)
                                (some (.inl ((decide (0 < (v12.2.1.length : Int))))))
                                (some (.inl false))))
                            (cond (s68)
                              (some (.inl ((decide (0 < (v12.2.1.length : Int))))))
                              (some (.inl false))))
                          (fun (s115 : Bool) =>
                            cond (s115)
                              (some (.inr (.inr (false))))
                              ((some (IntKind.i64.wrap (s71 + 1))).bind fun v32 =>
                              some (.inl (v12.1.Number, v12.1.Data, v12.1.Ready, v12.1.Base, v12.1.Next, v12.1.Wait, v12.1.Over, s106, s111, v32)))) some) some) some))
              (some (.inr (.inl (s62, s63, s64, s65, s66, s67, s68, s70)))))
            BIG (s.Number, s.Data, s.Ready, s.Base, s.Next, s.Wait, s.Over, 0, false, 0))
          (fun ((s89, s90, s91, s92, s93, s94, s95, s96) : Int × (List Int) × Bool × Int × Int × Int × Bool × Bool) =>
            bindS (S := Bool) (A := Bool)
              (cond (s95)
                ((wherrylaw21_wakes ).bind fun v120 =>
                some (.inl v120))
                (cond ((decide (v10 < 9)))
                  ((wherrylaw21_wakes ).bind fun v121 =>
                  some (.inl v121))
                  (cond (s96)
                    ((wherrylaw21_wakes ).bind fun v122 =>
                    some (.inl v122))
                    (some (.inl false)))))
              (fun (s123 : Bool) =>
                some (s123)) some) some)) some

def wherrykeep_Bytes (a : (List Int)) (b : (List Int)) : Option Bool :=
  cond (((a.length : Int) != (b.length : Int)))
    (some (false))
    (bindS (S := (Unit)) (A := Bool)
      (loopF (S := (Int)) (O := (Unit) ⊕ Bool) (fun (s12 : Int) =>
        cond ((decide (s12 < (a.length : Int))))
          ((ixO s12 a.length).bind fun v3 =>
          (getO a v3).bind fun v4 =>
          (ixO s12 b.length).bind fun v5 =>
          (getO b v5).bind fun v6 =>
          cond ((v4 != v6))
            (some (.inr (.inr (false))))
            ((some (IntKind.i64.wrap (s12 + 1))).bind fun v8 =>
            some (.inl v8)))
          (some (.inr (.inl ()))))
        BIG 0)
      (fun (() : Unit) =>
        some (true)) some)

def wherrykeep_Frame (a : T_Frame) (b : T_Frame) : Option Bool :=
  bindS (S := Bool) (A := Bool)
    (cond ((a.Kind == b.Kind))
      (cond ((a.Number == b.Number))
        (cond ((a.Offset == b.Offset))
          (cond ((a.Seq == b.Seq))
            ((wherrykeep_Bytes a.Data b.Data).bind fun v1 =>
            some (.inl v1))
            (some (.inl false)))
          (some (.inl false)))
        (some (.inl false)))
      (some (.inl false)))
    (fun (s2 : Bool) =>
      some (s2)) some

def wherryref18_Frame (f : T_Frame) : Option Bool :=
  (wherryref18_in f.Number 1 65535).bind fun v1 =>
  bindS (S := Int × Int × (List Int) × Bool) (A := Bool)
    (bindS (S := Int × Int × (List Int) × Bool) (A := ((Int × Int × (List Int) × Bool) ⊕ Bool))
      (bindS (S := Bool) (A := ((Int × Int × (List Int) × Bool) ⊕ ((Int × Int × (List Int) × Bool) ⊕ Bool)))
        (cond ((f.Kind == 1))
          (some (.inl (f.Kind == 1)))
          (some (.inl (f.Kind == 2))))
        (fun (s95 : Bool) =>
          cond (s95)
            (bindS (S := Bool) (A := ((Int × Int × (List Int) × Bool) ⊕ ((Int × Int × (List Int) × Bool) ⊕ Bool)))
              (cond (v1)
                ((wherryref18_in f.Offset 0 5000).bind fun v9 =>
                some (.inl v9))
                (some (.inl false)))
              (fun (s101 : Bool) =>
                some (.inl (f.Offset, 0, [], s101))) some)
            (cond ((f.Kind == 3))
              (bindS (S := Bool) (A := ((Int × Int × (List Int) × Bool) ⊕ ((Int × Int × (List Int) × Bool) ⊕ Bool)))
                (cond (v1)
                  ((wherryref18_in f.Offset 0 5000).bind fun v15 =>
                  cond (v15)
                    ((wherryref18_in f.Seq 0 7).bind fun v16 =>
                    cond (v16)
                      ((wherryref18_in (f.Data.length : Int) 1 48).bind fun v17 =>
                      some (.inl v17))
                      (some (.inl false)))
                    (some (.inl false)))
                  (some (.inl false)))
                (fun (s106 : Bool) =>
                  some (.inl (f.Offset, f.Seq, f.Data, s106))) some)
              (cond ((f.Kind == 4))
                (bindS (S := Bool) (A := ((Int × Int × (List Int) × Bool) ⊕ ((Int × Int × (List Int) × Bool) ⊕ Bool)))
                  (cond (v1)
                    ((wherryref18_in f.Seq 0 7).bind fun v23 =>
                    some (.inl v23))
                    (some (.inl false)))
                  (fun (s111 : Bool) =>
                    some (.inl (0, f.Seq, [], s111))) some)
                (cond ((f.Kind == 5))
                  (some (.inl (0, 0, [], v1)))
                  (some (.inl (0, 0, [], false))))))) some)
      (fun ((s87, s88, s89, s90) : Int × Int × (List Int) × Bool) =>
        some (.inl (s87, s88, s89, s90))) some)
    (fun ((s58, s59, s60, s61) : Int × Int × (List Int) × Bool) =>
      bindS (S := Bool) (A := Bool)
        (cond (s61)
          ((wherrykeep_Frame (T_Frame.mk f.Kind f.Number s58 s59 s60) f).bind fun v116 =>
          some (.inl v116))
          (some (.inl false)))
        (fun (s117 : Bool) =>
          some (s117)) some) some

def frame_Check (f : T_Frame) : Option Int :=
  bindS (S := Bool) (A := Int)
    (cond ((decide (0 ≤ f.Offset)))
      (some (.inl ((decide (f.Offset ≤ 5000)))))
      (some (.inl false)))
    (fun (s1 : Bool) =>
      bindS (S := Bool) (A := Int)
        (cond ((decide (0 ≤ f.Seq)))
          (some (.inl ((decide (f.Seq ≤ 7)))))
          (some (.inl false)))
        (fun (s5 : Bool) =>
          bindS (S := Bool) (A := Int)
            (bindS (S := Bool) (A := (Bool ⊕ Int))
              (bindS (S := Bool) (A := (Bool ⊕ (Bool ⊕ Int)))
                (cond ((f.Kind == 1))
                  (some (.inl (f.Kind == 1)))
                  (some (.inl (f.Kind == 2))))
                (fun (s100 : Bool) =>
                  cond (s100)
                    (bindS (S := Bool) (A := (Bool ⊕ (Bool ⊕ Int)))
                      (cond (s1)
                        (cond ((f.Seq == 0))
                          (some (.inl (((f.Data.length : Int) == 0))))
                          (some (.inl false)))
                        (some (.inl false)))
                      (fun (s106 : Bool) =>
                        some (.inl s106)) some)
                    (cond ((f.Kind == 3))
                      (bindS (S := Bool) (A := (Bool ⊕ (Bool ⊕ Int)))
                        (cond (s1)
                          (cond (s5)
                            (cond ((!(((f.Data.length : Int) == 0))))
                              (some (.inl ((decide ((f.Data.length : Int) ≤ 48)))))
                              (some (.inl false)))
                            (some (.inl false)))
                          (some (.inl false)))
                        (fun (s111 : Bool) =>
                          some (.inl s111)) some)
                      (cond ((f.Kind == 4))
                        (bindS (S := Bool) (A := (Bool ⊕ (Bool ⊕ Int)))
                          (cond ((f.Offset == 0))
                            (cond (s5)
                              (some (.inl (((f.Data.length : Int) == 0))))
                              (some (.inl false)))
                            (some (.inl false)))
                          (fun (s116 : Bool) =>
                            some (.inl s116)) some)
                        (cond ((f.Kind == 5))
                          (bindS (S := Bool) (A := (Bool ⊕ (Bool ⊕ Int)))
                            (cond ((f.Offset == 0))
                              (cond ((f.Seq == 0))
                                (some (.inl (((f.Data.length : Int) == 0))))
                                (some (.inl false)))
                              (some (.inl false)))
                            (fun (s121 : Bool) =>
                              some (.inl s121)) some)
                          (some (.inl false)))))) some)
              (fun (s95 : Bool) =>
                some (.inl s95)) some)
            (fun (s65 : Bool) =>
              bindS (S := Bool) (A := Int)
                (cond ((!s65))
                  (some (.inl true))
                  (cond ((decide (f.Number < 1)))
                    (some (.inl true))
                    (some (.inl ((decide (65535 < f.Number)))))))
                (fun (s125 : Bool) =>
                  cond (s125)
                    (some (1))
                    (some (0))) some) some) some) some

def sender_ready (s : T_Send) (offset : Int) : Option (Bool × T_Send) :=
  bindS (S := Bool) (A := (Bool × T_Send))
    (cond ((!((offset == (s.Data.length : Int)))))
      (cond ((decide ((s.Data.length : Int) < offset)))
        (some (.inl true))
        ((remO offset 48).bind fun v1 =>
        some (.inl (v1 != 0))))
      (some (.inl false)))
    (fun (s2 : Bool) =>
      cond (s2)
        (some ((false, s)))
        ((quoO .i64 offset 48).bind fun v7 =>
        bindS (S := Int) (A := (Bool × T_Send))
          (cond ((offset == (s.Data.length : Int)))
            ((sender_pieces s).bind fun v9 =>
            some (.inl v9))
            (some (.inl v7)))
          (fun (s10 : Int) =>
            some ((true, (T_Send.mk s.Number s.Data true s10 s10 0 s.Over)))) some)) some

def sender_ack (s : T_Send) (seq : Int) : Option (Bool × T_Send) :=
  cond ((!s.Ready))
    (some ((false, s)))
    ((some (IntKind.i64.wrap (s.Base + 1))).bind fun v2 =>
    bindS (S := (Unit)) (A := (Bool × T_Send))
      (loopF (S := (Int)) (O := (Unit) ⊕ (Bool × T_Send)) (fun (s10 : Int) =>
        cond ((decide (s10 ≤ s.Next)))
          ((remO s10 8).bind fun v4 =>
          cond ((v4 == seq))
            (some (.inr (.inr ((true, (T_Send.mk s.Number s.Data s.Ready s10 s.Next 3 s.Over))))))
            ((some (IntKind.i64.wrap (s10 + 1))).bind fun v6 =>
            some (.inl v6)))
          (some (.inr (.inl ()))))
        BIG v2)
      (fun (() : Unit) =>
        some ((false, s))) some)

def sender_Hear (s : T_Send) (f : T_Frame) : Option (T_Send × Int) :=
  (sender_Check s).bind fun v1 =>
  cond ((v1 != 0))
    (some (((T_Send.mk 0 [] false 0 0 0 false), v1)))
    ((frame_Check f).bind fun v3 =>
    cond ((v3 != 0))
      (some (((T_Send.mk 0 [] false 0 0 0 false), v3)))
      (bindS (S := Bool) (A := (T_Send × Int))
        (cond ((f.Number != s.Number))
          (some (.inl true))
          (some (.inl s.Over)))
        (fun (s5 : Bool) =>
          cond (s5)
            (some (((T_Send.mk 0 [] false 0 0 0 false), 11)))
            ((clone_Send s).bind fun v10 =>
            bindS (S := Int × (List Int) × Bool × Int × Int × Int × Bool × Bool) (A := (T_Send × Int))
              (bindS (S := Int × (List Int) × Bool × Int × Int × Int × Bool × Bool) (A := ((Int × (List Int) × Bool × Int × Int × Int × Bool × Bool) ⊕ (T_Send × Int)))
                (cond ((f.Kind == 2))
                  ((sender_ready v10 f.Offset).bind fun v12 =>
                  some (.inl (v12.2.Number, v12.2.Data, v12.2.Ready, v12.2.Base, v12.2.Next, v12.2.Wait, v12.2.Over, v12.1)))
                  (cond ((f.Kind == 4))
                    ((sender_ack v10 f.Seq).bind fun v14 =>
                    some (.inl (v14.2.Number, v14.2.Data, v14.2.Ready, v14.2.Base, v14.2.Next, v14.2.Wait, v14.2.Over, v14.1)))
                    (cond ((f.Kind == 5))
                      (some (.inl (v10.Number, v10.Data, v10.Ready, v10.Base, v10.Next, v10.Wait, true, true)))
                      (some (.inl (v10.Number, v10.Data, v10.Ready, v10.Base, v10.Next, v10.Wait, v10.Over, false))))))
                (fun ((s44, s45, s46, s47, s48, s49, s50, s51) : Int × (List Int) × Bool × Int × Int × Int × Bool × Bool) =>
                  some (.inl (s44, s45, s46, s47, s48, s49, s50, s51))) some)
              (fun ((s30, s31, s32, s33, s34, s35, s36, s37) : Int × (List Int) × Bool × Int × Int × Int × Bool × Bool) =>
                cond ((!s37))
                  (some (((T_Send.mk 0 [] false 0 0 0 false), 11)))
                  (some (((T_Send.mk s30 s31 s32 s33 s34 s35 s36), 0)))) some)) some))

def wherrylaw21_SenderStays (s : T_Send) (l : (List T_Frame)) : Option Bool :=
  bindS (S := Bool) (A := Bool)
    (cond ((decide (5100 < (s.Data.length : Int))))
      (some (.inl true))
      (cond ((decide (40 < (l.length : Int))))
        (some (.inl true))
        ((sender_Check s).bind fun v1 =>
        some (.inl (v1 != 0)))))
    (fun (s2 : Bool) =>
      cond (s2)
        (bindS (S := Bool) (A := Bool)
          ((wherryref18_Send s).bind fun v7 =>
          cond ((!v7))
            (some (.inl true))
            (cond ((decide (5100 < (s.Data.length : Int))))
              (some (.inl true))
              (some (.inl ((decide (40 < (l.length : Int))))))))
          (fun (s8 : Bool) =>
            some (s8)) some)
        (bindS (S := (Unit)) (A := Bool)
          (loopF (S := (Int × (List Int) × Bool × Int × Int × Int × Bool × Int)) (O := (Unit) ⊕ Bool) (fun ((s329, s330, s331, s332, s333, s334, s335, s336) : Int × (List Int) × Bool × Int × Int × Int × Bool × Int) =>
            cond ((decide (s336 < (l.length : Int))))
              (bindS (S := Int × (List Int) × Bool × Int × Int × Int × Bool) (A := ((Int × (List Int) × Bool × Int × Int × Int × Bool × Int) ⊕ ((Unit) ⊕ Bool)))
                ((ixO s336 l.length).bind fun v13 =>
                (getO l v13).bind fun v14 =>
                cond ((decide (300 < (v14.Data.length : Int))))
                  (some (.inr (.inr (.inr (true)))))
                  ((sender_Tick (T_Send.mk s329 s330 s331 s332 s333 s334 s335)).bind fun v16 =>
                  bindS (S := Bool) (A := ((Int × (List Int) × Bool × Int × Int × Int × Bool) ⊕ ((Int × (List Int) × Bool × Int × Int × Int × Bool × Int) ⊕ ((Unit) ⊕ Bool))))
                    (cond ((v16.2.2 != 0))
                      (some (.inl true))
                      ((wherryref18_Send v16.1).bind fun v17 =>
                      cond ((!v17))
                        (some (.inl true))
                        (cond ((decide (7 < (v16.2.1.length : Int))))
                          (some (.inl true))
                          (cond ((v16.1.Number != s.Number))
                            (some (.inl true))
                            ((wherrykeep_Bytes v16.1.Data s.Data).bind fun v18 =>
                            some (.inl (!v18)))))))
                    (fun (s558 : Bool) =>
                      cond (s558)
                        (some (.inr (.inr (.inr (false)))))
                        (bindS (S := (Unit)) (A := ((Int × (List Int) × Bool × Int × Int × Int × Bool) ⊕ ((Int × (List Int) × Bool × Int × Int × Int × Bool × Int) ⊕ ((Unit) ⊕ Bool))))
                          (loopF (S := (Int)) (O := (Unit) ⊕ ((Int × (List Int) × Bool × Int × Int × Int × Bool) ⊕ ((Int × (List Int) × Bool × Int × Int × Int × Bool × Int) ⊕ ((Unit) ⊕ Bool)))) (fun (s586 : Int) =>
                            cond ((decide (s586 < (v16.2.1.length : Int))))
                              (bindS (S := Bool) (A := ((Int) ⊕ ((Unit) ⊕ ((Int × (List Int) × Bool × Int × Int × Int × Bool) ⊕ ((Int × (List Int) × Bool × Int × Int × Int × Bool × Int) ⊕ ((Unit) ⊕ Bool))))))
                                ((ixO s586 v16.2.1.length).bind fun v25 =>
                                (getO v16.2.1 v25).bind fun v26 =>
                                (wherryref18_Frame v26).bind fun v27 =>
                                cond ((!v27))
                                  (some (.inl true))
                                  ((ixO s586 v16.2.1.length).bind fun v28 =>
                                  (getO v16.2.1 v28).bind fun v29 =>
                                  cond ((v29.Number != s.Number))
                                    (some (.inl true))
                                    (some (.inl s335))))
                                (fun (s605 : Bool) =>
                                  cond (s605)
                                    (some (.inr (.inr (.inr (.inr (.inr (false)))))))
                                    ((ixO s586 v16.2.1.length).bind fun v35 =>
                                    (getO v16.2.1 v35).bind fun v36 =>
                                    bindS (S := Bool) (A := ((Int) ⊕ ((Unit) ⊕ ((Int × (List Int) × Bool × Int × Int × Int × Bool) ⊕ ((Int × (List Int) × Bool × Int × Int × Int × Bool × Int) ⊕ ((Unit) ⊕ Bool))))))
                                      ((ixO s586 v16.2.1.length).bind fun v37 =>
                                      (getO v16.2.1 v37).bind fun v38 =>
                                      cond ((v38.Kind == 3))
                                        ((ixO s586 v16.2.1.length).bind fun v39 =>
                                        (getO v16.2.1 v39).bind fun v40 =>
                                        (some (IntKind.i64.wrap (v36.Offset + (v40.Data.length : Int)))).bind fun v41 =>
                                        cond ((decide ((s.Data.length : Int) < v41)))
                                          (some (.inl true))
                                          ((ixO s586 v16.2.1.length).bind fun v42 =>
                                          (getO v16.2.1 v42).bind fun v43 =>
                                          (ixO s586 v16.2.1.length).bind fun v44 =>
                                          (getO v16.2.1 v44).bind fun v45 =>
                                          (some (IntKind.i64.wrap (v36.Offset + (v45.Data.length : Int)))).bind fun v46 =>
                                          (sliO s.Data v36.Offset v46).bind fun v47 =>
                                          (wherrykeep_Bytes v43.Data v47).bind fun v48 =>
                                          some (.inl (!v48))))
                                        (some (.inl false)))
                                      (fun (s610 : Bool) =>
                                        cond (s610)
                                          (some (.inr (.inr (.inr (.inr (.inr (false)))))))
                                          ((some (IntKind.i64.wrap (s586 + 1))).bind fun v54 =>
                                          some (.inl v54))) some)) some)
                              (some (.inr (.inl ()))))
                            BIG 0)
                          (fun (() : Unit) =>
                            (ixO s336 l.length).bind fun v96 =>
                            (getO l v96).bind fun v97 =>
                            (sender_Hear v16.1 v97).bind fun v98 =>
                            cond ((v98.2 != 0))
                              (some (.inl (v16.1.Number, v16.1.Data, v16.1.Ready, v16.1.Base, v16.1.Next, v16.1.Wait, v16.1.Over)))
                              (bindS (S := Bool) (A := ((Int × (List Int) × Bool × Int × Int × Int × Bool) ⊕ ((Int × (List Int) × Bool × Int × Int × Int × Bool × Int) ⊕ ((Unit) ⊕ Bool))))
                                ((wherryref18_Send v98.1).bind fun v100 =>
                                cond ((!v100))
                                  (some (.inl true))
                                  (cond ((v98.1.Number != s.Number))
                                    (some (.inl true))
                                    ((wherrykeep_Bytes v98.1.Data s.Data).bind fun v101 =>
                                    cond ((!v101))
                                      (some (.inl true))
                                      (some (.inl v16.1.Over)))))
                                (fun (s616 : Bool) =>
                                  cond (s616)
                                    (some (.inr (.inr (.inr (false)))))
                                    (some (.inl (v98.1.Number, v98.1.Data, v98.1.Ready, v98.1.Base, v98.1.Next, v98.1.Wait, v98.1.Over)))) some)) some)) some))
                (fun ((s547, s548, s549, s550, s551, s552, s553) : Int × (List Int) × Bool × Int × Int × Int × Bool) =>
                  (some (IntKind.i64.wrap (s336 + 1))).bind fun v181 =>
                  some (.inl (s547, s548, s549, s550, s551, s552, s553, v181))) some)
              (some (.inr (.inl ()))))
            BIG (s.Number, s.Data, s.Ready, s.Base, s.Next, s.Wait, s.Over, 0))
          (fun (() : Unit) =>
            (wherrylaw21_wakes ).bind fun v621 =>
            some (v621)) some)) some

def wherrylaw21_SenderWhole (number : Int) (data : (List Int)) (from_ : Int) : Option Bool :=
  cond ((decide (2000 < (data.length : Int))))
    (some (true))
    ((some (IntKind.u64.wrap number)).bind fun v2 =>
    (remO v2 65535).bind fun v3 =>
    (some (IntKind.i64.wrap v3)).bind fun v4 =>
    (some (IntKind.i64.wrap (1 + v4))).bind fun v5 =>
    (sender_New v5 data).bind fun v6 =>
    cond ((v6.2 != 0))
      (bindS (S := Bool) (A := Bool)
        (cond ((v6.2 == 1))
          (cond (((data.length : Int) == 0))
            ((wherrylaw21_wakes ).bind fun v8 =>
            some (.inl v8))
            (some (.inl false)))
          (some (.inl false)))
        (fun (s9 : Bool) =>
          some (s9)) some)
      ((sender_Pieces v6.1).bind fun v13 =>
      cond ((decide (v13 < 1)))
        (some (false))
        ((some (IntKind.u64.wrap from_)).bind fun v15 =>
        (some (IntKind.u64.wrap v13)).bind fun v16 =>
        (remO v15 v16).bind fun v17 =>
        (some (IntKind.i64.wrap v17)).bind fun v18 =>
        (some (IntKind.i64.wrap (v18 * 48))).bind fun v19 =>
        (sliO data 0 v19).bind fun v20 =>
        (appO 1 ([] : List Int) v20).bind fun v21 =>
        bindS (S := (Unit)) (A := Bool)
          (loopF (S := (Int × (List Int) × Bool × Int × Int × Int × Bool × Int × (List Int) × Int)) (O := (Unit) ⊕ Bool) (fun ((s528, s529, s530, s531, s532, s533, s534, s535, s536, s537) : Int × (List Int) × Bool × Int × Int × Int × Bool × Int × (List Int) × Int) =>
            (some (IntKind.i64.wrap (v13 + 3))).bind fun v22 =>
            cond ((decide (s537 < v22)))
              ((sender_Tick (T_Send.mk s528 s529 s530 s531 s532 s533 s534)).bind fun v24 =>
              cond ((v24.2.2 != 0))
                (some (.inr (.inr (false))))
                (bindS (S := (Int × (List Int) × Bool × Int × Int × Int × Bool × Int × (List Int))) (A := ((Int × (List Int) × Bool × Int × Int × Int × Bool × Int × (List Int) × Int) ⊕ ((Unit) ⊕ Bool)))
                  (loopF (S := (Int × (List Int) × Bool × Int × Int × Int × Bool × Int × (List Int) × Int)) (O := (Int × (List Int) × Bool × Int × Int × Int × Bool × Int × (List Int)) ⊕ ((Int × (List Int) × Bool × Int × Int × Int × Bool × Int × (List Int) × Int) ⊕ ((Unit) ⊕ Bool))) (fun ((s857, s858, s859, s860, s861, s862, s863, s864, s865, s866) : Int × (List Int) × Bool × Int × Int × Int × Bool × Int × (List Int) × Int) =>
                    cond ((decide (s866 < (v24.2.1.length : Int))))
                      (bindS (S := Int × (List Int) × Int × Int × Int) (A := ((Int × (List Int) × Bool × Int × Int × Int × Bool × Int × (List Int) × Int) ⊕ ((Int × (List Int) × Bool × Int × Int × Int × Bool × Int × (List Int)) ⊕ ((Int × (List Int) × Bool × Int × Int × Int × Bool × Int × (List Int) × Int) ⊕ ((Unit) ⊕ Bool)))))
                        (bindS (S := Bool) (A := ((Int × (List Int) × Int × Int × Int) ⊕ ((Int × (List Int) × Bool × Int × Int × Int × Bool × Int × (List Int) × Int) ⊕ ((Int × (List Int) × Bool × Int × Int × Int × Bool × Int × (List Int)) ⊕ ((Int × (List Int) × Bool × Int × Int × Int × Bool × Int × (List Int) × Int) ⊕ ((Unit) ⊕ Bool))))))
                          ((ixO s866 v24.2.1.length).bind fun v27 =>
                          (getO v24.2.1 v27).bind fun v28 =>
                          cond ((v28.Kind == 1))
                            (some (.inl (((s865.length : Int) == (data.length : Int)))))
                            (some (.inl false)))
                          (fun (s934 : Bool) =>
                            cond (s934)
                              (some (.inl (s864, s865, 5, 0, 0)))
                              ((ixO s866 v24.2.1.length).bind fun v34 =>
                              (getO v24.2.1 v34).bind fun v35 =>
                              cond ((v35.Kind == 1))
                                (some (.inl ((s864, s865, 2, (s865.length : Int), 0))))
                                (bindS (S := Bool) (A := ((Int × (List Int) × Int × Int × Int) ⊕ ((Int × (List Int) × Bool × Int × Int × Int × Bool × Int × (List Int) × Int) ⊕ ((Int × (List Int) × Bool × Int × Int × Int × Bool × Int × (List Int)) ⊕ ((Int × (List Int) × Bool × Int × Int × Int × Bool × Int × (List Int) × Int) ⊕ ((Unit) ⊕ Bool))))))
                                  ((ixO s866 v24.2.1.length).bind fun v37 =>
                                  (getO v24.2.1 v37).bind fun v38 =>
                                  cond ((v38.Offset != (s865.length : Int)))
                                    (some (.inl true))
                                    ((ixO s866 v24.2.1.length).bind fun v39 =>
                                    (getO v24.2.1 v39).bind fun v40 =>
                                    (remO s864 8).bind fun v41 =>
                                    some (.inl (v40.Seq != v41))))
                                  (fun (s940 : Bool) =>
                                    cond (s940)
                                      (some (.inr (.inr (.inr (.inr (.inr (false)))))))
                                      ((ixO s866 v24.2.1.length).bind fun v47 =>
                                      (getO v24.2.1 v47).bind fun v48 =>
                                      (appO 1 s865 v48.Data).bind fun v49 =>
                                      (some (IntKind.i64.wrap (s864 + 1))).bind fun v50 =>
                                      (remO v50 8).bind fun v51 =>
                                      some (.inl (v50, v49, 4, 0, v51)))) some))) some)
                        (fun ((s926, s927, s928, s929, s930) : Int × (List Int) × Int × Int × Int) =>
                          (sender_Hear (T_Send.mk s857 s858 s859 s860 s861 s862 s863) (T_Frame.mk s928 v5 s929 s930 [])).bind fun v71 =>
                          cond ((v71.2 != 0))
                            (some (.inr (.inr (.inr (.inr (false))))))
                            ((some (IntKind.i64.wrap (s866 + 1))).bind fun v73 =>
                            some (.inl (v71.1.Number, v71.1.Data, v71.1.Ready, v71.1.Base, v71.1.Next, v71.1.Wait, v71.1.Over, s926, s927, v73)))) some)
                      (some (.inr (.inl (s857, s858, s859, s860, s861, s862, s863, s864, s865)))))
                    BIG (v24.1.Number, v24.1.Data, v24.1.Ready, v24.1.Base, v24.1.Next, v24.1.Wait, v24.1.Over, s535, s536, 0))
                  (fun ((s899, s900, s901, s902, s903, s904, s905, s906, s907) : Int × (List Int) × Bool × Int × Int × Int × Bool × Int × (List Int)) =>
                    cond (s905)
                      (bindS (S := Bool) (A := ((Int × (List Int) × Bool × Int × Int × Int × Bool × Int × (List Int) × Int) ⊕ ((Unit) ⊕ Bool)))
                        ((wherrykeep_Bytes s907 data).bind fun v206 =>
                        cond (v206)
                          ((wherrylaw21_wakes ).bind fun v207 =>
                          some (.inl v207))
                          (some (.inl false)))
                        (fun (s947 : Bool) =>
                          some (.inr (.inr (s947)))) some)
                      (bindS (S := (Int × (List Int) × Bool × Int × Int × Int × Bool)) (A := ((Int × (List Int) × Bool × Int × Int × Int × Bool × Int × (List Int) × Int) ⊕ ((Unit) ⊕ Bool)))
                        (loopF (S := (Int × (List Int) × Bool × Int × Int × Int × Bool)) (O := (Int × (List Int) × Bool × Int × Int × Int × Bool) ⊕ ((Int × (List Int) × Bool × Int × Int × Int × Bool × Int × (List Int) × Int) ⊕ ((Unit) ⊕ Bool))) (fun ((s978, s979, s980, s981, s982, s983, s984) : Int × (List Int) × Bool × Int × Int × Int × Bool) =>
                          bindS (S := Bool) (A := ((Int × (List Int) × Bool × Int × Int × Int × Bool) ⊕ ((Int × (List Int) × Bool × Int × Int × Int × Bool) ⊕ ((Int × (List Int) × Bool × Int × Int × Int × Bool × Int × (List Int) × Int) ⊕ ((Unit) ⊕ Bool)))))
                            (cond ((s981 == v13))
                              (some (.inl ((decide (0 < s983)))))
                              (some (.inl false)))
                            (fun (s1008 : Bool) =>
                              cond (s1008)
                                ((sender_Tick (T_Send.mk s978 s979 s980 s981 s982 s983 s984)).bind fun v217 =>
                                bindS (S := Bool) (A := ((Int × (List Int) × Bool × Int × Int × Int × Bool) ⊕ ((Int × (List Int) × Bool × Int × Int × Int × Bool) ⊕ ((Int × (List Int) × Bool × Int × Int × Int × Bool × Int × (List Int) × Int) ⊕ ((Unit) ⊕ Bool)))))
                                  (cond ((v217.2.2 != 0))
                                    (some (.inl true))
                                    (some (.inl ((decide (s983 ≤ v217.1.Wait))))))
                                  (fun (s1013 : Bool) =>
                                    cond (s1013)
                                      (some (.inr (.inr (.inr (.inr (false))))))
                                      (some (.inl (v217.1.Number, v217.1.Data, v217.1.Ready, v217.1.Base, v217.1.Next, v217.1.Wait, v217.1.Over)))) some)
                                (some (.inr (.inl (s978, s979, s980, s981, s982, s983, s984))))) some)
                          BIG (s899, s900, s901, s902, s903, s904, s905))
                        (fun ((s995, s996, s997, s998, s999, s1000, s1001) : Int × (List Int) × Bool × Int × Int × Int × Bool) =>
                          (some (IntKind.i64.wrap (s537 + 1))).bind fun v280 =>
                          some (.inl (s995, s996, s997, s998, s999, s1000, s1001, s906, s907, v280))) some)) some))
              (some (.inr (.inl ()))))
            BIG (v6.1.Number, v6.1.Data, v6.1.Ready, v6.1.Base, v6.1.Next, v6.1.Wait, v6.1.Over, v18, v21, 0))
          (fun (() : Unit) =>
            some (false)) some)))

def wherrylaw21_SenderReady (s : T_Send) (piece : Int) : Option Bool :=
  bindS (S := Bool) (A := Bool)
    (cond ((decide (5100 < (s.Data.length : Int))))
      (some (.inl true))
      ((wherryref18_Send s).bind fun v1 =>
      cond ((!v1))
        (some (.inl true))
        (some (.inl s.Over))))
    (fun (s2 : Bool) =>
      cond (s2)
        (some (true))
        ((sender_Pieces s).bind fun v7 =>
        cond ((decide (v7 < 1)))
          (some (false))
          ((some (IntKind.u64.wrap piece)).bind fun v9 =>
          (some (IntKind.i64.wrap (v7 + 1))).bind fun v10 =>
          (some (IntKind.u64.wrap v10)).bind fun v11 =>
          (remO v9 v11).bind fun v12 =>
          (some (IntKind.i64.wrap v12)).bind fun v13 =>
          (some (IntKind.i64.wrap (v13 * 48))).bind fun v14 =>
          (some (if (s.Data.length : Int) < v14 then (s.Data.length : Int) else v14)).bind fun v15 =>
          (sender_Hear s (T_Frame.mk 2 s.Number v15 0 [])).bind fun v16 =>
          bindS (S := Bool) (A := Bool)
            (cond ((v16.2 != 0))
              (some (.inl true))
              (cond ((!v16.1.Ready))
                (some (.inl true))
                (cond ((v16.1.Base != v13))
                  (some (.inl true))
                  (cond ((v16.1.Next != v13))
                    (some (.inl true))
                    (some (.inl (v16.1.Wait != 0)))))))
            (fun (s17 : Bool) =>
              cond (s17)
                (some (false))
                ((sender_Tick v16.1).bind fun v22 =>
                cond ((v22.2.2 != 0))
                  (some (false))
                  (cond ((v13 == v7))
                    (bindS (S := Bool) (A := Bool)
                      (cond (((v22.2.1.length : Int) == 1))
                        ((ixO 0 v22.2.1.length).bind fun v25 =>
                        (getO v22.2.1 v25).bind fun v26 =>
                        cond ((v26.Kind == 1))
                          ((wherrylaw21_wakes ).bind fun v27 =>
                          some (.inl v27))
                          (some (.inl false)))
                        (some (.inl false)))
                      (fun (s28 : Bool) =>
                        some (s28)) some)
                    (bindS (S := Bool) (A := Bool)
                      ((some (IntKind.i64.wrap (v7 - v13))).bind fun v32 =>
                      (some (if v32 < 7 then v32 else 7)).bind fun v33 =>
                      cond (((v22.2.1.length : Int) != v33))
                        (some (.inl true))
                        ((some (IntKind.i64.wrap (v13 + (v22.2.1.length : Int)))).bind fun v34 =>
                        cond ((v22.1.Next != v34))
                          (some (.inl true))
                          (some (.inl (v22.1.Base != v13)))))
                      (fun (s35 : Bool) =>
                        cond (s35)
                          (some (false))
                          (bindS (S := (Unit)) (A := Bool)
                            (loopF (S := (Int)) (O := (Unit) ⊕ Bool) (fun (s70 : Int) =>
                              cond ((decide (s70 < (v22.2.1.length : Int))))
                                ((some (IntKind.i64.wrap (v13 + s70))).bind fun v41 =>
                                (some (IntKind.i64.wrap (v41 * 48))).bind fun v42 =>
                                bindS (S := Bool) (A := ((Int) ⊕ ((Unit) ⊕ Bool)))
                                  ((ixO s70 v22.2.1.length).bind fun v43 =>
                                  (getO v22.2.1 v43).bind fun v44 =>
                                  cond ((v44.Kind != 3))
                                    (some (.inl true))
                                    ((ixO s70 v22.2.1.length).bind fun v45 =>
                                    (getO v22.2.1 v45).bind fun v46 =>
                                    cond ((v46.Offset != v42))
                                      (some (.inl true))
                                      ((ixO s70 v22.2.1.length).bind fun v47 =>
                                      (getO v22.2.1 v47).bind fun v48 =>
                                      (some (IntKind.i64.wrap (v13 + s70))).bind fun v49 =>
                                      (remO v49 8).bind fun v50 =>
                                      cond ((v48.Seq != v50))
                                        (some (.inl true))
                                        ((ixO s70 v22.2.1.length).bind fun v51 =>
                                        (getO v22.2.1 v51).bind fun v52 =>
                                        (some (IntKind.i64.wrap (v42 + 48))).bind fun v53 =>
                                        (some (if (s.Data.length : Int) < v53 then (s.Data.length : Int) else v53)).bind fun v54 =>
                                        (sliO s.Data v42 v54).bind fun v55 =>
                                        (wherrykeep_Bytes v52.Data v55).bind fun v56 =>
                                        some (.inl (!v56))))))
                                  (fun (s84 : Bool) =>
                                    cond (s84)
                                      (some (.inr (.inr (false))))
                                      ((some (IntKind.i64.wrap (s70 + 1))).bind fun v62 =>
                                      some (.inl v62))) some)
                                (some (.inr (.inl ()))))
                              BIG 0)
                            (fun (() : Unit) =>
                              (some (IntKind.i64.wrap ((s.Data.length : Int) + 1))).bind fun v89 =>
                              (sender_Hear s (T_Frame.mk 2 s.Number v89 0 [])).bind fun v90 =>
                              bindS (S := Bool) (A := Bool)
                                (cond ((v90.2 == 11))
                                  ((wherrylaw21_wakes ).bind fun v91 =>
                                  some (.inl v91))
                                  (cond ((v90.2 == 1))
                                    ((wherrylaw21_wakes ).bind fun v92 =>
                                    some (.inl v92))
                                    (some (.inl false))))
                                (fun (s93 : Bool) =>
                                  some (s93)) some) some)) some)))) some))) some

def wherrykeep_Send (a : T_Send) (b : T_Send) : Option Bool :=
  bindS (S := Bool) (A := Bool)
    (cond ((a.Number == b.Number))
      ((wherrykeep_Bytes a.Data b.Data).bind fun v1 =>
      cond (v1)
        ((some (a.Ready == b.Ready)).bind fun v2 =>
        cond ((a.Ready == b.Ready))
          (cond ((a.Base == b.Base))
            (cond ((a.Next == b.Next))
              (cond ((a.Wait == b.Wait))
                ((some (a.Over == b.Over)).bind fun v3 =>
                some (.inl (a.Over == b.Over)))
                (some (.inl false)))
              (some (.inl false)))
            (some (.inl false)))
          (some (.inl false)))
        (some (.inl false)))
      (some (.inl false)))
    (fun (s4 : Bool) =>
      some (s4)) some

def wherrylaw21_SenderAcks (s : T_Send) (seq : Int) : Option Bool :=
  bindS (S := Bool) (A := Bool)
    (cond ((decide (5100 < (s.Data.length : Int))))
      (some (.inl true))
      ((wherryref18_Send s).bind fun v1 =>
      cond ((!v1))
        (some (.inl true))
        (some (.inl s.Over))))
    (fun (s2 : Bool) =>
      cond (s2)
        (some (true))
        ((some (IntKind.u64.wrap seq)).bind fun v7 =>
        (remO v7 8).bind fun v8 =>
        (some (IntKind.i64.wrap v8)).bind fun v9 =>
        (sender_Hear s (T_Frame.mk 4 s.Number 0 v9 [])).bind fun v10 =>
        (some (IntKind.i64.wrap (s.Base + 1))).bind fun v11 =>
        bindS (S := (Int)) (A := Bool)
          (loopF (S := (Int × Int)) (O := (Int) ⊕ Bool) (fun ((s38, s39) : Int × Int) =>
            bindS (S := Bool) (A := ((Int × Int) ⊕ ((Int) ⊕ Bool)))
              (cond ((decide (s39 ≤ s.Next)))
                (some (.inl s.Ready))
                (some (.inl false)))
              (fun (s58 : Bool) =>
                cond (s58)
                  (bindS (S := Int) (A := ((Int × Int) ⊕ ((Int) ⊕ Bool)))
                    ((remO s39 8).bind fun v17 =>
                    cond ((v17 == v9))
                      (some (.inl s39))
                      (some (.inl s38)))
                    (fun (s64 : Int) =>
                      (some (IntKind.i64.wrap (s39 + 1))).bind fun v24 =>
                      some (.inl (s64, v24))) some)
                  (some (.inr (.inl s38)))) some)
            BIG (((-1), v11)))
          (fun (s51 : Int) =>
            cond ((decide (s51 < 0)))
              (bindS (S := Bool) (A := Bool)
                (cond ((v10.2 == 11))
                  ((wherrykeep_Send v10.1 (T_Send.mk 0 [] false 0 0 0 false)).bind fun v70 =>
                  cond (v70)
                    ((wherrylaw21_wakes ).bind fun v71 =>
                    some (.inl v71))
                    (some (.inl false)))
                  (some (.inl false)))
                (fun (s72 : Bool) =>
                  some (s72)) some)
              (bindS (S := Bool) (A := Bool)
                (cond ((v10.2 == 0))
                  (cond ((v10.1.Base == s51))
                    (cond ((v10.1.Next == s.Next))
                      (cond ((v10.1.Wait == 3))
                        (cond (v10.1.Ready)
                          ((wherrylaw21_wakes ).bind fun v76 =>
                          some (.inl v76))
                          (some (.inl false)))
                        (some (.inl false)))
                      (some (.inl false)))
                    (some (.inl false)))
                  (some (.inl false)))
                (fun (s77 : Bool) =>
                  some (s77)) some)) some)) some

def wherrylaw21_SenderOver (s : T_Send) (f : T_Frame) : Option Bool :=
  bindS (S := Bool) (A := Bool)
    (cond ((decide (5100 < (s.Data.length : Int))))
      (some (.inl true))
      (cond ((decide (300 < (f.Data.length : Int))))
        (some (.inl true))
        ((wherryref18_Send s).bind fun v1 =>
        some (.inl (!v1)))))
    (fun (s2 : Bool) =>
      cond (s2)
        (some (true))
        ((sender_Hear s (T_Frame.mk 5 s.Number 0 0 [])).bind fun v7 =>
        cond (s.Over)
          (bindS (S := Bool) (A := Bool)
            (cond ((v7.2 == 11))
              ((wherrykeep_Send v7.1 (T_Send.mk 0 [] false 0 0 0 false)).bind fun v9 =>
              cond (v9)
                ((wherrylaw21_wakes ).bind fun v10 =>
                some (.inl v10))
                (some (.inl false)))
              (some (.inl false)))
            (fun (s11 : Bool) =>
              some (s11)) some)
          (bindS (S := Bool) (A := Bool)
            (cond ((v7.2 != 0))
              (some (.inl true))
              (some (.inl (!v7.1.Over))))
            (fun (s15 : Bool) =>
              cond (s15)
                (some (false))
                ((sender_Hear v7.1 f).bind fun v20 =>
                (sender_Tick v7.1).bind fun v21 =>
                bindS (S := Bool) (A := Bool)
                  ((wherryref18_Frame f).bind fun v22 =>
                  cond (v22)
                    (cond ((v20.2 != 11))
                      (some (.inl true))
                      ((wherryref18_Frame f).bind fun v23 =>
                      cond ((!v23))
                        (some (.inl (v20.2 != 1)))
                        (some (.inl false))))
                    ((wherryref18_Frame f).bind fun v24 =>
                    cond ((!v24))
                      (some (.inl (v20.2 != 1)))
                      (some (.inl false))))
                  (fun (s25 : Bool) =>
                    cond (s25)
                      (some (false))
                      (bindS (S := Bool) (A := Bool)
                        ((wherrykeep_Send v20.1 (T_Send.mk 0 [] false 0 0 0 false)).bind fun v30 =>
                        cond (v30)
                          (cond ((v21.2.2 == 0))
                            (cond (((v21.2.1.length : Int) == 0))
                              ((wherrykeep_Send v21.1 v7.1).bind fun v31 =>
                              cond (v31)
                                ((wherrylaw21_wakes ).bind fun v32 =>
                                some (.inl v32))
                                (some (.inl false)))
                              (some (.inl false)))
                            (some (.inl false)))
                          (some (.inl false)))
                        (fun (s33 : Bool) =>
                          some (s33)) some)) some)) some))) some

end Go.Abs.Sh
