/-
  The program told in Lean: plain functions; none where Go would panic or a slice outgrow its room.
-/
import Derived.Test.YtegjndibgnnpcaaAS
set_option linter.unusedVariables false
namespace Go.Abs.Sh

structure T_Reply where
  Code : Int
  Lines : (List ByteArray)
  deriving DecidableEq
def T_Reply.ienc (x : T_Reply) : List IC := [.v (.int .i64 x.Code), .row 1 (List.map IC.v (List.map Value.string x.Lines))]
theorem T_Reply.ilen (x : T_Reply) : (T_Reply.ienc x).length = 2 := rfl
def T_Reply.wf (x : T_Reply) : Prop := wfI .i64 x.Code ∧ wfL wfS x.Lines

def wherryref11_Digits (n : Int) : Option ByteArray :=
  bindS (S := (Int × ByteArray)) (A := ByteArray)
    (loopF (S := (Int × ByteArray)) (O := (Int × ByteArray) ⊕ ByteArray) (fun ((s11, s12) : Int × ByteArray) =>
      cond ((decide (9 < s11)))
        ((remO s11 10).bind fun v2 =>
        (remO s11 10).bind fun v3 =>
        (some (IntKind.i64.wrap (v3 + 1))).bind fun v4 =>
        (subO (⟨#[48, 49, 50, 51, 52, 53, 54, 55, 56, 57]⟩ : ByteArray) v2 v4).bind fun v5 =>
        (catO v5 s12).bind fun v6 =>
        (quoO .i64 s11 10).bind fun v7 =>
        some (.inl (v7, v6)))
        (some (.inr (.inl (s11, s12)))))
      BIG ((n, (⟨#[]⟩ : ByteArray))))
    (fun ((s14, s15) : Int × ByteArray) =>
      (some (IntKind.i64.wrap (s14 + 1))).bind fun v23 =>
      (subO (⟨#[48, 49, 50, 51, 52, 53, 54, 55, 56, 57]⟩ : ByteArray) s14 v23).bind fun v24 =>
      (catO v24 s15).bind fun v25 =>
      some (v25)) some

def answer_number (line : (List Int)) : Option (Int × Bool) :=
  (sliO line 0 3).bind fun v1 =>
  bindS (S := (Int)) (A := (Int × Bool))
    (loopF (S := (Int × Int)) (O := (Int) ⊕ (Int × Bool)) (fun ((s23, s24) : Int × Int) =>
      cond ((decide (s24 < (v1.length : Int))))
        ((ixO s24 v1.length).bind fun v3 =>
        (getO v1 v3).bind fun v4 =>
        bindS (S := Bool) (A := ((Int × Int) ⊕ ((Int) ⊕ (Int × Bool))))
          (cond ((decide (v4 < 48)))
            (some (.inl true))
            (some (.inl ((decide (57 < v4))))))
          (fun (s39 : Bool) =>
            cond (s39)
              (some (.inr (.inr ((0, false)))))
              ((some (IntKind.i64.wrap (10 * s23))).bind fun v10 =>
              (some (IntKind.u8.wrap (v4 - 48))).bind fun v11 =>
              (some (IntKind.i64.wrap v11)).bind fun v12 =>
              (some (IntKind.i64.wrap (v10 + v12))).bind fun v13 =>
              (some (IntKind.i64.wrap (s24 + 1))).bind fun v14 =>
              some (.inl (v13, v14)))) some)
        (some (.inr (.inl s23))))
      BIG (0, 0))
    (fun (s31 : Int) =>
      some ((s31, true))) some

def answer_text (s : ByteArray) : Option Bool :=
  cond ((decide (200 < (s.size : Int))))
    (some (false))
    (bindS (S := (Unit)) (A := Bool)
      (loopF (S := (Int)) (O := (Unit) ⊕ Bool) (fun (s18 : Int) =>
        cond ((decide (s18 < (s.size : Int))))
          (bindS (S := Bool) (A := ((Int) ⊕ ((Unit) ⊕ Bool)))
            ((chrO s s18).bind fun v3 =>
            cond ((decide (v3 < 32)))
              (some (.inl true))
              ((chrO s s18).bind fun v4 =>
              some (.inl ((decide (126 < v4))))))
            (fun (s32 : Bool) =>
              cond (s32)
                (some (.inr (.inr (false))))
                ((some (IntKind.i64.wrap (s18 + 1))).bind fun v10 =>
                some (.inl v10))) some)
          (some (.inr (.inl ()))))
        BIG 0)
      (fun (() : Unit) =>
        some (true)) some)

def answer_Check (p_r : T_Reply) : Option Int :=
  bindS (S := Bool) (A := Int)
    (cond ((decide (p_r.Code < 200)))
      (some (.inl true))
      (cond ((decide (559 < p_r.Code)))
        (some (.inl true))
        ((quoO .i64 p_r.Code 10).bind fun v1 =>
        (remO v1 10).bind fun v2 =>
        some (.inl ((decide (5 < v2)))))))
    (fun (s3 : Bool) =>
      cond (s3)
        (some (5))
        (bindS (S := Bool) (A := Int)
          (cond ((decide ((p_r.Lines.length : Int) < 1)))
            (some (.inl true))
            (some (.inl ((decide (20 < (p_r.Lines.length : Int)))))))
          (fun (s8 : Bool) =>
            cond (s8)
              (some (5))
              (bindS (S := (Unit)) (A := Int)
                (loopF (S := (Int)) (O := (Unit) ⊕ Int) (fun (s22 : Int) =>
                  cond ((decide (s22 < (p_r.Lines.length : Int))))
                    ((ixO s22 p_r.Lines.length).bind fun v14 =>
                    (getO p_r.Lines v14).bind fun v15 =>
                    (answer_text v15).bind fun v16 =>
                    cond ((!v16))
                      (some (.inr (.inr (5))))
                      ((some (IntKind.i64.wrap (s22 + 1))).bind fun v18 =>
                      some (.inl v18)))
                    (some (.inr (.inl ()))))
                  BIG 0)
                (fun (() : Unit) =>
                  some (0)) some)) some)) some

def answer_Read (b : (List Int)) : Option (T_Reply × Int × Int) :=
  bindS (S := (Int × (List ByteArray))) (A := (T_Reply × Int × Int))
    (loopF (S := (Int × (List ByteArray) × Int)) (O := (Int × (List ByteArray)) ⊕ (T_Reply × Int × Int)) (fun ((s43, s44, s45) : Int × (List ByteArray) × Int) =>
      cond ((decide ((s44.length : Int) < 20)))
        ((sliO b s45 (b.length : Int)).bind fun v2 =>
        (bytes_Index v2 [13, 10]).bind fun v3 =>
        cond ((decide (v3 < 4)))
          (some (.inr (.inl (s43, s44))))
          ((some (IntKind.i64.wrap (s45 + v3))).bind fun v5 =>
          (sliO b s45 v5).bind fun v6 =>
          (some (IntKind.i64.wrap (v3 + 2))).bind fun v7 =>
          (some (IntKind.i64.wrap (s45 + v7))).bind fun v8 =>
          (answer_number v6).bind fun v9 =>
          bindS (S := Bool) (A := ((Int × (List ByteArray) × Int) ⊕ ((Int × (List ByteArray)) ⊕ (T_Reply × Int × Int))))
            (cond ((!v9.2))
              (some (.inl true))
              (cond ((decide (0 < (s44.length : Int))))
                (some (.inl (v9.1 != s43)))
                (some (.inl false))))
            (fun (s69 : Bool) =>
              cond (s69)
                (some (.inr (.inl (s43, s44))))
                ((sliO v6 4 (v6.length : Int)).bind fun v15 =>
                (some (bstr v15)).bind fun v16 =>
                (appO 16 s44 [v16]).bind fun v17 =>
                (ixO 3 v6.length).bind fun v18 =>
                (getO v6 v18).bind fun v19 =>
                bindS (S := Bool) (A := ((Int × (List ByteArray) × Int) ⊕ ((Int × (List ByteArray)) ⊕ (T_Reply × Int × Int))))
                  (cond ((v19 == 32))
                    ((answer_Check (T_Reply.mk v9.1 v17)).bind fun v20 =>
                    some (.inl (v20 == 0)))
                    (some (.inl false)))
                  (fun (s74 : Bool) =>
                    cond (s74)
                      (some (.inr (.inr (((T_Reply.mk v9.1 v17), v8, 0)))))
                      (cond ((v19 != 45))
                        (some (.inr (.inl (v9.1, v17))))
                        (some (.inl (v9.1, v17, v8))))) some)) some))
        (some (.inr (.inl (s43, s44)))))
      BIG (0, [], 0))
    (fun ((s59, s60) : Int × (List ByteArray)) =>
      some (((T_Reply.mk 0 []), 0, 3))) some

def answer_Bytes (p_r : T_Reply) : Option ((List Int) × Int) :=
  (answer_Check p_r).bind fun v1 =>
  cond ((v1 != 0))
    (some (([], v1)))
    (bindS (S := ((List Int))) (A := ((List Int) × Int))
      (loopF (S := ((List Int) × Int)) (O := ((List Int)) ⊕ ((List Int) × Int)) (fun ((s36, s37) : (List Int) × Int) =>
        cond ((decide (s37 < (p_r.Lines.length : Int))))
          ((ixO s37 p_r.Lines.length).bind fun v4 =>
          (getO p_r.Lines v4).bind fun v5 =>
          bindS (S := Int) (A := (((List Int) × Int) ⊕ (((List Int)) ⊕ ((List Int) × Int))))
            ((some (IntKind.i64.wrap ((p_r.Lines.length : Int) - 1))).bind fun v6 =>
            cond ((s37 == v6))
              (some (.inl 32))
              (some (.inl 45)))
            (fun (s54 : Int) =>
              (quoO .i64 p_r.Code 100).bind fun v13 =>
              (some (IntKind.i64.wrap (48 + v13))).bind fun v14 =>
              (some (IntKind.u8.wrap v14)).bind fun v15 =>
              (quoO .i64 p_r.Code 10).bind fun v16 =>
              (remO v16 10).bind fun v17 =>
              (some (IntKind.i64.wrap (48 + v17))).bind fun v18 =>
              (some (IntKind.u8.wrap v18)).bind fun v19 =>
              (remO p_r.Code 10).bind fun v20 =>
              (some (IntKind.i64.wrap (48 + v20))).bind fun v21 =>
              (some (IntKind.u8.wrap v21)).bind fun v22 =>
              (appO 1 s36 [v15, v19, v22, s54]).bind fun v23 =>
              (appO 1 v23 (sbytes v5)).bind fun v24 =>
              (appO 1 v24 (sbytes (⟨#[13, 10]⟩ : ByteArray))).bind fun v25 =>
              (some (IntKind.i64.wrap (s37 + 1))).bind fun v26 =>
              some (.inl (v25, v26))) some)
          (some (.inr (.inl s36))))
        BIG ([], 0))
      (fun (s45 : (List Int)) =>
        some ((s45, 0))) some)

def wherrykeep_Reply (a : T_Reply) (b : T_Reply) : Option Bool :=
  bindS (S := Bool) (A := Bool)
    (cond ((a.Code != b.Code))
      (some (.inl true))
      (some (.inl (((a.Lines.length : Int) != (b.Lines.length : Int))))))
    (fun (s1 : Bool) =>
      cond (s1)
        (some (false))
        (bindS (S := (Unit)) (A := Bool)
          (loopF (S := (Int)) (O := (Unit) ⊕ Bool) (fun (s16 : Int) =>
            cond ((decide (s16 < (a.Lines.length : Int))))
              ((ixO s16 a.Lines.length).bind fun v7 =>
              (getO a.Lines v7).bind fun v8 =>
              (ixO s16 b.Lines.length).bind fun v9 =>
              (getO b.Lines v9).bind fun v10 =>
              cond ((!(v8.toList == v10.toList)))
                (some (.inr (.inr (false))))
                ((some (IntKind.i64.wrap (s16 + 1))).bind fun v12 =>
                some (.inl v12)))
              (some (.inr (.inl ()))))
            BIG 0)
          (fun (() : Unit) =>
            some (true)) some)) some

def answer_Good (code : Int) : Option Bool :=
  bindS (S := Bool) (A := Bool)
    (cond ((decide (200 ≤ code)))
      (some (.inl ((decide (code < 400)))))
      (some (.inl false)))
    (fun (s1 : Bool) =>
      some (s1)) some

def wherrylaw13_wakes : Option Bool :=
  (answer_Bytes ((T_Reply.mk 250 ([(⟨#[111, 107]⟩ : ByteArray)])))).bind fun v1 =>
  (answer_Read v1.1).bind fun v2 =>
  bindS (S := Bool) (A := Bool)
    (cond ((v1.2 == 0))
      (cond ((v2.2.2 == 0))
        ((some (bstr v1.1)).bind fun v3 =>
        cond ((v3.toList == (⟨#[50, 53, 48, 32, 111, 107, 13, 10]⟩ : ByteArray).toList))
          (cond ((v2.2.1 == 8))
            ((wherrykeep_Reply v2.1 ((T_Reply.mk 250 ([(⟨#[111, 107]⟩ : ByteArray)])))).bind fun v4 =>
            cond (v4)
              ((answer_Check ((T_Reply.mk 270 ([(⟨#[97]⟩ : ByteArray)])))).bind fun v5 =>
              cond ((v5 == 5))
                ((answer_Good 250).bind fun v6 =>
                cond (v6)
                  ((answer_Good 503).bind fun v7 =>
                  some (.inl (!v7)))
                  (some (.inl false)))
                (some (.inl false)))
              (some (.inl false)))
            (some (.inl false)))
          (some (.inl false)))
        (some (.inl false)))
      (some (.inl false)))
    (fun (s8 : Bool) =>
      some (s8)) some

def wherrylaw13_AnswerMixed (code : Int) (how : Int) : Option Bool :=
  (some (IntKind.u64.wrap code)).bind fun v1 =>
  (remO v1 60).bind fun v2 =>
  (some (IntKind.i64.wrap v2)).bind fun v3 =>
  (some (IntKind.i64.wrap (200 + v3))).bind fun v4 =>
  (wherryref11_Digits v4).bind fun v5 =>
  (some (IntKind.i64.wrap (v4 + 100))).bind fun v6 =>
  (wherryref11_Digits v6).bind fun v7 =>
  (catO v5 (⟨#[45, 97, 13, 10]⟩ : ByteArray)).bind fun v8 =>
  (catO v8 v7).bind fun v9 =>
  (catO v9 (⟨#[32, 98, 13, 10]⟩ : ByteArray)).bind fun v10 =>
  (catO v5 (⟨#[45, 97, 13, 10, 98, 13, 10]⟩ : ByteArray)).bind fun v11 =>
  (catO v5 (⟨#[95, 97, 13, 10]⟩ : ByteArray)).bind fun v12 =>
  (catO v5 (⟨#[32, 97, 10]⟩ : ByteArray)).bind fun v13 =>
  (catO v5 (⟨#[45, 97, 13, 10]⟩ : ByteArray)).bind fun v14 =>
  (catO (⟨#[48]⟩ : ByteArray) v5).bind fun v15 =>
  (catO v15 (⟨#[32, 97, 13, 10]⟩ : ByteArray)).bind fun v16 =>
  (catO v5 (⟨#[13, 10]⟩ : ByteArray)).bind fun v17 =>
  (catO (⟨#[32]⟩ : ByteArray) v5).bind fun v18 =>
  (catO v18 (⟨#[32, 97, 13, 10]⟩ : ByteArray)).bind fun v19 =>
  (some (IntKind.u64.wrap how)).bind fun v20 =>
  (remO v20 8).bind fun v21 =>
  (some (IntKind.i64.wrap v21)).bind fun v22 =>
  (ixO v22 [v10, v11, v12, v13, v14, v16, v17, v19].length).bind fun v23 =>
  (getO [v10, v11, v12, v13, v14, v16, v17, v19] v23).bind fun v24 =>
  (some (sbytes v24)).bind fun v25 =>
  (answer_Read v25).bind fun v26 =>
  (catO v5 (⟨#[45, 97, 13, 10]⟩ : ByteArray)).bind fun v27 =>
  (catO v27 v5).bind fun v28 =>
  (catO v28 (⟨#[32, 98, 13, 10, 109, 111, 114, 101]⟩ : ByteArray)).bind fun v29 =>
  (some (sbytes v29)).bind fun v30 =>
  (answer_Read v30).bind fun v31 =>
  bindS (S := Bool) (A := Bool)
    (cond ((v26.2.2 == 3))
      (cond ((v26.2.1 == 0))
        (cond ((v26.1.Code == 0))
          (cond ((v31.2.2 == 0))
            (cond ((v31.2.1 == 14))
              (cond ((v31.1.Code == v4))
                (cond (((v31.1.Lines.length : Int) == 2))
                  ((wherrylaw13_wakes ).bind fun v32 =>
                  some (.inl v32))
                  (some (.inl false)))
                (some (.inl false)))
              (some (.inl false)))
            (some (.inl false)))
          (some (.inl false)))
        (some (.inl false)))
      (some (.inl false)))
    (fun (s33 : Bool) =>
      some (s33)) some

def wherrylaw13_AnswerEnds (code : Int) (lines : Int) (long : Int) : Option Bool :=
  (some (IntKind.u64.wrap lines)).bind fun v1 =>
  (remO v1 23).bind fun v2 =>
  (some (IntKind.i64.wrap v2)).bind fun v3 =>
  (some (IntKind.u64.wrap long)).bind fun v4 =>
  (remO v4 3).bind fun v5 =>
  (some (IntKind.i64.wrap v5)).bind fun v6 =>
  (some (IntKind.i64.wrap (199 + v6))).bind fun v7 =>
  bindS (S := (ByteArray)) (A := Bool)
    (loopF (S := (ByteArray)) (O := (ByteArray) ⊕ Bool) (fun (s12 : ByteArray) =>
      cond ((decide ((s12.size : Int) < v7)))
        ((catO s12 (⟨#[120]⟩ : ByteArray)).bind fun v9 =>
        some (.inl v9))
        (some (.inr (.inl s12))))
      BIG (⟨#[]⟩ : ByteArray))
    (fun (s14 : ByteArray) =>
      bindS (S := ((List ByteArray))) (A := Bool)
        (loopF (S := ((List ByteArray) × Int)) (O := ((List ByteArray)) ⊕ Bool) (fun ((s28, s29) : (List ByteArray) × Int) =>
          cond ((decide (s29 < v3)))
            ((appO 16 s28 [s14]).bind fun v23 =>
            (some (IntKind.i64.wrap (s29 + 1))).bind fun v24 =>
            some (.inl (v23, v24)))
            (some (.inr (.inl s28))))
          BIG ([], 0))
        (fun (s31 : (List ByteArray)) =>
          bindS (S := Int) (A := Bool)
            (bindS (S := Bool) (A := (Int ⊕ Bool))
              (cond ((decide (200 ≤ code)))
                (cond ((decide (code ≤ 559)))
                  ((quoO .i64 code 10).bind fun v39 =>
                  (remO v39 10).bind fun v40 =>
                  cond ((decide (v40 ≤ 5)))
                    (cond ((decide (1 ≤ v3)))
                      (cond ((decide (v3 ≤ 20)))
                        (some (.inl ((decide (v7 ≤ 200)))))
                        (some (.inl false)))
                      (some (.inl false)))
                    (some (.inl false)))
                  (some (.inl false)))
                (some (.inl false)))
              (fun (s50 : Bool) =>
                cond (s50)
                  (some (.inl 0))
                  (some (.inl 5))) some)
            (fun (s46 : Int) =>
              (answer_Bytes (T_Reply.mk code s31)).bind fun v55 =>
              bindS (S := Bool) (A := Bool)
                ((answer_Check (T_Reply.mk code s31)).bind fun v56 =>
                cond ((v56 != s46))
                  (some (.inl true))
                  (cond ((v55.2 != s46))
                    (some (.inl true))
                    (cond ((s46 != 0))
                      (some (.inl (((v55.1.length : Int) != 0))))
                      (some (.inl false)))))
                (fun (s57 : Bool) =>
                  cond (s57)
                    (some (false))
                    (bindS (S := Bool) (A := Bool)
                      (cond ((s46 == 0))
                        ((some (IntKind.i64.wrap (v7 + 6))).bind fun v62 =>
                        (some (IntKind.i64.wrap (v3 * v62))).bind fun v63 =>
                        some (.inl (((v55.1.length : Int) != v63))))
                        (some (.inl false)))
                      (fun (s64 : Bool) =>
                        cond (s64)
                          (some (false))
                          ((wherrylaw13_wakes ).bind fun v69 =>
                          some (v69))) some)) some) some) some) some

def wherrylaw13_heavy (p_r : T_Reply) : Option Bool :=
  bindS (S := (Int)) (A := Bool)
    (loopF (S := (Int × Int)) (O := (Int) ⊕ Bool) (fun ((s9, s10) : Int × Int) =>
      cond ((decide (s10 < (p_r.Lines.length : Int))))
        ((ixO s10 p_r.Lines.length).bind fun v2 =>
        (getO p_r.Lines v2).bind fun v3 =>
        (some (IntKind.i64.wrap (s9 + (v3.size : Int)))).bind fun v4 =>
        (some (IntKind.i64.wrap (s10 + 1))).bind fun v5 =>
        some (.inl (v4, v5)))
        (some (.inr (.inl s9))))
      BIG (0, 0))
    (fun (s12 : Int) =>
      bindS (S := Bool) (A := Bool)
        (cond ((decide (6000 < s12)))
          (some (.inl true))
          (some (.inl ((decide (40 < (p_r.Lines.length : Int)))))))
        (fun (s20 : Bool) =>
          some (s20)) some) some

def wherrylaw13_AnswerBack (l : (List T_Reply)) (cut : Int) : Option Bool :=
  cond ((decide (20 < (l.length : Int))))
    (some (true))
    (bindS (S := ((List Int) × (List Int) × Int)) (A := Bool)
      (loopF (S := ((List Int) × (List Int) × Int × Int)) (O := ((List Int) × (List Int) × Int) ⊕ Bool) (fun ((s37, s38, s39, s40) : (List Int) × (List Int) × Int × Int) =>
        cond ((decide (s40 < (l.length : Int))))
          (bindS (S := (List Int) × (List Int) × Int) (A := (((List Int) × (List Int) × Int × Int) ⊕ (((List Int) × (List Int) × Int) ⊕ Bool)))
            ((ixO s40 l.length).bind fun v3 =>
            (getO l v3).bind fun v4 =>
            (wherrylaw13_heavy v4).bind fun v5 =>
            cond (v5)
              (some (.inr (.inr (.inr (true)))))
              ((ixO s40 l.length).bind fun v7 =>
              (getO l v7).bind fun v8 =>
              (answer_Bytes v8).bind fun v9 =>
              cond ((v9.2 != 0))
                (some (.inl (s37, s38, s39)))
                ((appO 1 s37 v9.1).bind fun v11 =>
                (some (IntKind.i64.wrap (s39 + 1))).bind fun v12 =>
                some (.inl (v11, v9.1, v12)))))
            (fun ((s64, s65, s66) : (List Int) × (List Int) × Int) =>
              (some (IntKind.i64.wrap (s40 + 1))).bind fun v21 =>
              some (.inl (s64, s65, s66, v21))) some)
          (some (.inr (.inl (s37, s38, s39)))))
        BIG ([], [], 0, 0))
      (fun ((s52, s53, s54) : (List Int) × (List Int) × Int) =>
        cond ((s54 == 0))
          ((answer_Read []).bind fun v73 =>
          bindS (S := Bool) (A := Bool)
            (cond ((v73.2.2 == 3))
              ((wherrylaw13_wakes ).bind fun v74 =>
              some (.inl v74))
              (some (.inl false)))
            (fun (s75 : Bool) =>
              some (s75)) some)
          (bindS (S := ((List Int))) (A := Bool)
            (loopF (S := ((List Int) × Int)) (O := ((List Int)) ⊕ Bool) (fun ((s124, s125) : (List Int) × Int) =>
              cond ((decide (s125 < (l.length : Int))))
                (bindS (S := (List Int)) (A := (((List Int) × Int) ⊕ (((List Int)) ⊕ Bool)))
                  ((ixO s125 l.length).bind fun v80 =>
                  (getO l v80).bind fun v81 =>
                  (answer_Check v81).bind fun v82 =>
                  cond ((v82 != 0))
                    (some (.inl s124))
                    ((answer_Read s124).bind fun v84 =>
                    bindS (S := Bool) (A := (((List Int)) ⊕ (((List Int) × Int) ⊕ (((List Int)) ⊕ Bool))))
                      (cond ((v84.2.2 != 0))
                        (some (.inl true))
                        (cond ((decide (v84.2.1 < 1)))
                          (some (.inl true))
                          (cond ((decide ((s124.length : Int) < v84.2.1)))
                            (some (.inl true))
                            ((ixO s125 l.length).bind fun v85 =>
                            (getO l v85).bind fun v86 =>
                            (wherrykeep_Reply v84.1 v86).bind fun v87 =>
                            some (.inl (!v87))))))
                      (fun (s162 : Bool) =>
                        cond (s162)
                          (some (.inr (.inr (.inr (false)))))
                          ((sliO s124 v84.2.1 (s124.length : Int)).bind fun v93 =>
                          some (.inl v93))) some))
                  (fun (s157 : (List Int)) =>
                    (some (IntKind.i64.wrap (s125 + 1))).bind fun v104 =>
                    some (.inl (s157, v104))) some)
                (some (.inr (.inl s124))))
              BIG (s52, 0))
            (fun (s143 : (List Int)) =>
              cond (((s53.length : Int) == 0))
                (some (false))
                ((some (IntKind.u64.wrap cut)).bind fun v168 =>
                (some (IntKind.u64.wrap (s53.length : Int))).bind fun v169 =>
                (remO v168 v169).bind fun v170 =>
                (some (IntKind.i64.wrap v170)).bind fun v171 =>
                (sliO s53 0 v171).bind fun v172 =>
                (answer_Read v172).bind fun v173 =>
                bindS (S := Bool) (A := Bool)
                  (cond (((s143.length : Int) == 0))
                    (cond ((v173.2.2 == 3))
                      ((wherrylaw13_wakes ).bind fun v174 =>
                      some (.inl v174))
                      (some (.inl false)))
                    (some (.inl false)))
                  (fun (s175 : Bool) =>
                    some (s175)) some)) some)) some)

def wherrykeep_Bytes (a : (List Int)) (b : (List Int)) : Option Bool :=
  cond (((a.length : Int) != (b.length : Int)))
    (some (false))
    (bindS (S := (Unit)) (A := Bool)
      (loopF (S := (Int)) (O := (Unit) ⊕ Bool) (fun (s12 : Int) =>
        cond ((decide (s12 < (a.length : Int))))
          ((ixO s12 a.length).bind fun v3 =>
          (getO a v3).bind fun v4 =>
          (ixO s12 b.length).bind fun v5 =>
          (getO b v5).bind fun v6 =>
          cond ((v4 != v6))
            (some (.inr (.inr (false))))
            ((some (IntKind.i64.wrap (s12 + 1))).bind fun v8 =>
            some (.inl v8)))
          (some (.inr (.inl ()))))
        BIG 0)
      (fun (() : Unit) =>
        some (true)) some)

def wherrylaw13_AnswerReads (b : (List Int)) : Option Bool :=
  cond ((decide (3000 < (b.length : Int))))
    (some (true))
    ((answer_Read b).bind fun v2 =>
    cond ((v2.2.2 != 0))
      (bindS (S := Bool) (A := Bool)
        (cond ((v2.2.2 == 3))
          (cond ((v2.2.1 == 0))
            ((wherrykeep_Reply v2.1 (T_Reply.mk 0 [])).bind fun v4 =>
            cond (v4)
              ((wherrylaw13_wakes ).bind fun v5 =>
              some (.inl v5))
              (some (.inl false)))
            (some (.inl false)))
          (some (.inl false)))
        (fun (s6 : Bool) =>
          some (s6)) some)
      ((answer_Bytes v2.1).bind fun v10 =>
      bindS (S := Bool) (A := Bool)
        (cond ((v10.2 == 0))
          (cond ((decide (v2.2.1 ≤ (b.length : Int))))
            (cond ((decide (0 < v2.2.1)))
              ((sliO b 0 v2.2.1).bind fun v11 =>
              (wherrykeep_Bytes v10.1 v11).bind fun v12 =>
              cond (v12)
                ((wherrylaw13_wakes ).bind fun v13 =>
                some (.inl v13))
                (some (.inl false)))
              (some (.inl false)))
            (some (.inl false)))
          (some (.inl false)))
        (fun (s14 : Bool) =>
          some (s14)) some))

def wherrykeep_Twin (l : (List Int)) : Option (List Int) :=
  (appO 1 ([] : List Int) l).bind fun v1 =>
  some (v1)

def wherryref11_end (b : (List Int)) (at_ : Int) : Option Int :=
  bindS (S := (Unit)) (A := Int)
    (loopF (S := (Int)) (O := (Unit) ⊕ Int) (fun (s21 : Int) =>
      (some (IntKind.i64.wrap (s21 + 1))).bind fun v1 =>
      cond ((decide (v1 < (b.length : Int))))
        (bindS (S := Bool) (A := ((Int) ⊕ ((Unit) ⊕ Int)))
          ((ixO s21 b.length).bind fun v3 =>
          (getO b v3).bind fun v4 =>
          cond ((v4 == 13))
            ((some (IntKind.i64.wrap (s21 + 1))).bind fun v5 =>
            (ixO v5 b.length).bind fun v6 =>
            (getO b v6).bind fun v7 =>
            some (.inl (v7 == 10)))
            (some (.inl false)))
          (fun (s35 : Bool) =>
            cond (s35)
              (some (.inr (.inr (s21))))
              ((some (IntKind.i64.wrap (s21 + 1))).bind fun v13 =>
              some (.inl v13))) some)
        (some (.inr (.inl ()))))
      BIG at_)
    (fun (() : Unit) =>
      some ((-1))) some

def wherryref11_in (n : Int) (lo : Int) (hi : Int) : Option Bool :=
  bindS (S := Bool) (A := Bool)
    (cond ((decide (lo ≤ n)))
      (some (.inl ((decide (n ≤ hi)))))
      (some (.inl false)))
    (fun (s1 : Bool) =>
      some (s1)) some

def wherryref11_digit (c : Int) : Option Bool :=
  bindS (S := Bool) (A := Bool)
    (cond ((decide (48 ≤ c)))
      (some (.inl ((decide (c ≤ 57)))))
      (some (.inl false)))
    (fun (s1 : Bool) =>
      some (s1)) some

def wherryref11_number (s : ByteArray) (most : Int) : Option Int :=
  bindS (S := Bool) (A := Int)
    ((wherryref11_in (s.size : Int) 1 most).bind fun v1 =>
    cond ((!v1))
      (some (.inl true))
      (cond ((decide (1 < (s.size : Int))))
        ((chrO s 0).bind fun v2 =>
        some (.inl (v2 == 48)))
        (some (.inl false))))
    (fun (s3 : Bool) =>
      cond (s3)
        (some ((-1)))
        (bindS (S := (Int)) (A := Int)
          (loopF (S := (Int × Int)) (O := (Int) ⊕ Int) (fun ((s22, s23) : Int × Int) =>
            cond ((decide (s23 < (s.size : Int))))
              ((chrO s s23).bind fun v9 =>
              (wherryref11_digit v9).bind fun v10 =>
              cond ((!v10))
                (some (.inr (.inr ((-1)))))
                ((some (IntKind.i64.wrap (10 * s22))).bind fun v12 =>
                (chrO s s23).bind fun v13 =>
                (some (IntKind.u8.wrap (v13 - 48))).bind fun v14 =>
                (some (IntKind.i64.wrap v14)).bind fun v15 =>
                (some (IntKind.i64.wrap (v12 + v15))).bind fun v16 =>
                (some (IntKind.i64.wrap (s23 + 1))).bind fun v17 =>
                some (.inl (v16, v17))))
              (some (.inr (.inl s22))))
            BIG (0, 0))
          (fun (s26 : Int) =>
            some (s26)) some)) some

def wherryref11_Reply (p_r : T_Reply) : Option Bool :=
  bindS (S := Bool) (A := Bool)
    ((wherryref11_in p_r.Code 200 559).bind fun v1 =>
    cond ((!v1))
      (some (.inl true))
      ((quoO .i64 p_r.Code 10).bind fun v2 =>
      (remO v2 10).bind fun v3 =>
      cond ((decide (5 < v3)))
        (some (.inl true))
        ((wherryref11_in (p_r.Lines.length : Int) 1 20).bind fun v4 =>
        some (.inl (!v4)))))
    (fun (s5 : Bool) =>
      cond (s5)
        (some (false))
        (bindS (S := (Unit)) (A := Bool)
          (loopF (S := (Int)) (O := (Unit) ⊕ Bool) (fun (s91 : Int) =>
            cond ((decide (s91 < (p_r.Lines.length : Int))))
              ((ixO s91 p_r.Lines.length).bind fun v11 =>
              (getO p_r.Lines v11).bind fun v12 =>
              cond ((decide (200 < (v12.size : Int))))
                (some (.inr (.inr (false))))
                (bindS (S := (Unit)) (A := ((Int) ⊕ ((Unit) ⊕ Bool)))
                  (loopF (S := (Int)) (O := (Unit) ⊕ ((Int) ⊕ ((Unit) ⊕ Bool))) (fun (s147 : Int) =>
                    (ixO s91 p_r.Lines.length).bind fun v14 =>
                    (getO p_r.Lines v14).bind fun v15 =>
                    cond ((decide (s147 < (v15.size : Int))))
                      (bindS (S := Bool) (A := ((Int) ⊕ ((Unit) ⊕ ((Int) ⊕ ((Unit) ⊕ Bool)))))
                        ((ixO s91 p_r.Lines.length).bind fun v17 =>
                        (getO p_r.Lines v17).bind fun v18 =>
                        (chrO v18 s147).bind fun v19 =>
                        cond ((decide (v19 < 32)))
                          (some (.inl true))
                          ((ixO s91 p_r.Lines.length).bind fun v20 =>
                          (getO p_r.Lines v20).bind fun v21 =>
                          (chrO v21 s147).bind fun v22 =>
                          some (.inl ((decide (126 < v22))))))
                        (fun (s161 : Bool) =>
                          cond (s161)
                            (some (.inr (.inr (.inr (.inr (false))))))
                            ((some (IntKind.i64.wrap (s147 + 1))).bind fun v28 =>
                            some (.inl v28))) some)
                      (some (.inr (.inl ()))))
                    BIG 0)
                  (fun (() : Unit) =>
                    (some (IntKind.i64.wrap (s91 + 1))).bind fun v55 =>
                    some (.inl v55)) some))
              (some (.inr (.inl ()))))
            BIG 0)
          (fun (() : Unit) =>
            some (true)) some)) some

def wherryref11_ReadReply (b : (List Int)) : Option (T_Reply × Int × Bool) :=
  bindS (S := (Unit)) (A := (T_Reply × Int × Bool))
    (loopF (S := (Int × (List ByteArray) × Int)) (O := (Unit) ⊕ (T_Reply × Int × Bool)) (fun ((s43, s44, s45) : Int × (List ByteArray) × Int) =>
      (wherryref11_end b s45).bind fun v1 =>
      bindS (S := Bool) (A := ((Int × (List ByteArray) × Int) ⊕ ((Unit) ⊕ (T_Reply × Int × Bool))))
        (cond ((decide (v1 < 0)))
          (some (.inl true))
          ((some (IntKind.i64.wrap (v1 - s45))).bind fun v2 =>
          cond ((decide (v2 < 4)))
            (some (.inl true))
            (some (.inl ((decide (20 ≤ (s44.length : Int))))))))
        (fun (s64 : Bool) =>
          cond (s64)
            (some (.inr (.inr (((T_Reply.mk 0 []), 0, false)))))
            ((sliO b s45 v1).bind fun v8 =>
            (some (bstr v8)).bind fun v9 =>
            (subO v9 0 3).bind fun v10 =>
            (wherryref11_number v10 3).bind fun v11 =>
            bindS (S := Bool) (A := ((Int × (List ByteArray) × Int) ⊕ ((Unit) ⊕ (T_Reply × Int × Bool))))
              (cond ((decide (v11 < 0)))
                (some (.inl true))
                (cond ((decide (0 < (s44.length : Int))))
                  (cond ((v11 != s43))
                    (some (.inl true))
                    ((chrO v9 3).bind fun v12 =>
                    cond ((v12 != 45))
                      ((chrO v9 3).bind fun v13 =>
                      some (.inl (v13 != 32)))
                      (some (.inl false))))
                  ((chrO v9 3).bind fun v14 =>
                  cond ((v14 != 45))
                    ((chrO v9 3).bind fun v15 =>
                    some (.inl (v15 != 32)))
                    (some (.inl false)))))
              (fun (s69 : Bool) =>
                cond (s69)
                  (some (.inr (.inr (((T_Reply.mk 0 []), 0, false)))))
                  ((subO v9 4 (v9.size : Int)).bind fun v21 =>
                  (appO 16 s44 [v21]).bind fun v22 =>
                  (some (IntKind.i64.wrap (v1 + 2))).bind fun v23 =>
                  (chrO v9 3).bind fun v24 =>
                  cond ((v24 == 32))
                    ((wherryref11_Reply (T_Reply.mk v11 v22)).bind fun v26 =>
                    cond ((!v26))
                      (some (.inr (.inr (((T_Reply.mk 0 []), 0, false)))))
                      (some (.inr (.inr (((T_Reply.mk v11 v22), v23, true))))))
                    (some (.inl (v11, v22, v23))))) some)) some)
      BIG (0, [], 0))
    (fun (() : Unit) =>
      none) some

def wherryref11_ReplyBytes (p_r : T_Reply) : Option (List Int) :=
  bindS (S := (ByteArray)) (A := (List Int))
    (loopF (S := (ByteArray × Int)) (O := (ByteArray) ⊕ (List Int)) (fun ((s66, s67) : ByteArray × Int) =>
      cond ((decide (s67 < (p_r.Lines.length : Int))))
        (bindS (S := ByteArray) (A := ((ByteArray × Int) ⊕ ((ByteArray) ⊕ (List Int))))
          ((some (IntKind.i64.wrap ((p_r.Lines.length : Int) - 1))).bind fun v2 =>
          cond ((s67 == v2))
            (some (.inl (⟨#[32]⟩ : ByteArray)))
            (some (.inl (⟨#[45]⟩ : ByteArray))))
          (fun (s84 : ByteArray) =>
            (wherryref11_Digits p_r.Code).bind fun v9 =>
            (catO s66 v9).bind fun v10 =>
            (catO v10 s84).bind fun v11 =>
            (ixO s67 p_r.Lines.length).bind fun v12 =>
            (getO p_r.Lines v12).bind fun v13 =>
            (catO v11 v13).bind fun v14 =>
            (catO v14 (⟨#[13, 10]⟩ : ByteArray)).bind fun v15 =>
            (some (IntKind.i64.wrap (s67 + 1))).bind fun v16 =>
            some (.inl (v15, v16))) some)
        (some (.inr (.inl s66))))
      BIG (((⟨#[]⟩ : ByteArray), 0)))
    (fun (s75 : ByteArray) =>
      (some (sbytes s75)).bind fun v49 =>
      some (v49)) some

def wherrylaw13_AnswerExact (p_r : T_Reply) (b : (List Int)) (code : Int) : Option Bool :=
  bindS (S := Bool) (A := Bool)
    ((wherrylaw13_heavy p_r).bind fun v1 =>
    cond (v1)
      (some (.inl true))
      (some (.inl ((decide (3000 < (b.length : Int)))))))
    (fun (s2 : Bool) =>
      cond (s2)
        (some (true))
        ((wherrykeep_Twin b).bind fun v7 =>
        (answer_Bytes p_r).bind fun v8 =>
        (answer_Read v7).bind fun v9 =>
        (wherryref11_ReadReply b).bind fun v10 =>
        (wherryref11_Reply p_r).bind fun v11 =>
        bindS (S := Bool) (A := Bool)
          ((answer_Check p_r).bind fun v12 =>
          (some (!((v12 == 0) == v11))).bind fun v13 =>
          cond ((!((v12 == 0) == v11)))
            (some (.inl true))
            (cond ((!v11))
              ((answer_Check p_r).bind fun v14 =>
              cond ((v14 != 5))
                (some (.inl true))
                (cond ((v8.2 != 5))
                  (some (.inl true))
                  (cond ((decide (0 < (v8.1.length : Int))))
                    (some (.inl true))
                    (cond (v11)
                      (cond ((v8.2 != 0))
                        (some (.inl true))
                        ((wherryref11_ReplyBytes p_r).bind fun v15 =>
                        (wherrykeep_Bytes v8.1 v15).bind fun v16 =>
                        some (.inl (!v16))))
                      (some (.inl false))))))
              (cond (v11)
                (cond ((v8.2 != 0))
                  (some (.inl true))
                  ((wherryref11_ReplyBytes p_r).bind fun v17 =>
                  (wherrykeep_Bytes v8.1 v17).bind fun v18 =>
                  some (.inl (!v18))))
                (some (.inl false)))))
          (fun (s19 : Bool) =>
            cond (s19)
              (some (false))
              (bindS (S := Bool) (A := Bool)
                ((some ((v9.2.2 == 0) == v10.2.2)).bind fun v24 =>
                cond (((v9.2.2 == 0) == v10.2.2))
                  (cond (v10.2.2)
                    (cond ((v9.2.1 == v10.2.1))
                      ((wherrykeep_Reply v9.1 v10.1).bind fun v25 =>
                      cond (v25)
                        ((answer_Good code).bind fun v26 =>
                        cond ((decide (200 ≤ code)))
                          ((some (v26 == ((decide (code ≤ 399))))).bind fun v27 =>
                          cond ((v26 == ((decide (code ≤ 399)))))
                            ((wherrykeep_Bytes v7 b).bind fun v28 =>
                            cond (v28)
                              ((wherrylaw13_wakes ).bind fun v29 =>
                              some (.inl v29))
                              (some (.inl false)))
                            (some (.inl false)))
                          ((some (v26 == false)).bind fun v30 =>
                          cond ((v26 == false))
                            ((wherrykeep_Bytes v7 b).bind fun v31 =>
                            cond (v31)
                              ((wherrylaw13_wakes ).bind fun v32 =>
                              some (.inl v32))
                              (some (.inl false)))
                            (some (.inl false))))
                        (some (.inl false)))
                      (some (.inl false)))
                    (cond ((v9.2.2 == 3))
                      (cond ((v9.2.1 == v10.2.1))
                        ((wherrykeep_Reply v9.1 v10.1).bind fun v33 =>
                        cond (v33)
                          ((answer_Good code).bind fun v34 =>
                          cond ((decide (200 ≤ code)))
                            ((some (v34 == ((decide (code ≤ 399))))).bind fun v35 =>
                            cond ((v34 == ((decide (code ≤ 399)))))
                              ((wherrykeep_Bytes v7 b).bind fun v36 =>
                              cond (v36)
                                ((wherrylaw13_wakes ).bind fun v37 =>
                                some (.inl v37))
                                (some (.inl false)))
                              (some (.inl false)))
                            ((some (v34 == false)).bind fun v38 =>
                            cond ((v34 == false))
                              ((wherrykeep_Bytes v7 b).bind fun v39 =>
                              cond (v39)
                                ((wherrylaw13_wakes ).bind fun v40 =>
                                some (.inl v40))
                                (some (.inl false)))
                              (some (.inl false))))
                          (some (.inl false)))
                        (some (.inl false)))
                      (some (.inl false))))
                  (some (.inl false)))
                (fun (s41 : Bool) =>
                  some (s41)) some)) some)) some

end Go.Abs.Sh
