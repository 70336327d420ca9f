/-
  The program told in Lean: plain functions; none where Go would panic or a slice outgrow its room.
-/
import Derived.Test.YtjnihhkkaioahaaAJ
set_option linter.unusedVariables false
namespace Go.Abs.Sh

structure T_Bits where
  B : (List Int)
  N : Int
  deriving DecidableEq

def wherrykeep_TwinInts (l : (List Int)) : Option (List Int) :=
  (appO 8 ([] : List Int) l).bind fun v1 =>
  some (v1)

def wherrykeep_Twin (l : (List Int)) : Option (List Int) :=
  (appO 1 ([] : List Int) l).bind fun v1 =>
  some (v1)

def canon_valid (lengths : (List Int)) : Option Bool :=
  cond ((decide (300 < (lengths.length : Int))))
    (some (false))
    (bindS (S := (Unit)) (A := Bool)
      (loopF (S := (Int)) (O := (Unit) ⊕ Bool) (fun (s18 : Int) =>
        cond ((decide (s18 < (lengths.length : Int))))
          ((ixO s18 lengths.length).bind fun v3 =>
          (getO lengths v3).bind fun v4 =>
          bindS (S := Bool) (A := ((Int) ⊕ ((Unit) ⊕ Bool)))
            (cond ((decide (v4 < 0)))
              (some (.inl true))
              (some (.inl ((decide (15 < v4))))))
            (fun (s32 : Bool) =>
              cond (s32)
                (some (.inr (.inr (false))))
                ((some (IntKind.i64.wrap (s18 + 1))).bind fun v10 =>
                some (.inl v10))) some)
          (some (.inr (.inl ()))))
        BIG 0)
      (fun (() : Unit) =>
        some (true)) some)

def canon_count (lengths : (List Int)) : Option (List Int) :=
  bindS (S := ((List Int))) (A := (List Int))
    (loopF (S := ((List Int) × Int)) (O := ((List Int)) ⊕ (List Int)) (fun ((s25, s26) : (List Int) × Int) =>
      cond ((decide (s26 < (lengths.length : Int))))
        (bindS (S := (List Int)) (A := (((List Int) × Int) ⊕ (((List Int)) ⊕ (List Int))))
          ((ixO s26 lengths.length).bind fun v2 =>
          (getO lengths v2).bind fun v3 =>
          cond ((decide (0 < v3)))
            ((ixO v3 16).bind fun v5 =>
            (getO s25 v5).bind fun v6 =>
            (some (IntKind.i64.wrap (v6 + 1))).bind fun v7 =>
            (ixO v3 16).bind fun v8 =>
            (setO s25 v8 v7).bind fun v9 =>
            some (.inl v9))
            (some (.inl s25)))
          (fun (s43 : (List Int)) =>
            (some (IntKind.i64.wrap (s26 + 1))).bind fun v15 =>
            some (.inl (s43, v15))) some)
        (some (.inr (.inl s25))))
      BIG (((List.replicate 16 (0 : Int)), 0)))
    (fun (s34 : (List Int)) =>
      (lnO 16 s34).bind fun v48 =>
      (lnO 16 ((List.replicate 16 (0 : Int)))).bind fun v49 =>
      (lnO 16 s34).bind fun v50 =>
      (lnO 16 s34).bind fun v51 =>
      some (s34)) some

def canon_tally_weight (c : (List Int)) : Option Int :=
  (lnO 16 c).bind fun v1 =>
  bindS (S := (Int)) (A := Int)
    (loopF (S := (Int × Int)) (O := (Int) ⊕ Int) (fun ((s12, s13) : Int × Int) =>
      cond ((decide (s13 < 16)))
        ((ixO s13 16).bind fun v3 =>
        (getO c v3).bind fun v4 =>
        (some (IntKind.i64.wrap (15 - s13))).bind fun v5 =>
        (shlO .i64 v4 v5).bind fun v6 =>
        (some (IntKind.i64.wrap (s12 + v6))).bind fun v7 =>
        (some (IntKind.i64.wrap (s13 + 1))).bind fun v8 =>
        some (.inl (v7, v8)))
        (some (.inr (.inl s12))))
      BIG (0, 0))
    (fun (s15 : Int) =>
      some (s15)) some

def canon_forms (c : (List Int)) : Option Bool :=
  (lnO 16 ((List.replicate 16 (0 : Int)))).bind fun v1 =>
  (lnO 16 [(0 : Int), 1, (0 : Int), (0 : Int), (0 : Int), (0 : Int), (0 : Int), (0 : Int), (0 : Int), (0 : Int), (0 : Int), (0 : Int), (0 : Int), (0 : Int), (0 : Int), (0 : Int)]).bind fun v2 =>
  bindS (S := Bool) (A := Bool)
    ((lnO 16 c).bind fun v3 =>
    (lnO 16 c).bind fun v4 =>
    (lnO 16 [(0 : Int), (0 : Int), (0 : Int), (0 : Int), (0 : Int), (0 : Int), (0 : Int), (0 : Int), (0 : Int), (0 : Int), (0 : Int), (0 : Int), (0 : Int), (0 : Int), (0 : Int), (0 : Int)]).bind fun v5 =>
    cond ((c == [(0 : Int), (0 : Int), (0 : Int), (0 : Int), (0 : Int), (0 : Int), (0 : Int), (0 : Int), (0 : Int), (0 : Int), (0 : Int), (0 : Int), (0 : Int), (0 : Int), (0 : Int), (0 : Int)]))
      (some (.inl true))
      ((lnO 16 c).bind fun v6 =>
      (lnO 16 [(0 : Int), 1, (0 : Int), (0 : Int), (0 : Int), (0 : Int), (0 : Int), (0 : Int), (0 : Int), (0 : Int), (0 : Int), (0 : Int), (0 : Int), (0 : Int), (0 : Int), (0 : Int)]).bind fun v7 =>
      (lnO 16 c).bind fun v8 =>
      (lnO 16 [(0 : Int), 1, (0 : Int), (0 : Int), (0 : Int), (0 : Int), (0 : Int), (0 : Int), (0 : Int), (0 : Int), (0 : Int), (0 : Int), (0 : Int), (0 : Int), (0 : Int), (0 : Int)]).bind fun v9 =>
      cond ((c == [(0 : Int), 1, (0 : Int), (0 : Int), (0 : Int), (0 : Int), (0 : Int), (0 : Int), (0 : Int), (0 : Int), (0 : Int), (0 : Int), (0 : Int), (0 : Int), (0 : Int), (0 : Int)]))
        (some (.inl true))
        ((lnO 16 c).bind fun v10 =>
        (canon_tally_weight c).bind fun v11 =>
        some (.inl (v11 == 32768)))))
    (fun (s12 : Bool) =>
      some (s12)) some

def canon_Check (lengths : (List Int)) : Option Int :=
  (canon_valid lengths).bind fun v1 =>
  cond ((!v1))
    (some (1))
    ((canon_count lengths).bind fun v3 =>
    (canon_forms v3).bind fun v4 =>
    cond ((!v4))
      (some (4))
      (some (0)))

def canon_firsts (c : (List Int)) : Option (List Int) :=
  bindS (S := ((List Int))) (A := (List Int))
    (loopF (S := ((List Int) × Int)) (O := ((List Int)) ⊕ (List Int)) (fun ((s16, s17) : (List Int) × Int) =>
      cond ((decide (s17 ≤ 15)))
        ((some (IntKind.i64.wrap (s17 - 1))).bind fun v2 =>
        (ixO v2 16).bind fun v3 =>
        (getO s16 v3).bind fun v4 =>
        (some (IntKind.i64.wrap (s17 - 1))).bind fun v5 =>
        (ixO v5 16).bind fun v6 =>
        (getO c v6).bind fun v7 =>
        (some (IntKind.i64.wrap (v4 + v7))).bind fun v8 =>
        (some (IntKind.i64.wrap (2 * v8))).bind fun v9 =>
        (ixO s17 16).bind fun v10 =>
        (setO s16 v10 v9).bind fun v11 =>
        (some (IntKind.i64.wrap (s17 + 1))).bind fun v12 =>
        some (.inl (v11, v12)))
        (some (.inr (.inl s16))))
      BIG (((List.replicate 16 (0 : Int)), 2)))
    (fun (s19 : (List Int)) =>
      (lnO 16 s19).bind fun v27 =>
      (lnO 16 ((List.replicate 16 (0 : Int)))).bind fun v28 =>
      (lnO 16 s19).bind fun v29 =>
      (lnO 16 s19).bind fun v30 =>
      some (s19)) some

def canon_Codes (lengths : (List Int)) : Option ((List Int) × Int) :=
  (canon_Check lengths).bind fun v1 =>
  cond ((v1 != 0))
    (some (([], v1)))
    ((canon_count lengths).bind fun v3 =>
    (canon_firsts v3).bind fun v4 =>
    (lnO 16 ((List.replicate 16 (0 : Int)))).bind fun v5 =>
    (lnO 16 v4).bind fun v6 =>
    (mkO 8 (lengths.length : Int) (0 : Int)).bind fun v7 =>
    bindS (S := ((List Int))) (A := ((List Int) × Int))
      (loopF (S := ((List Int) × (List Int) × Int)) (O := ((List Int)) ⊕ ((List Int) × Int)) (fun ((s39, s40, s41) : (List Int) × (List Int) × Int) =>
        cond ((decide (s41 < (lengths.length : Int))))
          (bindS (S := (List Int) × (List Int)) (A := (((List Int) × (List Int) × Int) ⊕ (((List Int)) ⊕ ((List Int) × Int))))
            ((ixO s41 lengths.length).bind fun v9 =>
            (getO lengths v9).bind fun v10 =>
            cond ((decide (0 < v10)))
              ((ixO v10 16).bind fun v12 =>
              (getO s39 v12).bind fun v13 =>
              (ixO s41 s40.length).bind fun v14 =>
              (some (s40.set v14 v13)).bind fun v15 =>
              (ixO v10 16).bind fun v16 =>
              (getO s39 v16).bind fun v17 =>
              (some (IntKind.i64.wrap (v17 + 1))).bind fun v18 =>
              (ixO v10 16).bind fun v19 =>
              (setO s39 v19 v18).bind fun v20 =>
              some (.inl (v20, v15)))
              (some (.inl (s39, s40))))
            (fun ((s59, s60) : (List Int) × (List Int)) =>
              (some (IntKind.i64.wrap (s41 + 1))).bind fun v27 =>
              some (.inl (s59, s60, v27))) some)
          (some (.inr (.inl s40))))
        BIG (v4, v7, 0))
      (fun (s50 : (List Int)) =>
        some ((s50, 0))) some)

def wherryref01_in (n : Int) (lo : Int) (hi : Int) : Option Bool :=
  bindS (S := Bool) (A := Bool)
    (cond ((decide (lo ≤ n)))
      (some (.inl ((decide (n ≤ hi)))))
      (some (.inl false)))
    (fun (s1 : Bool) =>
      some (s1)) some

def wherryref01_RightLengths (l : (List Int)) : Option Bool :=
  cond ((decide (300 < (l.length : Int))))
    (some (false))
    (bindS (S := (Unit)) (A := Bool)
      (loopF (S := (Int)) (O := (Unit) ⊕ Bool) (fun (s11 : Int) =>
        cond ((decide (s11 < (l.length : Int))))
          ((ixO s11 l.length).bind fun v3 =>
          (getO l v3).bind fun v4 =>
          (wherryref01_in v4 0 15).bind fun v5 =>
          cond ((!v5))
            (some (.inr (.inr (false))))
            ((some (IntKind.i64.wrap (s11 + 1))).bind fun v7 =>
            some (.inl v7)))
          (some (.inr (.inl ()))))
        BIG 0)
      (fun (() : Unit) =>
        some (true)) some)

def wherryref01_Weigh (l : (List Int)) : Option Int :=
  (wherryref01_RightLengths l).bind fun v1 =>
  cond ((!v1))
    (some (0))
    (bindS (S := (Int)) (A := Int)
      (loopF (S := (Int × Int)) (O := (Int) ⊕ Int) (fun ((s28, s29) : Int × Int) =>
        cond ((decide (s29 < (l.length : Int))))
          (bindS (S := Int) (A := ((Int × Int) ⊕ ((Int) ⊕ Int)))
            ((ixO s29 l.length).bind fun v4 =>
            (getO l v4).bind fun v5 =>
            cond ((decide (0 < v5)))
              ((ixO s29 l.length).bind fun v7 =>
              (getO l v7).bind fun v8 =>
              (some (IntKind.i64.wrap (15 - v8))).bind fun v9 =>
              (some (IntKind.u64.wrap v9)).bind fun v10 =>
              (shlO .i64 1 v10).bind fun v11 =>
              (some (IntKind.i64.wrap (s28 + v11))).bind fun v12 =>
              some (.inl v12))
              (some (.inl s28)))
            (fun (s46 : Int) =>
              (some (IntKind.i64.wrap (s29 + 1))).bind fun v18 =>
              some (.inl (s46, v18))) some)
          (some (.inr (.inl s28))))
        BIG (0, 0))
      (fun (s37 : Int) =>
        some (s37)) some)

def wherryref01_makes (l : (List Int)) : Option Bool :=
  bindS (S := (Int × Int)) (A := Bool)
    (loopF (S := (Int × Int × Int)) (O := (Int × Int) ⊕ Bool) (fun ((s26, s27, s28) : Int × Int × Int) =>
      cond ((decide (s28 < (l.length : Int))))
        (bindS (S := Int × Int) (A := ((Int × Int × Int) ⊕ ((Int × Int) ⊕ Bool)))
          ((ixO s28 l.length).bind fun v2 =>
          (getO l v2).bind fun v3 =>
          cond ((decide (0 < v3)))
            ((some (IntKind.i64.wrap (s26 + 1))).bind fun v5 =>
            (ixO s28 l.length).bind fun v6 =>
            (getO l v6).bind fun v7 =>
            some (.inl (v5, v7)))
            (some (.inl (s26, s27))))
          (fun ((s47, s48) : Int × Int) =>
            (some (IntKind.i64.wrap (s28 + 1))).bind fun v14 =>
            some (.inl (s47, s48, v14))) some)
        (some (.inr (.inl (s26, s27)))))
      BIG (0, 0, 0))
    (fun ((s37, s38) : Int × Int) =>
      bindS (S := Bool) (A := Bool)
        (cond ((s37 == 0))
          (some (.inl true))
          (cond ((s37 == 1))
            (cond ((s38 == 1))
              (some (.inl true))
              ((wherryref01_Weigh l).bind fun v53 =>
              some (.inl (v53 == 32768))))
            ((wherryref01_Weigh l).bind fun v54 =>
            some (.inl (v54 == 32768)))))
        (fun (s55 : Bool) =>
          some (s55)) some) some

def wherryref01_CheckLengths (l : (List Int)) : Option Int :=
  (wherryref01_RightLengths l).bind fun v1 =>
  cond ((!v1))
    (some (1))
    ((wherryref01_makes l).bind fun v3 =>
    cond ((!v3))
      (some (4))
      (some (0)))

def wherryref01_codes (l : (List Int)) : Option (List Int) :=
  (mkO 8 (l.length : Int) (0 : Int)).bind fun v1 =>
  bindS (S := ((List Int))) (A := (List Int))
    (loopF (S := ((List Int) × Int × Int)) (O := ((List Int)) ⊕ (List Int)) (fun ((s107, s108, s109) : (List Int) × Int × Int) =>
      cond ((decide (s109 ≤ 15)))
        ((some (IntKind.i64.wrap (2 * s108))).bind fun v3 =>
        bindS (S := ((List Int) × Int)) (A := (((List Int) × Int × Int) ⊕ (((List Int)) ⊕ (List Int))))
          (loopF (S := ((List Int) × Int × Int)) (O := ((List Int) × Int) ⊕ (((List Int) × Int × Int) ⊕ (((List Int)) ⊕ (List Int)))) (fun ((s184, s185, s186) : (List Int) × Int × Int) =>
            cond ((decide (s186 < (l.length : Int))))
              (bindS (S := (List Int) × Int) (A := (((List Int) × Int × Int) ⊕ (((List Int) × Int) ⊕ (((List Int) × Int × Int) ⊕ (((List Int)) ⊕ (List Int))))))
                ((ixO s186 l.length).bind fun v5 =>
                (getO l v5).bind fun v6 =>
                cond ((v6 == s109))
                  ((ixO s186 s184.length).bind fun v8 =>
                  (some (s184.set v8 s185)).bind fun v9 =>
                  (some (IntKind.i64.wrap (s185 + 1))).bind fun v10 =>
                  some (.inl (v9, v10)))
                  (some (.inl (s184, s185))))
                (fun ((s205, s206) : (List Int) × Int) =>
                  (some (IntKind.i64.wrap (s186 + 1))).bind fun v17 =>
                  some (.inl (s205, s206, v17))) some)
              (some (.inr (.inl (s184, s185)))))
            BIG (s107, v3, 0))
          (fun ((s195, s196) : (List Int) × Int) =>
            (some (IntKind.i64.wrap (s109 + 1))).bind fun v56 =>
            some (.inl (s195, s196, v56))) some)
        (some (.inr (.inl s107))))
      BIG (v1, 0, 1))
    (fun (s157 : (List Int)) =>
      some (s157)) some

def wherryref01_Codes (l : (List Int)) : Option ((List Int) × Int) :=
  (wherryref01_CheckLengths l).bind fun v1 =>
  cond ((v1 != 0))
    (some (([], v1)))
    ((wherryref01_codes l).bind fun v3 =>
    some ((v3, 0)))

def canon_nth (lengths : (List Int)) (n : Int) (k : Int) : Option Int :=
  bindS (S := (Unit)) (A := Int)
    (loopF (S := (Int × Int)) (O := (Unit) ⊕ Int) (fun ((s25, s26) : Int × Int) =>
      cond ((decide (s26 < (lengths.length : Int))))
        (bindS (S := Int) (A := ((Int × Int) ⊕ ((Unit) ⊕ Int)))
          ((ixO s26 lengths.length).bind fun v2 =>
          (getO lengths v2).bind fun v3 =>
          cond ((v3 != n))
            (some (.inl s25))
            (cond ((s25 == 0))
              (some (.inr (.inr (.inr (s26)))))
              ((some (IntKind.i64.wrap (s25 - 1))).bind fun v6 =>
              some (.inl v6))))
          (fun (s45 : Int) =>
            (some (IntKind.i64.wrap (s26 + 1))).bind fun v13 =>
            some (.inl (s45, v13))) some)
        (some (.inr (.inl ()))))
      BIG (k, 0))
    (fun (() : Unit) =>
      some (0)) some

def canon_Read (lengths : (List Int)) (b : (List Int)) (at_ : Int) : Option (Int × Int × Int) :=
  (canon_Check lengths).bind fun v1 =>
  cond ((v1 != 0))
    (some ((0, 0, v1)))
    (bindS (S := Bool) (A := (Int × Int × Int))
      (cond ((decide (at_ < 0)))
        (some (.inl true))
        ((some (IntKind.i64.wrap (8 * (b.length : Int)))).bind fun v3 =>
        some (.inl ((decide (v3 < at_))))))
      (fun (s4 : Bool) =>
        cond (s4)
          (some ((0, 0, 1)))
          ((canon_count lengths).bind fun v9 =>
          (lnO 16 ((List.replicate 16 (0 : Int)))).bind fun v10 =>
          (lnO 16 v9).bind fun v11 =>
          (lnO 16 v9).bind fun v12 =>
          (canon_firsts v9).bind fun v13 =>
          (lnO 16 ((List.replicate 16 (0 : Int)))).bind fun v14 =>
          (lnO 16 v13).bind fun v15 =>
          bindS (S := (Unit)) (A := (Int × Int × Int))
            (loopF (S := (Int × Int × Int)) (O := (Unit) ⊕ (Int × Int × Int)) (fun ((s52, s53, s54) : Int × Int × Int) =>
              bindS (S := Bool) (A := ((Int × Int × Int) ⊕ ((Unit) ⊕ (Int × Int × Int))))
                (cond ((decide (s54 ≤ 15)))
                  ((some (IntKind.i64.wrap (8 * (b.length : Int)))).bind fun v16 =>
                  some (.inl ((decide (s52 < v16)))))
                  (some (.inl false)))
                (fun (s67 : Bool) =>
                  cond (s67)
                    ((shlO .i64 s53 1).bind fun v22 =>
                    (quoO .i64 s52 8).bind fun v23 =>
                    (ixO v23 b.length).bind fun v24 =>
                    (getO b v24).bind fun v25 =>
                    (remO s52 8).bind fun v26 =>
                    (shrO .u8 v25 v26).bind fun v27 =>
                    (some (bits .and .u8 v27 1)).bind fun v28 =>
                    (some (IntKind.i64.wrap v28)).bind fun v29 =>
                    (some (bits .or .i64 v22 v29)).bind fun v30 =>
                    (some (IntKind.i64.wrap (s52 + 1))).bind fun v31 =>
                    (ixO s54 16).bind fun v32 =>
                    (getO v13 v32).bind fun v33 =>
                    (ixO s54 16).bind fun v34 =>
                    (getO v9 v34).bind fun v35 =>
                    (some (IntKind.i64.wrap (v33 + v35))).bind fun v36 =>
                    cond ((decide (v30 < v36)))
                      ((ixO s54 16).bind fun v38 =>
                      (getO v13 v38).bind fun v39 =>
                      (some (IntKind.i64.wrap (v30 - v39))).bind fun v40 =>
                      (canon_nth lengths s54 v40).bind fun v41 =>
                      some (.inr (.inr ((v41, v31, 0)))))
                      ((some (IntKind.i64.wrap (s54 + 1))).bind fun v42 =>
                      some (.inl (v31, v30, v42))))
                    (some (.inr (.inl ())))) some)
              BIG (at_, 0, 1))
            (fun (() : Unit) =>
              some ((0, 0, 3))) some)) some)

def wherryref01_bit (b : (List Int)) (i : Int) : Option Int :=
  (quoO .i64 i 8).bind fun v1 =>
  (ixO v1 b.length).bind fun v2 =>
  (getO b v2).bind fun v3 =>
  (remO i 8).bind fun v4 =>
  (some (IntKind.u64.wrap v4)).bind fun v5 =>
  (shrO .u8 v3 v5).bind fun v6 =>
  (some (IntKind.i64.wrap v6)).bind fun v7 =>
  (some (bits .and .i64 v7 1)).bind fun v8 =>
  some (v8)

def wherryref01_read (l : (List Int)) (c : (List Int)) (b : (List Int)) (at_ : Int) : Option (Int × Int) :=
  bindS (S := (Unit)) (A := (Int × Int))
    (loopF (S := (Int × Int)) (O := (Unit) ⊕ (Int × Int)) (fun ((s91, s92) : Int × Int) =>
      bindS (S := Bool) (A := ((Int × Int) ⊕ ((Unit) ⊕ (Int × Int))))
        (cond ((decide (s92 ≤ 15)))
          ((some (IntKind.i64.wrap (at_ + s92))).bind fun v1 =>
          (some (IntKind.i64.wrap (8 * (b.length : Int)))).bind fun v2 =>
          some (.inl ((decide (v1 ≤ v2)))))
          (some (.inl false)))
        (fun (s136 : Bool) =>
          cond (s136)
            ((some (IntKind.i64.wrap (2 * s91))).bind fun v8 =>
            (some (IntKind.i64.wrap (at_ + s92))).bind fun v9 =>
            (some (IntKind.i64.wrap (v9 - 1))).bind fun v10 =>
            (wherryref01_bit b v10).bind fun v11 =>
            (some (IntKind.i64.wrap (v8 + v11))).bind fun v12 =>
            bindS (S := (Unit)) (A := ((Int × Int) ⊕ ((Unit) ⊕ (Int × Int))))
              (loopF (S := (Int)) (O := (Unit) ⊕ ((Int × Int) ⊕ ((Unit) ⊕ (Int × Int)))) (fun (s154 : Int) =>
                cond ((decide (s154 < (l.length : Int))))
                  (bindS (S := Bool) (A := ((Int) ⊕ ((Unit) ⊕ ((Int × Int) ⊕ ((Unit) ⊕ (Int × Int))))))
                    ((ixO s154 l.length).bind fun v14 =>
                    (getO l v14).bind fun v15 =>
                    cond ((v15 == s92))
                      ((ixO s154 c.length).bind fun v16 =>
                      (getO c v16).bind fun v17 =>
                      some (.inl (v17 == v12)))
                      (some (.inl false)))
                    (fun (s168 : Bool) =>
                      cond (s168)
                        ((some (IntKind.i64.wrap (at_ + s92))).bind fun v23 =>
                        some (.inr (.inr (.inr (.inr ((s154, v23)))))))
                        ((some (IntKind.i64.wrap (s154 + 1))).bind fun v24 =>
                        some (.inl v24))) some)
                  (some (.inr (.inl ()))))
                BIG 0)
              (fun (() : Unit) =>
                (some (IntKind.i64.wrap (s92 + 1))).bind fun v51 =>
                some (.inl (v12, v51))) some)
            (some (.inr (.inl ())))) some)
      BIG (0, 1))
    (fun (() : Unit) =>
      some (((-1), 0))) some

def wherryref01_Read (l : (List Int)) (b : (List Int)) (at_ : Int) : Option (Int × Int × Int) :=
  (wherryref01_CheckLengths l).bind fun v1 =>
  cond ((v1 != 0))
    (some ((0, 0, v1)))
    ((some (IntKind.i64.wrap (8 * (b.length : Int)))).bind fun v3 =>
    (wherryref01_in at_ 0 v3).bind fun v4 =>
    cond ((!v4))
      (some ((0, 0, 1)))
      ((wherryref01_codes l).bind fun v6 =>
      (wherryref01_read l v6 b at_).bind fun v7 =>
      cond ((decide (v7.1 < 0)))
        (some ((0, 0, 3)))
        (some ((v7.1, v7.2, 0)))))

def canon_Weigh (lengths : (List Int)) : Option Int :=
  (canon_valid lengths).bind fun v1 =>
  cond ((!v1))
    (some (0))
    ((canon_count lengths).bind fun v3 =>
    (canon_tally_weight v3).bind fun v4 =>
    some (v4))

def wherrykeep_Ints (a : (List Int)) (b : (List Int)) : Option Bool :=
  cond (((a.length : Int) != (b.length : Int)))
    (some (false))
    (bindS (S := (Unit)) (A := Bool)
      (loopF (S := (Int)) (O := (Unit) ⊕ Bool) (fun (s12 : Int) =>
        cond ((decide (s12 < (a.length : Int))))
          ((ixO s12 a.length).bind fun v3 =>
          (getO a v3).bind fun v4 =>
          (ixO s12 b.length).bind fun v5 =>
          (getO b v5).bind fun v6 =>
          cond ((v4 != v6))
            (some (.inr (.inr (false))))
            ((some (IntKind.i64.wrap (s12 + 1))).bind fun v8 =>
            some (.inl v8)))
          (some (.inr (.inl ()))))
        BIG 0)
      (fun (() : Unit) =>
        some (true)) some)

def wherrykeep_Bytes (a : (List Int)) (b : (List Int)) : Option Bool :=
  cond (((a.length : Int) != (b.length : Int)))
    (some (false))
    (bindS (S := (Unit)) (A := Bool)
      (loopF (S := (Int)) (O := (Unit) ⊕ Bool) (fun (s12 : Int) =>
        cond ((decide (s12 < (a.length : Int))))
          ((ixO s12 a.length).bind fun v3 =>
          (getO a v3).bind fun v4 =>
          (ixO s12 b.length).bind fun v5 =>
          (getO b v5).bind fun v6 =>
          cond ((v4 != v6))
            (some (.inr (.inr (false))))
            ((some (IntKind.i64.wrap (s12 + 1))).bind fun v8 =>
            some (.inl v8)))
          (some (.inr (.inl ()))))
        BIG 0)
      (fun (() : Unit) =>
        some (true)) some)

def wherrylaw02_wakes : Option Bool :=
  (canon_Codes [2, 1, 3, 3]).bind fun v1 =>
  (canon_Read [2, 1, 3, 3] [1] 0).bind fun v2 =>
  bindS (S := Bool) (A := Bool)
    (cond ((v1.2 == 0))
      (cond ((v2.2.2 == 0))
        ((wherrykeep_Ints v1.1 [2, 0, 6, 7]).bind fun v3 =>
        cond (v3)
          (cond ((v2.1 == 0))
            (cond ((v2.2.1 == 2))
              ((canon_Check [2]).bind fun v4 =>
              cond ((v4 == 4))
                ((canon_Weigh [2, 1, 3, 3]).bind fun v5 =>
                some (.inl (v5 == 32768)))
                (some (.inl false)))
              (some (.inl false)))
            (some (.inl false)))
          (some (.inl false)))
        (some (.inl false)))
      (some (.inl false)))
    (fun (s6 : Bool) =>
      some (s6)) some

def wherrylaw02_CanonExact (l : (List Int)) (b : (List Int)) (at_ : Int) : Option Bool :=
  bindS (S := Bool) (A := Bool)
    (cond ((decide (400 < (l.length : Int))))
      (some (.inl true))
      (some (.inl ((decide (600 < (b.length : Int)))))))
    (fun (s1 : Bool) =>
      cond (s1)
        (some (true))
        ((wherrykeep_TwinInts l).bind fun v6 =>
        (wherrykeep_Twin b).bind fun v7 =>
        (canon_Codes v6).bind fun v8 =>
        (wherryref01_Codes l).bind fun v9 =>
        (canon_Read v6 v7 at_).bind fun v10 =>
        (wherryref01_Read l b at_).bind fun v11 =>
        bindS (S := Bool) (A := Bool)
          ((canon_Check v6).bind fun v12 =>
          (wherryref01_CheckLengths l).bind fun v13 =>
          cond ((v12 != v13))
            (some (.inl true))
            ((canon_Weigh v6).bind fun v14 =>
            (wherryref01_Weigh l).bind fun v15 =>
            cond ((v14 != v15))
              (some (.inl true))
              (cond ((v8.2 != v9.2))
                (some (.inl true))
                ((wherrykeep_Ints v8.1 v9.1).bind fun v16 =>
                cond ((!v16))
                  (some (.inl true))
                  (cond ((v10.2.2 != v11.2.2))
                    (some (.inl true))
                    (cond ((v10.1 != v11.1))
                      (some (.inl true))
                      (some (.inl (v10.2.1 != v11.2.1)))))))))
          (fun (s17 : Bool) =>
            cond (s17)
              (some (false))
              (bindS (S := (Unit)) (A := Bool)
                (loopF (S := ((List Int) × Int)) (O := (Unit) ⊕ Bool) (fun ((s32, s33) : (List Int) × Int) =>
                  cond ((decide (s33 < (s32.length : Int))))
                    ((ixO s33 s32.length).bind fun v23 =>
                    (getO s32 v23).bind fun v24 =>
                    (some (IntKind.i64.wrap (v24 + 5))).bind fun v25 =>
                    (ixO s33 s32.length).bind fun v26 =>
                    (some (s32.set v26 v25)).bind fun v27 =>
                    (some (IntKind.i64.wrap (s33 + 1))).bind fun v28 =>
                    some (.inl (v27, v28)))
                    (some (.inr (.inl ()))))
                  BIG (v8.1, 0))
                (fun (() : Unit) =>
                  bindS (S := Bool) (A := Bool)
                    ((wherrykeep_Ints v6 l).bind fun v42 =>
                    cond (v42)
                      ((wherrykeep_Bytes v7 b).bind fun v43 =>
                      cond (v43)
                        ((wherrylaw02_wakes ).bind fun v44 =>
                        some (.inl v44))
                        (some (.inl false)))
                      (some (.inl false)))
                    (fun (s45 : Bool) =>
                      some (s45)) some) some)) some)) some

def wherrylaw02_CanonApart (l : (List Int)) (i : Int) (k : Int) : Option Bool :=
  bindS (S := Bool) (A := Bool)
    (cond ((decide (300 < (l.length : Int))))
      (some (.inl true))
      (some (.inl (((l.length : Int) == 0)))))
    (fun (s1 : Bool) =>
      cond (s1)
        (some (true))
        ((canon_Codes l).bind fun v6 =>
        cond ((v6.2 != 0))
          (bindS (S := Bool) (A := Bool)
            (cond (((v6.1.length : Int) == 0))
              (cond ((v6.2 == 1))
                ((wherrylaw02_wakes ).bind fun v8 =>
                some (.inl v8))
                (cond ((v6.2 == 4))
                  ((wherrylaw02_wakes ).bind fun v9 =>
                  some (.inl v9))
                  (some (.inl false))))
              (some (.inl false)))
            (fun (s10 : Bool) =>
              some (s10)) some)
          (cond (((v6.1.length : Int) != (l.length : Int)))
            (some (false))
            ((some (IntKind.u64.wrap i)).bind fun v15 =>
            (some (IntKind.u64.wrap (l.length : Int))).bind fun v16 =>
            (remO v15 v16).bind fun v17 =>
            (some (IntKind.i64.wrap v17)).bind fun v18 =>
            (some (IntKind.u64.wrap k)).bind fun v19 =>
            (some (IntKind.u64.wrap (l.length : Int))).bind fun v20 =>
            (remO v19 v20).bind fun v21 =>
            (some (IntKind.i64.wrap v21)).bind fun v22 =>
            (ixO v18 l.length).bind fun v23 =>
            (getO l v23).bind fun v24 =>
            cond ((v24 == 0))
              (bindS (S := Bool) (A := Bool)
                ((ixO v18 v6.1.length).bind fun v26 =>
                (getO v6.1 v26).bind fun v27 =>
                cond ((v27 == 0))
                  ((wherrylaw02_wakes ).bind fun v28 =>
                  some (.inl v28))
                  (some (.inl false)))
                (fun (s29 : Bool) =>
                  some (s29)) some)
              (bindS (S := Bool) (A := Bool)
                ((ixO v18 v6.1.length).bind fun v33 =>
                (getO v6.1 v33).bind fun v34 =>
                cond ((decide (v34 < 0)))
                  (some (.inl true))
                  ((ixO v18 v6.1.length).bind fun v35 =>
                  (getO v6.1 v35).bind fun v36 =>
                  (ixO v18 l.length).bind fun v37 =>
                  (getO l v37).bind fun v38 =>
                  (some (IntKind.u64.wrap v38)).bind fun v39 =>
                  (shlO .i64 1 v39).bind fun v40 =>
                  some (.inl ((decide (v40 ≤ v36))))))
                (fun (s41 : Bool) =>
                  cond (s41)
                    (some (false))
                    (bindS (S := Bool) (A := Bool)
                      (cond ((v18 == v22))
                        (some (.inl true))
                        ((ixO v22 l.length).bind fun v46 =>
                        (getO l v46).bind fun v47 =>
                        cond ((v47 == 0))
                          (some (.inl true))
                          ((ixO v22 l.length).bind fun v48 =>
                          (getO l v48).bind fun v49 =>
                          (ixO v18 l.length).bind fun v50 =>
                          (getO l v50).bind fun v51 =>
                          some (.inl ((decide (v49 < v51)))))))
                      (fun (s52 : Bool) =>
                        cond (s52)
                          ((wherrylaw02_wakes ).bind fun v57 =>
                          some (v57))
                          ((ixO v18 l.length).bind fun v58 =>
                          (getO l v58).bind fun v59 =>
                          (ixO v22 l.length).bind fun v60 =>
                          (getO l v60).bind fun v61 =>
                          cond ((v59 == v61))
                            (bindS (S := Bool) (A := Bool)
                              ((ixO v18 v6.1.length).bind fun v63 =>
                              (getO v6.1 v63).bind fun v64 =>
                              (ixO v22 v6.1.length).bind fun v65 =>
                              (getO v6.1 v65).bind fun v66 =>
                              (some (((decide (v64 < v66))) == ((decide (v18 < v22))))).bind fun v67 =>
                              cond ((((decide (v64 < v66))) == ((decide (v18 < v22)))))
                                ((ixO v18 v6.1.length).bind fun v68 =>
                                (getO v6.1 v68).bind fun v69 =>
                                (ixO v22 v6.1.length).bind fun v70 =>
                                (getO v6.1 v70).bind fun v71 =>
                                cond ((v69 != v71))
                                  ((wherrylaw02_wakes ).bind fun v72 =>
                                  some (.inl v72))
                                  (some (.inl false)))
                                (some (.inl false)))
                              (fun (s73 : Bool) =>
                                some (s73)) some)
                            (bindS (S := Bool) (A := Bool)
                              ((ixO v22 v6.1.length).bind fun v77 =>
                              (getO v6.1 v77).bind fun v78 =>
                              (ixO v22 l.length).bind fun v79 =>
                              (getO l v79).bind fun v80 =>
                              (ixO v18 l.length).bind fun v81 =>
                              (getO l v81).bind fun v82 =>
                              (some (IntKind.i64.wrap (v80 - v82))).bind fun v83 =>
                              (some (IntKind.u64.wrap v83)).bind fun v84 =>
                              (shrO .i64 v78 v84).bind fun v85 =>
                              (ixO v18 v6.1.length).bind fun v86 =>
                              (getO v6.1 v86).bind fun v87 =>
                              cond ((v85 != v87))
                                ((wherrylaw02_wakes ).bind fun v88 =>
                                some (.inl v88))
                                (some (.inl false)))
                              (fun (s89 : Bool) =>
                                some (s89)) some))) some)) some))))) some

def bits_fits (v : Int) (n : Int) : Option Bool :=
  bindS (S := Bool) (A := Bool)
    (cond ((decide (0 ≤ n)))
      (cond ((decide (n ≤ 24)))
        (cond ((decide (0 ≤ v)))
          ((shlO .i64 1 n).bind fun v1 =>
          some (.inl ((decide (v < v1)))))
          (some (.inl false)))
        (some (.inl false)))
      (some (.inl false)))
    (fun (s2 : Bool) =>
      some (s2)) some

def bits_Turn (v : Int) (n : Int) : Option (Int × Int) :=
  (bits_fits v n).bind fun v1 =>
  cond ((!v1))
    (some ((0, 1)))
    ((some (IntKind.u32.wrap v)).bind fun v3 =>
    bindS (S := (Int)) (A := (Int × Int))
      (loopF (S := (Int × Int × Int)) (O := (Int) ⊕ (Int × Int)) (fun ((s14, s15, s16) : Int × Int × Int) =>
        cond ((decide (0 < s14)))
          ((shlO .u32 s15 1).bind fun v5 =>
          (some (bits .and .u32 s16 1)).bind fun v6 =>
          (some (bits .or .u32 v5 v6)).bind fun v7 =>
          (shrO .u32 s16 1).bind fun v8 =>
          (some (IntKind.i64.wrap (s14 - 1))).bind fun v9 =>
          some (.inl (v9, v7, v8)))
          (some (.inr (.inl s15))))
        BIG (n, 0, v3))
      (fun (s18 : Int) =>
        (some (IntKind.i64.wrap s18)).bind fun v26 =>
        some ((v26, 0))) some)

def bits_bytesFor (n : Int) : Option Int :=
  (some (IntKind.i64.wrap (n + 7))).bind fun v1 =>
  (quoO .i64 v1 8).bind fun v2 =>
  some (v2)

def bits_Check (s : T_Bits) : Option Int :=
  bindS (S := Bool) (A := Int)
    (cond ((decide (s.N < 0)))
      (some (.inl true))
      (cond ((decide (40000 < s.N)))
        (some (.inl true))
        ((bits_bytesFor s.N).bind fun v1 =>
        some (.inl (((s.B.length : Int) != v1))))))
    (fun (s2 : Bool) =>
      cond (s2)
        (some (1))
        ((remO s.N 8).bind fun v7 =>
        bindS (S := Bool) (A := Int)
          (cond ((v7 != 0))
            ((some (IntKind.i64.wrap ((s.B.length : Int) - 1))).bind fun v8 =>
            (ixO v8 s.B.length).bind fun v9 =>
            (getO s.B v9).bind fun v10 =>
            (shrO .u8 v10 v7).bind fun v11 =>
            some (.inl (v11 != 0)))
            (some (.inl false)))
          (fun (s12 : Bool) =>
            cond (s12)
              (some (1))
              (some (0))) some)) some

def bits_Put (s : T_Bits) (v : Int) (n : Int) : Option (T_Bits × Int) :=
  (bits_Check s).bind fun v1 =>
  cond ((v1 != 0))
    (some (((T_Bits.mk [] 0), v1)))
    ((bits_fits v n).bind fun v3 =>
    cond ((!v3))
      (some (((T_Bits.mk [] 0), 1)))
      ((some (IntKind.i64.wrap (s.N + n))).bind fun v5 =>
      cond ((decide (40000 < v5)))
        (some (((T_Bits.mk [] 0), 2)))
        ((some (IntKind.i64.wrap (s.N + n))).bind fun v7 =>
        (bits_bytesFor v7).bind fun v8 =>
        (mkO 1 v8 (0 : Int)).bind fun v9 =>
        (some (copyL v9 s.B)).bind fun v10 =>
        (some (IntKind.u32.wrap v)).bind fun v11 =>
        (remO s.N 8).bind fun v12 =>
        (shlO .u32 v11 v12).bind fun v13 =>
        (quoO .i64 s.N 8).bind fun v14 =>
        bindS (S := ((List Int))) (A := (T_Bits × Int))
          (loopF (S := ((List Int) × Int × Int)) (O := ((List Int)) ⊕ (T_Bits × Int)) (fun ((s28, s29, s30) : (List Int) × Int × Int) =>
            cond ((decide (s30 < (s28.length : Int))))
              ((ixO s30 s28.length).bind fun v16 =>
              (getO s28 v16).bind fun v17 =>
              (some (IntKind.u8.wrap s29)).bind fun v18 =>
              (some (bits .or .u8 v17 v18)).bind fun v19 =>
              (ixO s30 s28.length).bind fun v20 =>
              (some (s28.set v20 v19)).bind fun v21 =>
              (shrO .u32 s29 8).bind fun v22 =>
              (some (IntKind.i64.wrap (s30 + 1))).bind fun v23 =>
              some (.inl (v21, v22, v23)))
              (some (.inr (.inl s28))))
            BIG (v10, v13, v14))
          (fun (s32 : (List Int)) =>
            (some (IntKind.i64.wrap (s.N + n))).bind fun v40 =>
            some (((T_Bits.mk s32 v40), 0))) some)))

def wherrylaw02_CanonBack (l : (List Int)) (text : (List Int)) : Option Bool :=
  bindS (S := Bool) (A := Bool)
    (cond ((decide (300 < (l.length : Int))))
      (some (.inl true))
      (some (.inl ((decide (60 < (text.length : Int)))))))
    (fun (s1 : Bool) =>
      cond (s1)
        (some (true))
        ((canon_Codes l).bind fun v6 =>
        bindS (S := Bool) (A := Bool)
          (cond ((v6.2 != 0))
            (some (.inl true))
            (some (.inl (((v6.1.length : Int) != (l.length : Int))))))
          (fun (s7 : Bool) =>
            cond (s7)
              (bindS (S := Bool) (A := Bool)
                (cond ((v6.2 != 0))
                  ((wherrylaw02_wakes ).bind fun v12 =>
                  some (.inl v12))
                  (some (.inl false)))
                (fun (s13 : Bool) =>
                  some (s13)) some)
              (bindS (S := ((List Int) × (List Int) × Int)) (A := Bool)
                (loopF (S := ((List Int) × (List Int) × Int × Int)) (O := ((List Int) × (List Int) × Int) ⊕ Bool) (fun ((s85, s86, s87, s88) : (List Int) × (List Int) × Int × Int) =>
                  bindS (S := Bool) (A := (((List Int) × (List Int) × Int × Int) ⊕ (((List Int) × (List Int) × Int) ⊕ Bool)))
                    (cond ((decide (s88 < (text.length : Int))))
                      (some (.inl ((decide (0 < (l.length : Int))))))
                      (some (.inl false)))
                    (fun (s121 : Bool) =>
                      cond (s121)
                        (bindS (S := (List Int) × (List Int) × Int) (A := (((List Int) × (List Int) × Int × Int) ⊕ (((List Int) × (List Int) × Int) ⊕ Bool)))
                          ((ixO s88 text.length).bind fun v22 =>
                          (getO text v22).bind fun v23 =>
                          (some (IntKind.u64.wrap v23)).bind fun v24 =>
                          (some (IntKind.u64.wrap (l.length : Int))).bind fun v25 =>
                          (remO v24 v25).bind fun v26 =>
                          (some (IntKind.i64.wrap v26)).bind fun v27 =>
                          (ixO v27 l.length).bind fun v28 =>
                          (getO l v28).bind fun v29 =>
                          cond ((v29 == 0))
                            (some (.inl (s85, s86, s87)))
                            ((ixO v27 v6.1.length).bind fun v31 =>
                            (getO v6.1 v31).bind fun v32 =>
                            (ixO v27 l.length).bind fun v33 =>
                            (getO l v33).bind fun v34 =>
                            (bits_Turn v32 v34).bind fun v35 =>
                            (ixO v27 l.length).bind fun v36 =>
                            (getO l v36).bind fun v37 =>
                            (bits_Put (T_Bits.mk s86 s87) v35.1 v37).bind fun v38 =>
                            bindS (S := Bool) (A := (((List Int) × (List Int) × Int) ⊕ (((List Int) × (List Int) × Int × Int) ⊕ (((List Int) × (List Int) × Int) ⊕ Bool))))
                              (cond ((v35.2 != 0))
                                (some (.inl true))
                                (some (.inl (v38.2 != 0))))
                              (fun (s139 : Bool) =>
                                cond (s139)
                                  (some (.inr (.inr (.inr (false)))))
                                  ((appO 8 s85 [v27]).bind fun v44 =>
                                  some (.inl (v44, v38.1.B, v38.1.N)))) some))
                          (fun ((s132, s133, s134) : (List Int) × (List Int) × Int) =>
                            (some (IntKind.i64.wrap (s88 + 1))).bind fun v57 =>
                            some (.inl (s132, s133, s134, v57))) some)
                        (some (.inr (.inl (s85, s86, s87))))) some)
                  BIG ([], [], 0, 0))
                (fun ((s112, s113, s114) : (List Int) × (List Int) × Int) =>
                  bindS (S := (Int)) (A := Bool)
                    (loopF (S := (Int × Int)) (O := (Int) ⊕ Bool) (fun ((s165, s166) : Int × Int) =>
                      cond ((decide (s166 < (s112.length : Int))))
                        ((canon_Read l s113 s165).bind fun v145 =>
                        bindS (S := Bool) (A := ((Int × Int) ⊕ ((Int) ⊕ Bool)))
                          (cond ((v145.2.2 != 0))
                            (some (.inl true))
                            ((ixO s166 s112.length).bind fun v146 =>
                            (getO s112 v146).bind fun v147 =>
                            cond ((v145.1 != v147))
                              (some (.inl true))
                              ((ixO v145.1 l.length).bind fun v148 =>
                              (getO l v148).bind fun v149 =>
                              (some (IntKind.i64.wrap (s165 + v149))).bind fun v150 =>
                              some (.inl (v145.2.1 != v150)))))
                          (fun (s181 : Bool) =>
                            cond (s181)
                              (some (.inr (.inr (false))))
                              ((some (IntKind.i64.wrap (s166 + 1))).bind fun v156 =>
                              some (.inl (v145.2.1, v156)))) some)
                        (some (.inr (.inl s165))))
                      BIG (0, 0))
                    (fun (s173 : Int) =>
                      bindS (S := Bool) (A := Bool)
                        (cond ((s173 == s114))
                          ((wherrylaw02_wakes ).bind fun v186 =>
                          some (.inl v186))
                          (some (.inl false)))
                        (fun (s187 : Bool) =>
                          some (s187)) some) some) some)) some)) some

def wherrylaw02_CanonWhole (l : (List Int)) (b : (List Int)) (more : Int) : Option Bool :=
  bindS (S := Bool) (A := Bool)
    (cond ((decide (290 < (l.length : Int))))
      (some (.inl true))
      (some (.inl ((decide (100 < (b.length : Int)))))))
    (fun (s1 : Bool) =>
      cond (s1)
        (some (true))
        ((canon_Check l).bind fun v6 =>
        cond ((v6 != 0))
          ((wherrylaw02_wakes ).bind fun v8 =>
          some (v8))
          ((canon_Weigh l).bind fun v9 =>
          cond ((v9 != 32768))
            ((wherrykeep_TwinInts l).bind fun v11 =>
            (appO 8 v11 [0]).bind fun v12 =>
            (canon_Codes v12).bind fun v13 =>
            bindS (S := Bool) (A := Bool)
              (cond ((v13.2 == 0))
                ((wherrylaw02_wakes ).bind fun v14 =>
                some (.inl v14))
                (some (.inl false)))
              (fun (s15 : Bool) =>
                some (s15)) some)
            (bindS (S := Unit) (A := Bool)
              (cond ((decide (2 ≤ (b.length : Int))))
                ((canon_Read l b 0).bind fun v20 =>
                cond ((v20.2.2 != 0))
                  (some (.inr (false)))
                  (some (.inl ())))
                (some (.inl ())))
              (fun (() : Unit) =>
                bindS (S := Bool) (A := Bool)
                  ((wherrykeep_TwinInts l).bind fun v27 =>
                  (some (IntKind.u64.wrap more)).bind fun v28 =>
                  (remO v28 15).bind fun v29 =>
                  (some (IntKind.i64.wrap v29)).bind fun v30 =>
                  (some (IntKind.i64.wrap (1 + v30))).bind fun v31 =>
                  (appO 8 v27 [v31]).bind fun v32 =>
                  (canon_Check v32).bind fun v33 =>
                  cond ((v33 == 4))
                    ((wherrykeep_TwinInts l).bind fun v34 =>
                    (appO 8 v34 [16]).bind fun v35 =>
                    (canon_Check v35).bind fun v36 =>
                    cond ((v36 == 1))
                      ((wherrylaw02_wakes ).bind fun v37 =>
                      some (.inl v37))
                      (some (.inl false)))
                    (some (.inl false)))
                  (fun (s38 : Bool) =>
                    some (s38)) some) some)))) some

def wherrylaw02_CanonRises (l : (List Int)) (i : Int) (k : Int) : Option Bool :=
  bindS (S := Bool) (A := Bool)
    (cond ((decide (300 < (l.length : Int))))
      (some (.inl true))
      (some (.inl (((l.length : Int) == 0)))))
    (fun (s1 : Bool) =>
      cond (s1)
        (some (true))
        ((canon_Codes l).bind fun v6 =>
        bindS (S := Bool) (A := Bool)
          (cond ((v6.2 != 0))
            (some (.inl true))
            (some (.inl (((v6.1.length : Int) != (l.length : Int))))))
          (fun (s7 : Bool) =>
            cond (s7)
              (bindS (S := Bool) (A := Bool)
                (cond ((v6.2 != 0))
                  ((wherrylaw02_wakes ).bind fun v12 =>
                  some (.inl v12))
                  (some (.inl false)))
                (fun (s13 : Bool) =>
                  some (s13)) some)
              ((some (IntKind.u64.wrap i)).bind fun v17 =>
              (some (IntKind.u64.wrap (l.length : Int))).bind fun v18 =>
              (remO v17 v18).bind fun v19 =>
              (some (IntKind.i64.wrap v19)).bind fun v20 =>
              (some (IntKind.u64.wrap k)).bind fun v21 =>
              (some (IntKind.u64.wrap (l.length : Int))).bind fun v22 =>
              (remO v21 v22).bind fun v23 =>
              (some (IntKind.i64.wrap v23)).bind fun v24 =>
              bindS (S := Bool) (A := Bool)
                ((ixO v20 l.length).bind fun v25 =>
                (getO l v25).bind fun v26 =>
                cond ((v26 == 0))
                  (some (.inl true))
                  ((ixO v24 l.length).bind fun v27 =>
                  (getO l v27).bind fun v28 =>
                  cond ((v28 == 0))
                    (some (.inl true))
                    ((ixO v20 l.length).bind fun v29 =>
                    (getO l v29).bind fun v30 =>
                    (ixO v24 l.length).bind fun v31 =>
                    (getO l v31).bind fun v32 =>
                    some (.inl ((decide (v32 ≤ v30)))))))
                (fun (s33 : Bool) =>
                  cond (s33)
                    ((wherrylaw02_wakes ).bind fun v38 =>
                    some (v38))
                    (bindS (S := Bool) (A := Bool)
                      ((ixO v20 v6.1.length).bind fun v39 =>
                      (getO v6.1 v39).bind fun v40 =>
                      (ixO v20 l.length).bind fun v41 =>
                      (getO l v41).bind fun v42 =>
                      (some (IntKind.i64.wrap (15 - v42))).bind fun v43 =>
                      (some (IntKind.u64.wrap v43)).bind fun v44 =>
                      (shlO .i64 v40 v44).bind fun v45 =>
                      (ixO v24 v6.1.length).bind fun v46 =>
                      (getO v6.1 v46).bind fun v47 =>
                      (ixO v24 l.length).bind fun v48 =>
                      (getO l v48).bind fun v49 =>
                      (some (IntKind.i64.wrap (15 - v49))).bind fun v50 =>
                      (some (IntKind.u64.wrap v50)).bind fun v51 =>
                      (shlO .i64 v47 v51).bind fun v52 =>
                      cond ((decide (v45 < v52)))
                        ((wherrylaw02_wakes ).bind fun v53 =>
                        some (.inl v53))
                        (some (.inl false)))
                      (fun (s54 : Bool) =>
                        some (s54)) some)) some)) some)) some

def wherrylaw02_CanonNoughts (l : (List Int)) (at_ : Int) : Option Bool :=
  cond ((decide (290 < (l.length : Int))))
    (some (true))
    ((some (IntKind.u64.wrap at_)).bind fun v2 =>
    (some (IntKind.i64.wrap ((l.length : Int) + 1))).bind fun v3 =>
    (some (IntKind.u64.wrap v3)).bind fun v4 =>
    (remO v2 v4).bind fun v5 =>
    (some (IntKind.i64.wrap v5)).bind fun v6 =>
    (sliO l 0 v6).bind fun v7 =>
    (appO 8 ([] : List Int) v7).bind fun v8 =>
    (appO 8 v8 [0]).bind fun v9 =>
    (sliO l v6 (l.length : Int)).bind fun v10 =>
    (appO 8 v9 v10).bind fun v11 =>
    (canon_Codes l).bind fun v12 =>
    (canon_Codes v11).bind fun v13 =>
    bindS (S := Bool) (A := Bool)
      (cond ((v12.2 != v13.2))
        (some (.inl true))
        ((canon_Weigh l).bind fun v14 =>
        (canon_Weigh v11).bind fun v15 =>
        cond ((v14 != v15))
          (some (.inl true))
          ((canon_Check l).bind fun v16 =>
          (canon_Check v11).bind fun v17 =>
          some (.inl (v16 != v17)))))
      (fun (s34 : Bool) =>
        cond (s34)
          (some (false))
          (cond ((v12.2 != 0))
            ((wherrylaw02_wakes ).bind fun v24 =>
            some (v24))
            (bindS (S := Bool) (A := Bool)
              ((some (IntKind.i64.wrap ((v12.1.length : Int) + 1))).bind fun v25 =>
              cond (((v13.1.length : Int) != v25))
                (some (.inl true))
                ((ixO v6 v13.1.length).bind fun v26 =>
                (getO v13.1 v26).bind fun v27 =>
                some (.inl (v27 != 0))))
              (fun (s40 : Bool) =>
                cond (s40)
                  (some (false))
                  (bindS (S := Bool) (A := Bool)
                    ((sliO v13.1 0 v6).bind fun v45 =>
                    (wherrykeep_TwinInts v45).bind fun v46 =>
                    (some (IntKind.i64.wrap (v6 + 1))).bind fun v47 =>
                    (sliO v13.1 v47 (v13.1.length : Int)).bind fun v48 =>
                    (appO 8 v46 v48).bind fun v49 =>
                    (wherrykeep_Ints v49 v12.1).bind fun v50 =>
                    cond (v50)
                      ((wherrylaw02_wakes ).bind fun v51 =>
                      some (.inl v51))
                      (some (.inl false)))
                    (fun (s52 : Bool) =>
                      some (s52)) some)) some))) some)

end Go.Abs.Sh
