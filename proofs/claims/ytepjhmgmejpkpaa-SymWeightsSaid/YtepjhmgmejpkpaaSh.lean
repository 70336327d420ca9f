/-
  The program told in Lean: plain functions; none where Go would panic or a slice outgrow its room.
-/
import Derived.Test.YtepjhmgmejpkpaaAJ
set_option linter.unusedVariables false
namespace Go.Abs.Sh

structure T_Tok where
  Byte : Int
  Len : Int
  Dist : Int
  deriving DecidableEq
def T_Tok.enc (x : T_Tok) : List Value := [.int .u8 x.Byte, .int .i64 x.Len, .int .i64 x.Dist]
theorem T_Tok.len (x : T_Tok) : (T_Tok.enc x).length = 3 := rfl

structure T_sym_scale where
  least : Int
  singles : Int
  group : Int
  deriving DecidableEq
def T_sym_scale.enc (x : T_sym_scale) : List Value := [.int .i64 x.least, .int .i64 x.singles, .int .i64 x.group]
theorem T_sym_scale.len (x : T_sym_scale) : (T_sym_scale.enc x).length = 3 := rfl

def sym_lens : Option T_sym_scale :=
  some ((T_sym_scale.mk 3 8 4))

def sym_scale_symbol (s : T_sym_scale) (sym : Int) : Option (Int × Int) :=
  cond ((decide (sym < s.singles)))
    ((some (IntKind.i64.wrap (s.least + sym))).bind fun v2 =>
    some ((v2, 0)))
    ((some (IntKind.i64.wrap (s.least + s.singles))).bind fun v3 =>
    (some (IntKind.i64.wrap (sym - s.singles))).bind fun v4 =>
    bindS (S := (Int × Int × Int)) (A := (Int × Int))
      (loopF (S := (Int × Int × Int)) (O := (Int × Int × Int) ⊕ (Int × Int)) (fun ((s14, s15, s16) : Int × Int × Int) =>
        cond ((decide (s.group ≤ s16)))
          ((shlO .i64 s.group s15).bind fun v6 =>
          (some (IntKind.i64.wrap (s14 + v6))).bind fun v7 =>
          (some (IntKind.i64.wrap (s15 + 1))).bind fun v8 =>
          (some (IntKind.i64.wrap (s16 - s.group))).bind fun v9 =>
          some (.inl (v7, v8, v9)))
          (some (.inr (.inl (s14, s15, s16)))))
        BIG (v3, 1, v4))
      (fun ((s18, s19, s20) : Int × Int × Int) =>
        (shlO .i64 s20 s19).bind fun v28 =>
        (some (IntKind.i64.wrap (s18 + v28))).bind fun v29 =>
        some ((v29, s19))) some)

def sym_scale_find (s : T_sym_scale) (n : Int) : Option (Int × Int × Int) :=
  bindS (S := (Unit)) (A := (Int × Int × Int))
    (loopF (S := (Int)) (O := (Unit) ⊕ (Int × Int × Int)) (fun (s9 : Int) =>
      (sym_scale_symbol s s9).bind fun v1 =>
      (some (IntKind.i64.wrap (n - v1.1))).bind fun v2 =>
      (shlO .i64 1 v1.2).bind fun v3 =>
      cond ((decide (v2 < v3)))
        ((some (IntKind.i64.wrap (n - v1.1))).bind fun v5 =>
        some (.inr (.inr ((s9, v1.2, v5)))))
        ((some (IntKind.i64.wrap (s9 + 1))).bind fun v6 =>
        some (.inl v6)))
      BIG 0)
    (fun (() : Unit) =>
      none) some

def sym_Len (n : Int) : Option (Int × Int × Int × Int) :=
  bindS (S := Bool) (A := (Int × Int × Int × Int))
    (cond ((decide (n < 3)))
      (some (.inl true))
      (some (.inl ((decide (258 < n))))))
    (fun (s1 : Bool) =>
      cond (s1)
        (some ((0, 0, 0, 1)))
        (cond ((n == 258))
          (some ((285, 0, 0, 0)))
          ((sym_lens ).bind fun v7 =>
          (sym_scale_find v7 n).bind fun v8 =>
          (some (IntKind.i64.wrap (257 + v8.1))).bind fun v9 =>
          some ((v9, v8.2.1, v8.2.2, 0))))) some

def wherryref01_in (n : Int) (lo : Int) (hi : Int) : Option Bool :=
  bindS (S := Bool) (A := Bool)
    (cond ((decide (lo ≤ n)))
      (some (.inl ((decide (n ≤ hi)))))
      (some (.inl false)))
    (fun (s1 : Bool) =>
      some (s1)) some

def wherryref01_LenOf (sym : Int) : Option (Int × Int × Int) :=
  (wherryref01_in sym 257 285).bind fun v1 =>
  cond ((!v1))
    (some ((0, 0, 1)))
    (cond ((decide (sym < 265)))
      ((some (IntKind.i64.wrap (sym - 254))).bind fun v4 =>
      some ((v4, 0, 0)))
      (cond ((sym == 285))
        (some ((258, 0, 0)))
        ((some (IntKind.i64.wrap (sym - 261))).bind fun v6 =>
        (quoO .i64 v6 4).bind fun v7 =>
        (some (IntKind.i64.wrap (sym - 265))).bind fun v8 =>
        (remO v8 4).bind fun v9 =>
        (some (IntKind.i64.wrap (4 + v9))).bind fun v10 =>
        (some (IntKind.u64.wrap v7)).bind fun v11 =>
        (shlO .i64 v10 v11).bind fun v12 =>
        (some (IntKind.i64.wrap (3 + v12))).bind fun v13 =>
        some ((v13, v7, 0)))))

def wherryref01_leastLen (sym : Int) : Option Int :=
  (wherryref01_LenOf sym).bind fun v1 =>
  some (v1.1)

def wherryref01_Len (n : Int) : Option (Int × Int × Int × Int) :=
  (wherryref01_in n 3 258).bind fun v1 =>
  cond ((!v1))
    (some ((0, 0, 0, 1)))
    (bindS (S := (Int)) (A := (Int × Int × Int × Int))
      (loopF (S := (Int)) (O := (Int) ⊕ (Int × Int × Int × Int)) (fun (s17 : Int) =>
        bindS (S := Bool) (A := ((Int) ⊕ ((Int) ⊕ (Int × Int × Int × Int))))
          (cond ((decide (n < 258)))
            (cond ((s17 == 285))
              (some (.inl true))
              (cond ((decide (s17 < 285)))
                ((wherryref01_leastLen s17).bind fun v3 =>
                some (.inl ((decide (n < v3)))))
                (some (.inl false))))
            (cond ((decide (s17 < 285)))
              ((wherryref01_leastLen s17).bind fun v4 =>
              some (.inl ((decide (n < v4)))))
              (some (.inl false))))
          (fun (s30 : Bool) =>
            cond (s30)
              ((some (IntKind.i64.wrap (s17 - 1))).bind fun v10 =>
              some (.inl v10))
              (some (.inr (.inl s17)))) some)
        BIG 285)
      (fun (s23 : Int) =>
        (wherryref01_LenOf s23).bind fun v35 =>
        (some (IntKind.i64.wrap (n - v35.1))).bind fun v36 =>
        some ((s23, v35.2.1, v36, 0))) some)

def sym_dists : Option T_sym_scale :=
  some ((T_sym_scale.mk 1 4 2))

def sym_Dist (n : Int) : Option (Int × Int × Int × Int) :=
  bindS (S := Bool) (A := (Int × Int × Int × Int))
    (cond ((decide (n < 1)))
      (some (.inl true))
      (some (.inl ((decide (32768 < n))))))
    (fun (s1 : Bool) =>
      cond (s1)
        (some ((0, 0, 0, 1)))
        ((sym_dists ).bind fun v6 =>
        (sym_scale_find v6 n).bind fun v7 =>
        some ((v7.1, v7.2.1, v7.2.2, 0)))) some

def wherryref01_DistOf (sym : Int) : Option (Int × Int × Int) :=
  (wherryref01_in sym 0 29).bind fun v1 =>
  cond ((!v1))
    (some ((0, 0, 1)))
    (cond ((decide (sym < 4)))
      ((some (IntKind.i64.wrap (sym + 1))).bind fun v4 =>
      some ((v4, 0, 0)))
      ((some (IntKind.i64.wrap (sym - 2))).bind fun v5 =>
      (quoO .i64 v5 2).bind fun v6 =>
      (remO sym 2).bind fun v7 =>
      (some (IntKind.i64.wrap (2 + v7))).bind fun v8 =>
      (some (IntKind.u64.wrap v6)).bind fun v9 =>
      (shlO .i64 v8 v9).bind fun v10 =>
      (some (IntKind.i64.wrap (1 + v10))).bind fun v11 =>
      some ((v11, v6, 0))))

def wherryref01_Dist (n : Int) : Option (Int × Int × Int × Int) :=
  (wherryref01_in n 1 32768).bind fun v1 =>
  cond ((!v1))
    (some ((0, 0, 0, 1)))
    (bindS (S := (Unit)) (A := (Int × Int × Int × Int))
      (loopF (S := (Int)) (O := (Unit) ⊕ (Int × Int × Int × Int)) (fun (s11 : Int) =>
        cond ((decide (0 < s11)))
          ((wherryref01_DistOf s11).bind fun v4 =>
          cond ((decide (v4.1 ≤ n)))
            ((some (IntKind.i64.wrap (n - v4.1))).bind fun v6 =>
            some (.inr (.inr ((s11, v4.2.1, v6, 0)))))
            ((some (IntKind.i64.wrap (s11 - 1))).bind fun v7 =>
            some (.inl v7)))
          (some (.inr (.inl ()))))
        BIG 29)
      (fun (() : Unit) =>
        some ((0, 0, 0, 0))) some)

def sym_LenOf (sym : Int) : Option (Int × Int × Int) :=
  bindS (S := Bool) (A := (Int × Int × Int))
    (cond ((decide (sym < 257)))
      (some (.inl true))
      (some (.inl ((decide (285 < sym))))))
    (fun (s1 : Bool) =>
      cond (s1)
        (some ((0, 0, 1)))
        (cond ((sym == 285))
          (some ((258, 0, 0)))
          ((sym_lens ).bind fun v7 =>
          (some (IntKind.i64.wrap (sym - 257))).bind fun v8 =>
          (sym_scale_symbol v7 v8).bind fun v9 =>
          some ((v9.1, v9.2, 0))))) some

def sym_DistOf (sym : Int) : Option (Int × Int × Int) :=
  bindS (S := Bool) (A := (Int × Int × Int))
    (cond ((decide (sym < 0)))
      (some (.inl true))
      (some (.inl ((decide (30 ≤ sym))))))
    (fun (s1 : Bool) =>
      cond (s1)
        (some ((0, 0, 1)))
        ((sym_dists ).bind fun v6 =>
        (sym_scale_symbol v6 sym).bind fun v7 =>
        some ((v7.1, v7.2, 0)))) some

def sym_fixedLen (s : Int) : Option Int :=
  cond ((decide (s < 144)))
    (some (8))
    (cond ((decide (s < 256)))
      (some (9))
      (cond ((decide (s < 280)))
        (some (7))
        (some (8))))

def sym_Fixed : Option ((List Int) × (List Int)) :=
  bindS (S := ((List Int))) (A := ((List Int) × (List Int)))
    (loopF (S := ((List Int) × Int)) (O := ((List Int)) ⊕ ((List Int) × (List Int))) (fun ((s8, s9) : (List Int) × Int) =>
      cond ((decide (s9 < 288)))
        ((sym_fixedLen s9).bind fun v2 =>
        (appO 8 s8 [v2]).bind fun v3 =>
        (some (IntKind.i64.wrap (s9 + 1))).bind fun v4 =>
        some (.inl (v3, v4)))
        (some (.inr (.inl s8))))
      BIG ([], 0))
    (fun (s11 : (List Int)) =>
      bindS (S := ((List Int))) (A := ((List Int) × (List Int)))
        (loopF (S := ((List Int) × Int)) (O := ((List Int)) ⊕ ((List Int) × (List Int))) (fun ((s25, s26) : (List Int) × Int) =>
          cond ((decide (s26 < 32)))
            ((appO 8 s25 [5]).bind fun v20 =>
            (some (IntKind.i64.wrap (s26 + 1))).bind fun v21 =>
            some (.inl (v20, v21)))
            (some (.inr (.inl s25))))
          BIG ([], 0))
        (fun (s28 : (List Int)) =>
          some ((s11, s28))) some) some

def wherryref01_Fixed : Option ((List Int) × (List Int)) :=
  bindS (S := ((List Int))) (A := ((List Int) × (List Int)))
    (loopF (S := ((List Int) × Int)) (O := ((List Int)) ⊕ ((List Int) × (List Int))) (fun ((s58, s59) : (List Int) × Int) =>
      cond ((decide (s59 < 288)))
        (bindS (S := (List Int)) (A := (((List Int) × Int) ⊕ (((List Int)) ⊕ ((List Int) × (List Int)))))
          (bindS (S := (List Int)) (A := (((List Int)) ⊕ (((List Int) × Int) ⊕ (((List Int)) ⊕ ((List Int) × (List Int))))))
            (cond ((decide (s59 ≤ 143)))
              ((appO 8 s58 [8]).bind fun v3 =>
              some (.inl v3))
              (cond ((decide (s59 ≤ 255)))
                ((appO 8 s58 [9]).bind fun v5 =>
                some (.inl v5))
                (cond ((decide (s59 ≤ 279)))
                  ((appO 8 s58 [7]).bind fun v7 =>
                  some (.inl v7))
                  ((appO 8 s58 [8]).bind fun v8 =>
                  some (.inl v8)))))
            (fun (s110 : (List Int)) =>
              some (.inl s110)) some)
          (fun (s103 : (List Int)) =>
            (some (IntKind.i64.wrap (s59 + 1))).bind fun v30 =>
            some (.inl (s103, v30))) some)
        (some (.inr (.inl s58))))
      BIG ([], 0))
    (fun (s85 : (List Int)) =>
      bindS (S := ((List Int))) (A := ((List Int) × (List Int)))
        (loopF (S := ((List Int) × Int)) (O := ((List Int)) ⊕ ((List Int) × (List Int))) (fun ((s123, s124) : (List Int) × Int) =>
          cond ((decide (s124 < 32)))
            ((appO 8 s123 [5]).bind fun v118 =>
            (some (IntKind.i64.wrap (s124 + 1))).bind fun v119 =>
            some (.inl (v118, v119)))
            (some (.inr (.inl s123))))
          BIG ([], 0))
        (fun (s126 : (List Int)) =>
          some ((s85, s126))) some) some

def wherrykeep_TwinToks (l : (List T_Tok)) : Option (List T_Tok) :=
  (appO 24 ([] : List T_Tok) l).bind fun v1 =>
  some (v1)

def match_validMatch (t : T_Tok) : Option Bool :=
  bindS (S := Bool) (A := Bool)
    (cond ((t.Byte == 0))
      (cond ((decide (3 ≤ t.Len)))
        (cond ((decide (t.Len ≤ 258)))
          (cond ((decide (1 ≤ t.Dist)))
            (some (.inl ((decide (t.Dist ≤ 2048)))))
            (some (.inl false)))
          (some (.inl false)))
        (some (.inl false)))
      (some (.inl false)))
    (fun (s1 : Bool) =>
      some (s1)) some

def match_Check (l : (List T_Tok)) : Option Int :=
  bindS (S := (Int)) (A := Int)
    (loopF (S := (Int × Int)) (O := (Int) ⊕ Int) (fun ((s115, s116) : Int × Int) =>
      cond ((decide (s116 < (l.length : Int))))
        (bindS (S := Int) (A := ((Int × Int) ⊕ ((Int) ⊕ Int)))
          ((ixO s116 l.length).bind fun v2 =>
          (getO l v2).bind fun v3 =>
          bindS (S := Int) (A := (Int ⊕ ((Int × Int) ⊕ ((Int) ⊕ Int))))
            (bindS (S := Bool) (A := (Int ⊕ (Int ⊕ ((Int × Int) ⊕ ((Int) ⊕ Int)))))
              (cond ((v3.Len == 0))
                (some (.inl (v3.Dist == 0)))
                (some (.inl false)))
              (fun (s220 : Bool) =>
                cond (s220)
                  ((some (IntKind.i64.wrap (s115 + 1))).bind fun v9 =>
                  some (.inl v9))
                  (bindS (S := Bool) (A := (Int ⊕ (Int ⊕ ((Int × Int) ⊕ ((Int) ⊕ Int)))))
                    ((match_validMatch v3).bind fun v10 =>
                    cond (v10)
                      (some (.inl ((decide (v3.Dist ≤ s115)))))
                      (some (.inl false)))
                    (fun (s225 : Bool) =>
                      cond (s225)
                        ((some (IntKind.i64.wrap (s115 + v3.Len))).bind fun v16 =>
                        some (.inl v16))
                        (some (.inr (.inr (.inr (.inr (1))))))) some)) some)
            (fun (s216 : Int) =>
              some (.inl s216)) some)
          (fun (s202 : Int) =>
            (some (IntKind.i64.wrap (s116 + 1))).bind fun v59 =>
            some (.inl (s202, v59))) some)
        (some (.inr (.inl s115))))
      BIG (0, 0))
    (fun (s170 : Int) =>
      cond ((decide (4096 < s170)))
        (some (2))
        (some (0))) some

def sym_Weights (l : (List T_Tok)) : Option ((List Int) × (List Int) × Int) :=
  (match_Check l).bind fun v1 =>
  cond ((v1 != 0))
    (some (([], [], v1)))
    ((mkO 8 286 (0 : Int)).bind fun v3 =>
    (mkO 8 30 (0 : Int)).bind fun v4 =>
    (ixO 256 v3.length).bind fun v5 =>
    (some (v3.set v5 1)).bind fun v6 =>
    bindS (S := ((List Int) × (List Int))) (A := ((List Int) × (List Int) × Int))
      (loopF (S := ((List Int) × (List Int) × Int)) (O := ((List Int) × (List Int)) ⊕ ((List Int) × (List Int) × Int)) (fun ((s46, s47, s48) : (List Int) × (List Int) × Int) =>
        cond ((decide (s48 < (l.length : Int))))
          (bindS (S := (List Int) × (List Int)) (A := (((List Int) × (List Int) × Int) ⊕ (((List Int) × (List Int)) ⊕ ((List Int) × (List Int) × Int))))
            ((ixO s48 l.length).bind fun v8 =>
            (getO l v8).bind fun v9 =>
            cond ((v9.Len == 0))
              ((ixO v9.Byte s46.length).bind fun v11 =>
              (getO s46 v11).bind fun v12 =>
              (some (IntKind.i64.wrap (v12 + 1))).bind fun v13 =>
              (ixO v9.Byte s46.length).bind fun v14 =>
              (some (s46.set v14 v13)).bind fun v15 =>
              some (.inl (v15, s47)))
              ((sym_Len v9.Len).bind fun v16 =>
              (sym_Dist v9.Dist).bind fun v17 =>
              (ixO v16.1 s46.length).bind fun v18 =>
              (getO s46 v18).bind fun v19 =>
              (some (IntKind.i64.wrap (v19 + 1))).bind fun v20 =>
              (ixO v16.1 s46.length).bind fun v21 =>
              (some (s46.set v21 v20)).bind fun v22 =>
              (ixO v17.1 s47.length).bind fun v23 =>
              (getO s47 v23).bind fun v24 =>
              (some (IntKind.i64.wrap (v24 + 1))).bind fun v25 =>
              (ixO v17.1 s47.length).bind fun v26 =>
              (some (s47.set v26 v25)).bind fun v27 =>
              some (.inl (v22, v27))))
            (fun ((s67, s68) : (List Int) × (List Int)) =>
              (some (IntKind.i64.wrap (s48 + 1))).bind fun v34 =>
              some (.inl (s67, s68, v34))) some)
          (some (.inr (.inl (s46, s47)))))
        BIG (v6, v4, 0))
      (fun ((s57, s58) : (List Int) × (List Int)) =>
        some ((s57, s58, 0))) some)

def wherryref01_CheckToks (l : (List T_Tok)) : Option Int :=
  bindS (S := (Bool)) (A := Int)
    (loopF (S := (Int × Bool × Int)) (O := (Bool) ⊕ Int) (fun ((s78, s79, s80) : Int × Bool × Int) =>
      cond ((decide (s80 < (l.length : Int))))
        (bindS (S := Int) (A := ((Int × Bool × Int) ⊕ ((Bool) ⊕ Int)))
          (bindS (S := Bool) (A := (Int ⊕ ((Int × Bool × Int) ⊕ ((Bool) ⊕ Int))))
            ((ixO s80 l.length).bind fun v2 =>
            (getO l v2).bind fun v3 =>
            cond ((v3.Len == 0))
              ((ixO s80 l.length).bind fun v4 =>
              (getO l v4).bind fun v5 =>
              some (.inl (v5.Dist == 0)))
              (some (.inl false)))
            (fun (s132 : Bool) =>
              cond (s132)
                ((some (IntKind.i64.wrap (s78 + 1))).bind fun v11 =>
                some (.inl v11))
                (bindS (S := Bool) (A := (Int ⊕ ((Int × Bool × Int) ⊕ ((Bool) ⊕ Int))))
                  ((ixO s80 l.length).bind fun v12 =>
                  (getO l v12).bind fun v13 =>
                  cond ((v13.Byte != 0))
                    (some (.inl true))
                    ((ixO s80 l.length).bind fun v14 =>
                    (getO l v14).bind fun v15 =>
                    (wherryref01_in v15.Len 3 258).bind fun v16 =>
                    cond ((!v16))
                      (some (.inl true))
                      ((ixO s80 l.length).bind fun v17 =>
                      (getO l v17).bind fun v18 =>
                      (wherryref01_in v18.Dist 1 2048).bind fun v19 =>
                      cond ((!v19))
                        (some (.inl true))
                        ((ixO s80 l.length).bind fun v20 =>
                        (getO l v20).bind fun v21 =>
                        some (.inl ((decide (s78 < v21.Dist))))))))
                  (fun (s137 : Bool) =>
                    cond (s137)
                      (some (.inr (.inr (.inr (1)))))
                      ((ixO s80 l.length).bind fun v27 =>
                      (getO l v27).bind fun v28 =>
                      (some (IntKind.i64.wrap (s78 + v28.Len))).bind fun v29 =>
                      some (.inl v29))) some)) some)
          (fun (s128 : Int) =>
            bindS (S := Bool) (A := ((Int × Bool × Int) ⊕ ((Bool) ⊕ Int)))
              (cond (s79)
                (some (.inl true))
                (some (.inl ((decide (4096 < s128))))))
              (fun (s142 : Bool) =>
                (some (if 8192 < s128 then 8192 else s128)).bind fun v44 =>
                (some (IntKind.i64.wrap (s80 + 1))).bind fun v45 =>
                some (.inl (v44, s142, v45))) some) some)
        (some (.inr (.inl s79))))
      BIG (0, false, 0))
    (fun (s110 : Bool) =>
      cond (s110)
        (some (2))
        (some (0))) some

def wherryref01_weights (l : (List T_Tok)) : Option ((List Int) × (List Int)) :=
  (mkO 8 286 (0 : Int)).bind fun v1 =>
  (mkO 8 30 (0 : Int)).bind fun v2 =>
  (ixO 256 v1.length).bind fun v3 =>
  (some (v1.set v3 1)).bind fun v4 =>
  bindS (S := ((List Int) × (List Int))) (A := ((List Int) × (List Int)))
    (loopF (S := ((List Int) × (List Int) × Int)) (O := ((List Int) × (List Int)) ⊕ ((List Int) × (List Int))) (fun ((s51, s52, s53) : (List Int) × (List Int) × Int) =>
      cond ((decide (s53 < (l.length : Int))))
        (bindS (S := (List Int) × (List Int)) (A := (((List Int) × (List Int) × Int) ⊕ (((List Int) × (List Int)) ⊕ ((List Int) × (List Int)))))
          ((ixO s53 l.length).bind fun v6 =>
          (getO l v6).bind fun v7 =>
          cond ((v7.Len == 0))
            ((ixO s53 l.length).bind fun v9 =>
            (getO l v9).bind fun v10 =>
            (some (IntKind.i64.wrap v10.Byte)).bind fun v11 =>
            (ixO v11 s51.length).bind fun v12 =>
            (getO s51 v12).bind fun v13 =>
            (some (IntKind.i64.wrap (v13 + 1))).bind fun v14 =>
            (ixO v11 s51.length).bind fun v15 =>
            (some (s51.set v15 v14)).bind fun v16 =>
            some (.inl (v16, s52)))
            ((ixO s53 l.length).bind fun v17 =>
            (getO l v17).bind fun v18 =>
            (wherryref01_Len v18.Len).bind fun v19 =>
            (ixO s53 l.length).bind fun v20 =>
            (getO l v20).bind fun v21 =>
            (wherryref01_Dist v21.Dist).bind fun v22 =>
            (ixO v19.1 s51.length).bind fun v23 =>
            (getO s51 v23).bind fun v24 =>
            (some (IntKind.i64.wrap (v24 + 1))).bind fun v25 =>
            (ixO v19.1 s51.length).bind fun v26 =>
            (some (s51.set v26 v25)).bind fun v27 =>
            (ixO v22.1 s52.length).bind fun v28 =>
            (getO s52 v28).bind fun v29 =>
            (some (IntKind.i64.wrap (v29 + 1))).bind fun v30 =>
            (ixO v22.1 s52.length).bind fun v31 =>
            (some (s52.set v31 v30)).bind fun v32 =>
            some (.inl (v27, v32))))
          (fun ((s72, s73) : (List Int) × (List Int)) =>
            (some (IntKind.i64.wrap (s53 + 1))).bind fun v39 =>
            some (.inl (s72, s73, v39))) some)
        (some (.inr (.inl (s51, s52)))))
      BIG (v4, v2, 0))
    (fun ((s62, s63) : (List Int) × (List Int)) =>
      some ((s62, s63))) some

def wherryref01_Weights (l : (List T_Tok)) : Option ((List Int) × (List Int) × Int) :=
  (wherryref01_CheckToks l).bind fun v1 =>
  cond ((v1 != 0))
    (some (([], [], v1)))
    ((wherryref01_weights l).bind fun v3 =>
    some ((v3.1, v3.2, 0)))

def wherrykeep_Ints (a : (List Int)) (b : (List Int)) : Option Bool :=
  cond (((a.length : Int) != (b.length : Int)))
    (some (false))
    (bindS (S := (Unit)) (A := Bool)
      (loopF (S := (Int)) (O := (Unit) ⊕ Bool) (fun (s12 : Int) =>
        cond ((decide (s12 < (a.length : Int))))
          ((ixO s12 a.length).bind fun v3 =>
          (getO a v3).bind fun v4 =>
          (ixO s12 b.length).bind fun v5 =>
          (getO b v5).bind fun v6 =>
          cond ((v4 != v6))
            (some (.inr (.inr (false))))
            ((some (IntKind.i64.wrap (s12 + 1))).bind fun v8 =>
            some (.inl v8)))
          (some (.inr (.inl ()))))
        BIG 0)
      (fun (() : Unit) =>
        some (true)) some)

def wherrykeep_Toks (a : (List T_Tok)) (b : (List T_Tok)) : Option Bool :=
  cond (((a.length : Int) != (b.length : Int)))
    (some (false))
    (bindS (S := (Unit)) (A := Bool)
      (loopF (S := (Int)) (O := (Unit) ⊕ Bool) (fun (s28 : Int) =>
        cond ((decide (s28 < (a.length : Int))))
          (bindS (S := Bool) (A := ((Int) ⊕ ((Unit) ⊕ Bool)))
            ((ixO s28 a.length).bind fun v3 =>
            (getO a v3).bind fun v4 =>
            (ixO s28 b.length).bind fun v5 =>
            (getO b v5).bind fun v6 =>
            cond ((v4.Byte != v6.Byte))
              (some (.inl true))
              ((ixO s28 a.length).bind fun v7 =>
              (getO a v7).bind fun v8 =>
              (ixO s28 b.length).bind fun v9 =>
              (getO b v9).bind fun v10 =>
              cond ((v8.Len != v10.Len))
                (some (.inl true))
                ((ixO s28 a.length).bind fun v11 =>
                (getO a v11).bind fun v12 =>
                (ixO s28 b.length).bind fun v13 =>
                (getO b v13).bind fun v14 =>
                some (.inl (v12.Dist != v14.Dist)))))
            (fun (s42 : Bool) =>
              cond (s42)
                (some (.inr (.inr (false))))
                ((some (IntKind.i64.wrap (s28 + 1))).bind fun v20 =>
                some (.inl v20))) some)
          (some (.inr (.inl ()))))
        BIG 0)
      (fun (() : Unit) =>
        some (true)) some)

def wherrylaw05_wakes : Option Bool :=
  (sym_Len 11).bind fun v1 =>
  (sym_Dist 5).bind fun v2 =>
  bindS (S := Bool) (A := Bool)
    (cond ((v1.2.2.2 == 0))
      (cond ((v2.2.2.2 == 0))
        (cond ((v1.1 == 265))
          (cond ((v1.2.1 == 1))
            (cond ((v1.2.2.1 == 0))
              (cond ((v2.1 == 4))
                (cond ((v2.2.1 == 1))
                  (some (.inl (v2.2.2.1 == 0)))
                  (some (.inl false)))
                (some (.inl false)))
              (some (.inl false)))
            (some (.inl false)))
          (some (.inl false)))
        (some (.inl false)))
      (some (.inl false)))
    (fun (s3 : Bool) =>
      some (s3)) some

def wherrylaw05_SymExact (n : Int) (l : (List T_Tok)) : Option Bool :=
  cond ((decide (600 < (l.length : Int))))
    (some (true))
    ((sym_Len n).bind fun v2 =>
    (wherryref01_Len n).bind fun v3 =>
    bindS (S := Bool) (A := Bool)
      (cond ((v2.2.2.2 != v3.2.2.2))
        (some (.inl true))
        (cond ((v2.1 != v3.1))
          (some (.inl true))
          (cond ((v2.2.1 != v3.2.1))
            (some (.inl true))
            (some (.inl (v2.2.2.1 != v3.2.2.1))))))
      (fun (s4 : Bool) =>
        cond (s4)
          (some (false))
          ((sym_Dist n).bind fun v9 =>
          (wherryref01_Dist n).bind fun v10 =>
          bindS (S := Bool) (A := Bool)
            (cond ((v9.2.2.2 != v10.2.2.2))
              (some (.inl true))
              (cond ((v9.1 != v10.1))
                (some (.inl true))
                (cond ((v9.2.1 != v10.2.1))
                  (some (.inl true))
                  (some (.inl (v9.2.2.1 != v10.2.2.1))))))
            (fun (s11 : Bool) =>
              cond (s11)
                (some (false))
                ((sym_LenOf n).bind fun v16 =>
                (wherryref01_LenOf n).bind fun v17 =>
                bindS (S := Bool) (A := Bool)
                  (cond ((v16.2.2 != v17.2.2))
                    (some (.inl true))
                    (cond ((v16.1 != v17.1))
                      (some (.inl true))
                      (some (.inl (v16.2.1 != v17.2.1)))))
                  (fun (s18 : Bool) =>
                    cond (s18)
                      (some (false))
                      ((sym_DistOf n).bind fun v23 =>
                      (wherryref01_DistOf n).bind fun v24 =>
                      bindS (S := Bool) (A := Bool)
                        (cond ((v23.2.2 != v24.2.2))
                          (some (.inl true))
                          (cond ((v23.1 != v24.1))
                            (some (.inl true))
                            (some (.inl (v23.2.1 != v24.2.1)))))
                        (fun (s25 : Bool) =>
                          cond (s25)
                            (some (false))
                            ((sym_Fixed ).bind fun v30 =>
                            (wherryref01_Fixed ).bind fun v31 =>
                            (wherrykeep_TwinToks l).bind fun v32 =>
                            (sym_Weights v32).bind fun v33 =>
                            (wherryref01_Weights l).bind fun v34 =>
                            bindS (S := Bool) (A := Bool)
                              ((wherrykeep_Ints v30.1 v31.1).bind fun v35 =>
                              cond (v35)
                                ((wherrykeep_Ints v30.2 v31.2).bind fun v36 =>
                                cond (v36)
                                  (cond ((v33.2.2 == v34.2.2))
                                    ((wherrykeep_Ints v33.1 v34.1).bind fun v37 =>
                                    cond (v37)
                                      ((wherrykeep_Ints v33.2.1 v34.2.1).bind fun v38 =>
                                      cond (v38)
                                        ((wherrykeep_Toks v32 l).bind fun v39 =>
                                        cond (v39)
                                          ((wherrylaw05_wakes ).bind fun v40 =>
                                          some (.inl v40))
                                          (some (.inl false)))
                                        (some (.inl false)))
                                      (some (.inl false)))
                                    (some (.inl false)))
                                  (some (.inl false)))
                                (some (.inl false)))
                              (fun (s41 : Bool) =>
                                some (s41)) some)) some)) some)) some)) some)

def canon_valid (lengths : (List Int)) : Option Bool :=
  cond ((decide (300 < (lengths.length : Int))))
    (some (false))
    (bindS (S := (Unit)) (A := Bool)
      (loopF (S := (Int)) (O := (Unit) ⊕ Bool) (fun (s18 : Int) =>
        cond ((decide (s18 < (lengths.length : Int))))
          ((ixO s18 lengths.length).bind fun v3 =>
          (getO lengths v3).bind fun v4 =>
          bindS (S := Bool) (A := ((Int) ⊕ ((Unit) ⊕ Bool)))
            (cond ((decide (v4 < 0)))
              (some (.inl true))
              (some (.inl ((decide (15 < v4))))))
            (fun (s32 : Bool) =>
              cond (s32)
                (some (.inr (.inr (false))))
                ((some (IntKind.i64.wrap (s18 + 1))).bind fun v10 =>
                some (.inl v10))) some)
          (some (.inr (.inl ()))))
        BIG 0)
      (fun (() : Unit) =>
        some (true)) some)

def canon_count (lengths : (List Int)) : Option (List Int) :=
  bindS (S := ((List Int))) (A := (List Int))
    (loopF (S := ((List Int) × Int)) (O := ((List Int)) ⊕ (List Int)) (fun ((s25, s26) : (List Int) × Int) =>
      cond ((decide (s26 < (lengths.length : Int))))
        (bindS (S := (List Int)) (A := (((List Int) × Int) ⊕ (((List Int)) ⊕ (List Int))))
          ((ixO s26 lengths.length).bind fun v2 =>
          (getO lengths v2).bind fun v3 =>
          cond ((decide (0 < v3)))
            ((ixO v3 16).bind fun v5 =>
            (getO s25 v5).bind fun v6 =>
            (some (IntKind.i64.wrap (v6 + 1))).bind fun v7 =>
            (ixO v3 16).bind fun v8 =>
            (setO s25 v8 v7).bind fun v9 =>
            some (.inl v9))
            (some (.inl s25)))
          (fun (s43 : (List Int)) =>
            (some (IntKind.i64.wrap (s26 + 1))).bind fun v15 =>
            some (.inl (s43, v15))) some)
        (some (.inr (.inl s25))))
      BIG (((List.replicate 16 (0 : Int)), 0)))
    (fun (s34 : (List Int)) =>
      (lnO 16 s34).bind fun v48 =>
      (lnO 16 ((List.replicate 16 (0 : Int)))).bind fun v49 =>
      (lnO 16 s34).bind fun v50 =>
      (lnO 16 s34).bind fun v51 =>
      some (s34)) some

def canon_tally_weight (c : (List Int)) : Option Int :=
  (lnO 16 c).bind fun v1 =>
  bindS (S := (Int)) (A := Int)
    (loopF (S := (Int × Int)) (O := (Int) ⊕ Int) (fun ((s12, s13) : Int × Int) =>
      cond ((decide (s13 < 16)))
        ((ixO s13 16).bind fun v3 =>
        (getO c v3).bind fun v4 =>
        (some (IntKind.i64.wrap (15 - s13))).bind fun v5 =>
        (shlO .i64 v4 v5).bind fun v6 =>
        (some (IntKind.i64.wrap (s12 + v6))).bind fun v7 =>
        (some (IntKind.i64.wrap (s13 + 1))).bind fun v8 =>
        some (.inl (v7, v8)))
        (some (.inr (.inl s12))))
      BIG (0, 0))
    (fun (s15 : Int) =>
      some (s15)) some

def canon_forms (c : (List Int)) : Option Bool :=
  (lnO 16 ((List.replicate 16 (0 : Int)))).bind fun v1 =>
  (lnO 16 [(0 : Int), 1, (0 : Int), (0 : Int), (0 : Int), (0 : Int), (0 : Int), (0 : Int), (0 : Int), (0 : Int), (0 : Int), (0 : Int), (0 : Int), (0 : Int), (0 : Int), (0 : Int)]).bind fun v2 =>
  bindS (S := Bool) (A := Bool)
    ((lnO 16 c).bind fun v3 =>
    (lnO 16 c).bind fun v4 =>
    (lnO 16 [(0 : Int), (0 : Int), (0 : Int), (0 : Int), (0 : Int), (0 : Int), (0 : Int), (0 : Int), (0 : Int), (0 : Int), (0 : Int), (0 : Int), (0 : Int), (0 : Int), (0 : Int), (0 : Int)]).bind fun v5 =>
    cond ((c == [(0 : Int), (0 : Int), (0 : Int), (0 : Int), (0 : Int), (0 : Int), (0 : Int), (0 : Int), (0 : Int), (0 : Int), (0 : Int), (0 : Int), (0 : Int), (0 : Int), (0 : Int), (0 : Int)]))
      (some (.inl true))
      ((lnO 16 c).bind fun v6 =>
      (lnO 16 [(0 : Int), 1, (0 : Int), (0 : Int), (0 : Int), (0 : Int), (0 : Int), (0 : Int), (0 : Int), (0 : Int), (0 : Int), (0 : Int), (0 : Int), (0 : Int), (0 : Int), (0 : Int)]).bind fun v7 =>
      (lnO 16 c).bind fun v8 =>
      (lnO 16 [(0 : Int), 1, (0 : Int), (0 : Int), (0 : Int), (0 : Int), (0 : Int), (0 : Int), (0 : Int), (0 : Int), (0 : Int), (0 : Int), (0 : Int), (0 : Int), (0 : Int), (0 : Int)]).bind fun v9 =>
      cond ((c == [(0 : Int), 1, (0 : Int), (0 : Int), (0 : Int), (0 : Int), (0 : Int), (0 : Int), (0 : Int), (0 : Int), (0 : Int), (0 : Int), (0 : Int), (0 : Int), (0 : Int), (0 : Int)]))
        (some (.inl true))
        ((lnO 16 c).bind fun v10 =>
        (canon_tally_weight c).bind fun v11 =>
        some (.inl (v11 == 32768)))))
    (fun (s12 : Bool) =>
      some (s12)) some

def canon_Check (lengths : (List Int)) : Option Int :=
  (canon_valid lengths).bind fun v1 =>
  cond ((!v1))
    (some (1))
    ((canon_count lengths).bind fun v3 =>
    (canon_forms v3).bind fun v4 =>
    cond ((!v4))
      (some (4))
      (some (0)))

def canon_firsts (c : (List Int)) : Option (List Int) :=
  bindS (S := ((List Int))) (A := (List Int))
    (loopF (S := ((List Int) × Int)) (O := ((List Int)) ⊕ (List Int)) (fun ((s16, s17) : (List Int) × Int) =>
      cond ((decide (s17 ≤ 15)))
        ((some (IntKind.i64.wrap (s17 - 1))).bind fun v2 =>
        (ixO v2 16).bind fun v3 =>
        (getO s16 v3).bind fun v4 =>
        (some (IntKind.i64.wrap (s17 - 1))).bind fun v5 =>
        (ixO v5 16).bind fun v6 =>
        (getO c v6).bind fun v7 =>
        (some (IntKind.i64.wrap (v4 + v7))).bind fun v8 =>
        (some (IntKind.i64.wrap (2 * v8))).bind fun v9 =>
        (ixO s17 16).bind fun v10 =>
        (setO s16 v10 v9).bind fun v11 =>
        (some (IntKind.i64.wrap (s17 + 1))).bind fun v12 =>
        some (.inl (v11, v12)))
        (some (.inr (.inl s16))))
      BIG (((List.replicate 16 (0 : Int)), 2)))
    (fun (s19 : (List Int)) =>
      (lnO 16 s19).bind fun v27 =>
      (lnO 16 ((List.replicate 16 (0 : Int)))).bind fun v28 =>
      (lnO 16 s19).bind fun v29 =>
      (lnO 16 s19).bind fun v30 =>
      some (s19)) some

def canon_Codes (lengths : (List Int)) : Option ((List Int) × Int) :=
  (canon_Check lengths).bind fun v1 =>
  cond ((v1 != 0))
    (some (([], v1)))
    ((canon_count lengths).bind fun v3 =>
    (canon_firsts v3).bind fun v4 =>
    (lnO 16 ((List.replicate 16 (0 : Int)))).bind fun v5 =>
    (lnO 16 v4).bind fun v6 =>
    (mkO 8 (lengths.length : Int) (0 : Int)).bind fun v7 =>
    bindS (S := ((List Int))) (A := ((List Int) × Int))
      (loopF (S := ((List Int) × (List Int) × Int)) (O := ((List Int)) ⊕ ((List Int) × Int)) (fun ((s39, s40, s41) : (List Int) × (List Int) × Int) =>
        cond ((decide (s41 < (lengths.length : Int))))
          (bindS (S := (List Int) × (List Int)) (A := (((List Int) × (List Int) × Int) ⊕ (((List Int)) ⊕ ((List Int) × Int))))
            ((ixO s41 lengths.length).bind fun v9 =>
            (getO lengths v9).bind fun v10 =>
            cond ((decide (0 < v10)))
              ((ixO v10 16).bind fun v12 =>
              (getO s39 v12).bind fun v13 =>
              (ixO s41 s40.length).bind fun v14 =>
              (some (s40.set v14 v13)).bind fun v15 =>
              (ixO v10 16).bind fun v16 =>
              (getO s39 v16).bind fun v17 =>
              (some (IntKind.i64.wrap (v17 + 1))).bind fun v18 =>
              (ixO v10 16).bind fun v19 =>
              (setO s39 v19 v18).bind fun v20 =>
              some (.inl (v20, v15)))
              (some (.inl (s39, s40))))
            (fun ((s59, s60) : (List Int) × (List Int)) =>
              (some (IntKind.i64.wrap (s41 + 1))).bind fun v27 =>
              some (.inl (s59, s60, v27))) some)
          (some (.inr (.inl s40))))
        BIG (v4, v7, 0))
      (fun (s50 : (List Int)) =>
        some ((s50, 0))) some)

def wherrylaw05_SymFixed (i : Int) : Option Bool :=
  (sym_Fixed ).bind fun v1 =>
  bindS (S := Bool) (A := Bool)
    (cond (((v1.1.length : Int) != 288))
      (some (.inl true))
      (cond (((v1.2.length : Int) != 32))
        (some (.inl true))
        ((canon_Check v1.1).bind fun v2 =>
        cond ((v2 != 0))
          (some (.inl true))
          ((canon_Check v1.2).bind fun v3 =>
          some (.inl (v3 != 0))))))
    (fun (s4 : Bool) =>
      cond (s4)
        (some (false))
        ((canon_Codes v1.1).bind fun v9 =>
        bindS (S := Bool) (A := Bool)
          (cond ((v9.2 != 0))
            (some (.inl true))
            (some (.inl (((v9.1.length : Int) != 288)))))
          (fun (s10 : Bool) =>
            cond (s10)
              (some (false))
              ((some (IntKind.u64.wrap i)).bind fun v15 =>
              (remO v15 288).bind fun v16 =>
              (some (IntKind.i64.wrap v16)).bind fun v17 =>
              (some (IntKind.i64.wrap (48 + v17))).bind fun v18 =>
              bindS (S := Int × Int) (A := Bool)
                (cond ((decide (280 ≤ v17)))
                  ((some (IntKind.i64.wrap (192 + v17))).bind fun v20 =>
                  (some (IntKind.i64.wrap (v20 - 280))).bind fun v21 =>
                  some (.inl (8, v21)))
                  (cond ((decide (256 ≤ v17)))
                    ((some (IntKind.i64.wrap (v17 - 256))).bind fun v23 =>
                    some (.inl (7, v23)))
                    (cond ((decide (144 ≤ v17)))
                      ((some (IntKind.i64.wrap (400 + v17))).bind fun v25 =>
                      (some (IntKind.i64.wrap (v25 - 144))).bind fun v26 =>
                      some (.inl (9, v26)))
                      (some (.inl (8, v18))))))
                (fun ((s27, s28) : Int × Int) =>
                  bindS (S := Bool) (A := Bool)
                    ((ixO v17 v9.1.length).bind fun v35 =>
                    (getO v9.1 v35).bind fun v36 =>
                    cond ((v36 == s28))
                      ((ixO v17 v1.1.length).bind fun v37 =>
                      (getO v1.1 v37).bind fun v38 =>
                      cond ((v38 == s27))
                        ((wherrylaw05_wakes ).bind fun v39 =>
                        some (.inl v39))
                        (some (.inl false)))
                      (some (.inl false)))
                    (fun (s40 : Bool) =>
                      some (s40)) some) some)) some)) some

def wherryref01_Best (b : (List Int)) (at_ : Int) : Option (Int × Int) :=
  bindS (S := Bool) (A := (Int × Int))
    (cond ((decide (4096 < (b.length : Int))))
      (some (.inl true))
      ((some (IntKind.i64.wrap ((b.length : Int) - 1))).bind fun v1 =>
      (wherryref01_in at_ 0 v1).bind fun v2 =>
      some (.inl (!v2))))
    (fun (s3 : Bool) =>
      cond (s3)
        (some ((0, 0)))
        (bindS (S := (Int × Int)) (A := (Int × Int))
          (loopF (S := (Int × Int × Int)) (O := (Int × Int) ⊕ (Int × Int)) (fun ((s161, s162, s163) : Int × Int × Int) =>
            bindS (S := Bool) (A := ((Int × Int × Int) ⊕ ((Int × Int) ⊕ (Int × Int))))
              (cond ((decide (s163 ≤ at_)))
                (some (.inl ((decide (s163 ≤ 2048)))))
                (some (.inl false)))
              (fun (s242 : Bool) =>
                cond (s242)
                  (bindS (S := Int × Int) (A := ((Int × Int × Int) ⊕ ((Int × Int) ⊕ (Int × Int))))
                    (bindS (S := (Int)) (A := ((Int × Int) ⊕ ((Int × Int × Int) ⊕ ((Int × Int) ⊕ (Int × Int)))))
                      (loopF (S := (Int)) (O := (Int) ⊕ ((Int × Int) ⊕ ((Int × Int × Int) ⊕ ((Int × Int) ⊕ (Int × Int))))) (fun (s293 : Int) =>
                        bindS (S := Bool) (A := ((Int) ⊕ ((Int) ⊕ ((Int × Int) ⊕ ((Int × Int × Int) ⊕ ((Int × Int) ⊕ (Int × Int)))))))
                          (cond ((decide (s293 < 258)))
                            ((some (IntKind.i64.wrap (at_ + s293))).bind fun v13 =>
                            cond ((decide (v13 < (b.length : Int))))
                              ((some (IntKind.i64.wrap (at_ + s293))).bind fun v14 =>
                              (ixO v14 b.length).bind fun v15 =>
                              (getO b v15).bind fun v16 =>
                              (some (IntKind.i64.wrap (at_ + s293))).bind fun v17 =>
                              (some (IntKind.i64.wrap (v17 - s163))).bind fun v18 =>
                              (ixO v18 b.length).bind fun v19 =>
                              (getO b v19).bind fun v20 =>
                              some (.inl (v16 == v20)))
                              (some (.inl false)))
                            (some (.inl false)))
                          (fun (s306 : Bool) =>
                            cond (s306)
                              ((some (IntKind.i64.wrap (s293 + 1))).bind fun v26 =>
                              some (.inl v26))
                              (some (.inr (.inl s293)))) some)
                        BIG 0)
                      (fun (s299 : Int) =>
                        cond ((decide (s161 < s299)))
                          (some (.inl (s299, s163)))
                          (some (.inl (s161, s162)))) some)
                    (fun ((s277, s278) : Int × Int) =>
                      (some (IntKind.i64.wrap (s163 + 1))).bind fun v87 =>
                      some (.inl (s277, s278, v87))) some)
                  (some (.inr (.inl (s161, s162))))) some)
            BIG (0, 0, 1))
          (fun ((s234, s235) : Int × Int) =>
            cond ((decide (s234 < 3)))
              (some ((0, 0)))
              (some ((s234, s235)))) some)) some

def wherryref01_tokens (b : (List Int)) : Option (List T_Tok) :=
  bindS (S := ((List T_Tok))) (A := (List T_Tok))
    (loopF (S := ((List T_Tok) × Int)) (O := ((List T_Tok)) ⊕ (List T_Tok)) (fun ((s26, s27) : (List T_Tok) × Int) =>
      cond ((decide (s27 < (b.length : Int))))
        (bindS (S := (List T_Tok) × Int) (A := (((List T_Tok) × Int) ⊕ (((List T_Tok)) ⊕ (List T_Tok))))
          ((wherryref01_Best b s27).bind fun v2 =>
          cond ((v2.1 == 0))
            ((ixO s27 b.length).bind fun v4 =>
            (getO b v4).bind fun v5 =>
            (appO 24 s26 [(T_Tok.mk v5 0 0)]).bind fun v6 =>
            (some (IntKind.i64.wrap (s27 + 1))).bind fun v7 =>
            some (.inl (v6, v7)))
            ((appO 24 s26 [(T_Tok.mk 0 v2.1 v2.2)]).bind fun v8 =>
            (some (IntKind.i64.wrap (s27 + v2.1))).bind fun v9 =>
            some (.inl (v8, v9))))
          (fun ((s45, s46) : (List T_Tok) × Int) =>
            some (.inl (s45, s46))) some)
        (some (.inr (.inl s26))))
      BIG ([], 0))
    (fun (s36 : (List T_Tok)) =>
      some (s36)) some

def wherryref01_Tokens (b : (List Int)) : Option ((List T_Tok) × Int) :=
  cond ((decide (4096 < (b.length : Int))))
    (some (([], 2)))
    ((wherryref01_tokens b).bind fun v2 =>
    some ((v2, 0)))

def wherrylaw05_SymWeights (b : (List Int)) : Option Bool :=
  cond ((decide (1200 < (b.length : Int))))
    (some (true))
    ((wherryref01_Tokens b).bind fun v2 =>
    (sym_Weights v2.1).bind fun v3 =>
    bindS (S := Bool) (A := Bool)
      (cond ((v3.2.2 != 0))
        (some (.inl true))
        (cond (((v3.1.length : Int) != 286))
          (some (.inl true))
          (some (.inl (((v3.2.1.length : Int) != 30))))))
      (fun (s4 : Bool) =>
        cond (s4)
          (some (false))
          (bindS (S := (Int)) (A := Bool)
            (loopF (S := (Int × Int)) (O := (Int) ⊕ Bool) (fun ((s17, s18) : Int × Int) =>
              cond ((decide (s18 < (v3.1.length : Int))))
                ((ixO s18 v3.1.length).bind fun v10 =>
                (getO v3.1 v10).bind fun v11 =>
                (some (IntKind.i64.wrap (s17 + v11))).bind fun v12 =>
                (some (IntKind.i64.wrap (s18 + 1))).bind fun v13 =>
                some (.inl (v12, v13)))
                (some (.inr (.inl s17))))
              BIG (0, 0))
            (fun (s20 : Int) =>
              bindS (S := (Int)) (A := Bool)
                (loopF (S := (Int × Int)) (O := (Int) ⊕ Bool) (fun ((s36, s37) : Int × Int) =>
                  cond ((decide (s37 < (v3.2.1.length : Int))))
                    ((ixO s37 v3.2.1.length).bind fun v29 =>
                    (getO v3.2.1 v29).bind fun v30 =>
                    (some (IntKind.i64.wrap (s36 + v30))).bind fun v31 =>
                    (some (IntKind.i64.wrap (s37 + 1))).bind fun v32 =>
                    some (.inl (v31, v32)))
                    (some (.inr (.inl s36))))
                  BIG (0, 0))
                (fun (s39 : Int) =>
                  bindS (S := (Int)) (A := Bool)
                    (loopF (S := (Int × Int)) (O := (Int) ⊕ Bool) (fun ((s67, s68) : Int × Int) =>
                      cond ((decide (s68 < (v2.1.length : Int))))
                        (bindS (S := Int) (A := ((Int × Int) ⊕ ((Int) ⊕ Bool)))
                          ((ixO s68 v2.1.length).bind fun v48 =>
                          (getO v2.1 v48).bind fun v49 =>
                          cond ((decide (0 < v49.Len)))
                            ((some (IntKind.i64.wrap (s67 + 1))).bind fun v51 =>
                            some (.inl v51))
                            (some (.inl s67)))
                          (fun (s85 : Int) =>
                            (some (IntKind.i64.wrap (s68 + 1))).bind fun v57 =>
                            some (.inl (s85, v57))) some)
                        (some (.inr (.inl s67))))
                      BIG (0, 0))
                    (fun (s76 : Int) =>
                      bindS (S := Bool) (A := Bool)
                        ((some (IntKind.i64.wrap ((v2.1.length : Int) + 1))).bind fun v90 =>
                        cond ((s20 == v90))
                          (cond ((s39 == s76))
                            ((ixO 256 v3.1.length).bind fun v91 =>
                            (getO v3.1 v91).bind fun v92 =>
                            cond ((v92 == 1))
                              ((wherrylaw05_wakes ).bind fun v93 =>
                              some (.inl v93))
                              (some (.inl false)))
                            (some (.inl false)))
                          (some (.inl false)))
                        (fun (s94 : Bool) =>
                          some (s94)) some) some) some) some)) some)

end Go.Abs.Sh
