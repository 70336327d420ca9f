/-
  The program told in Lean: plain functions; none where Go would panic or a slice outgrow its room.
-/
import Derived.Test.YtepjhmgmejpkpaaAJ
set_option linter.unusedVariables false
namespace Go.Abs.Sh

structure T_sym_scale where
  least : Int
  singles : Int
  group : Int
  deriving DecidableEq
def T_sym_scale.enc (x : T_sym_scale) : List Value := [.int .i64 x.least, .int .i64 x.singles, .int .i64 x.group]
theorem T_sym_scale.len (x : T_sym_scale) : (T_sym_scale.enc x).length = 3 := rfl

def sym_fixedLen (s : Int) : Option Int :=
  cond ((decide (s < 144)))
    (some (8))
    (cond ((decide (s < 256)))
      (some (9))
      (cond ((decide (s < 280)))
        (some (7))
        (some (8))))

def sym_Fixed : Option ((List Int) × (List Int)) :=
  bindS (S := ((List Int))) (A := ((List Int) × (List Int)))
    (loopF (S := ((List Int) × Int)) (O := ((List Int)) ⊕ ((List Int) × (List Int))) (fun ((s8, s9) : (List Int) × Int) =>
      cond ((decide (s9 < 288)))
        ((sym_fixedLen s9).bind fun v2 =>
        (appO 8 s8 [v2]).bind fun v3 =>
        (some (IntKind.i64.wrap (s9 + 1))).bind fun v4 =>
        some (.inl (v3, v4)))
        (some (.inr (.inl s8))))
      BIG ([], 0))
    (fun (s11 : (List Int)) =>
      bindS (S := ((List Int))) (A := ((List Int) × (List Int)))
        (loopF (S := ((List Int) × Int)) (O := ((List Int)) ⊕ ((List Int) × (List Int))) (fun ((s25, s26) : (List Int) × Int) =>
          cond ((decide (s26 < 32)))
            ((appO 8 s25 [5]).bind fun v20 =>
            (some (IntKind.i64.wrap (s26 + 1))).bind fun v21 =>
            some (.inl (v20, v21)))
            (some (.inr (.inl s25))))
          BIG ([], 0))
        (fun (s28 : (List Int)) =>
          some ((s11, s28))) some) some

def canon_valid (lengths : (List Int)) : Option Bool :=
  cond ((decide (300 < (lengths.length : Int))))
    (some (false))
    (bindS (S := (Unit)) (A := Bool)
      (loopF (S := (Int)) (O := (Unit) ⊕ Bool) (fun (s18 : Int) =>
        cond ((decide (s18 < (lengths.length : Int))))
          ((ixO s18 lengths.length).bind fun v3 =>
          (getO lengths v3).bind fun v4 =>
          bindS (S := Bool) (A := ((Int) ⊕ ((Unit) ⊕ Bool)))
            (cond ((decide (v4 < 0)))
              (some (.inl true))
              (some (.inl ((decide (15 < v4))))))
            (fun (s32 : Bool) =>
              cond (s32)
                (some (.inr (.inr (false))))
                ((some (IntKind.i64.wrap (s18 + 1))).bind fun v10 =>
                some (.inl v10))) some)
          (some (.inr (.inl ()))))
        BIG 0)
      (fun (() : Unit) =>
        some (true)) some)

def canon_count (lengths : (List Int)) : Option (List Int) :=
  bindS (S := ((List Int))) (A := (List Int))
    (loopF (S := ((List Int) × Int)) (O := ((List Int)) ⊕ (List Int)) (fun ((s25, s26) : (List Int) × Int) =>
      cond ((decide (s26 < (lengths.length : Int))))
        (bindS (S := (List Int)) (A := (((List Int) × Int) ⊕ (((List Int)) ⊕ (List Int))))
          ((ixO s26 lengths.length).bind fun v2 =>
          (getO lengths v2).bind fun v3 =>
          cond ((decide (0 < v3)))
            ((ixO v3 16).bind fun v5 =>
            (getO s25 v5).bind fun v6 =>
            (some (IntKind.i64.wrap (v6 + 1))).bind fun v7 =>
            (ixO v3 16).bind fun v8 =>
            (setO s25 v8 v7).bind fun v9 =>
            some (.inl v9))
            (some (.inl s25)))
          (fun (s43 : (List Int)) =>
            (some (IntKind.i64.wrap (s26 + 1))).bind fun v15 =>
            some (.inl (s43, v15))) some)
        (some (.inr (.inl s25))))
      BIG (((List.replicate 16 (0 : Int)), 0)))
    (fun (s34 : (List Int)) =>
      (lnO 16 s34).bind fun v48 =>
      (lnO 16 ((List.replicate 16 (0 : Int)))).bind fun v49 =>
      (lnO 16 s34).bind fun v50 =>
      (lnO 16 s34).bind fun v51 =>
      some (s34)) some

def canon_tally_weight (c : (List Int)) : Option Int :=
  (lnO 16 c).bind fun v1 =>
  bindS (S := (Int)) (A := Int)
    (loopF (S := (Int × Int)) (O := (Int) ⊕ Int) (fun ((s12, s13) : Int × Int) =>
      cond ((decide (s13 < 16)))
        ((ixO s13 16).bind fun v3 =>
        (getO c v3).bind fun v4 =>
        (some (IntKind.i64.wrap (15 - s13))).bind fun v5 =>
        (shlO .i64 v4 v5).bind fun v6 =>
        (some (IntKind.i64.wrap (s12 + v6))).bind fun v7 =>
        (some (IntKind.i64.wrap (s13 + 1))).bind fun v8 =>
        some (.inl (v7, v8)))
        (some (.inr (.inl s12))))
      BIG (0, 0))
    (fun (s15 : Int) =>
      some (s15)) some

def canon_forms (c : (List Int)) : Option Bool :=
  (lnO 16 ((List.replicate 16 (0 : Int)))).bind fun v1 =>
  (lnO 16 [(0 : Int), 1, (0 : Int), (0 : Int), (0 : Int), (0 : Int), (0 : Int), (0 : Int), (0 : Int), (0 : Int), (0 : Int), (0 : Int), (0 : Int), (0 : Int), (0 : Int), (0 : Int)]).bind fun v2 =>
  bindS (S := Bool) (A := Bool)
    ((lnO 16 c).bind fun v3 =>
    (lnO 16 c).bind fun v4 =>
    (lnO 16 [(0 : Int), (0 : Int), (0 : Int), (0 : Int), (0 : Int), (0 : Int), (0 : Int), (0 : Int), (0 : Int), (0 : Int), (0 : Int), (0 : Int), (0 : Int), (0 : Int), (0 : Int), (0 : Int)]).bind fun v5 =>
    cond ((c == [(0 : Int), (0 : Int), (0 : Int), (0 : Int), (0 : Int), (0 : Int), (0 : Int), (0 : Int), (0 : Int), (0 : Int), (0 : Int), (0 : Int), (0 : Int), (0 : Int), (0 : Int), (0 : Int)]))
      (some (.inl true))
      ((lnO 16 c).bind fun v6 =>
      (lnO 16 [(0 : Int), 1, (0 : Int), (0 : Int), (0 : Int), (0 : Int), (0 : Int), (0 : Int), (0 : Int), (0 : Int), (0 : Int), (0 : Int), (0 : Int), (0 : Int), (0 : Int), (0 : Int)]).bind fun v7 =>
      (lnO 16 c).bind fun v8 =>
      (lnO 16 [(0 : Int), 1, (0 : Int), (0 : Int), (0 : Int), (0 : Int), (0 : Int), (0 : Int), (0 : Int), (0 : Int), (0 : Int), (0 : Int), (0 : Int), (0 : Int), (0 : Int), (0 : Int)]).bind fun v9 =>
      cond ((c == [(0 : Int), 1, (0 : Int), (0 : Int), (0 : Int), (0 : Int), (0 : Int), (0 : Int), (0 : Int), (0 : Int), (0 : Int), (0 : Int), (0 : Int), (0 : Int), (0 : Int), (0 : Int)]))
        (some (.inl true))
        ((lnO 16 c).bind fun v10 =>
        (canon_tally_weight c).bind fun v11 =>
        some (.inl (v11 == 32768)))))
    (fun (s12 : Bool) =>
      some (s12)) some

def canon_Check (lengths : (List Int)) : Option Int :=
  (canon_valid lengths).bind fun v1 =>
  cond ((!v1))
    (some (1))
    ((canon_count lengths).bind fun v3 =>
    (canon_forms v3).bind fun v4 =>
    cond ((!v4))
      (some (4))
      (some (0)))

def canon_firsts (c : (List Int)) : Option (List Int) :=
  bindS (S := ((List Int))) (A := (List Int))
    (loopF (S := ((List Int) × Int)) (O := ((List Int)) ⊕ (List Int)) (fun ((s16, s17) : (List Int) × Int) =>
      cond ((decide (s17 ≤ 15)))
        ((some (IntKind.i64.wrap (s17 - 1))).bind fun v2 =>
        (ixO v2 16).bind fun v3 =>
        (getO s16 v3).bind fun v4 =>
        (some (IntKind.i64.wrap (s17 - 1))).bind fun v5 =>
        (ixO v5 16).bind fun v6 =>
        (getO c v6).bind fun v7 =>
        (some (IntKind.i64.wrap (v4 + v7))).bind fun v8 =>
        (some (IntKind.i64.wrap (2 * v8))).bind fun v9 =>
        (ixO s17 16).bind fun v10 =>
        (setO s16 v10 v9).bind fun v11 =>
        (some (IntKind.i64.wrap (s17 + 1))).bind fun v12 =>
        some (.inl (v11, v12)))
        (some (.inr (.inl s16))))
      BIG (((List.replicate 16 (0 : Int)), 2)))
    (fun (s19 : (List Int)) =>
      (lnO 16 s19).bind fun v27 =>
      (lnO 16 ((List.replicate 16 (0 : Int)))).bind fun v28 =>
      (lnO 16 s19).bind fun v29 =>
      (lnO 16 s19).bind fun v30 =>
      some (s19)) some

def canon_Codes (lengths : (List Int)) : Option ((List Int) × Int) :=
  (canon_Check lengths).bind fun v1 =>
  cond ((v1 != 0))
    (some (([], v1)))
    ((canon_count lengths).bind fun v3 =>
    (canon_firsts v3).bind fun v4 =>
    (lnO 16 ((List.replicate 16 (0 : Int)))).bind fun v5 =>
    (lnO 16 v4).bind fun v6 =>
    (mkO 8 (lengths.length : Int) (0 : Int)).bind fun v7 =>
    bindS (S := ((List Int))) (A := ((List Int) × Int))
      (loopF (S := ((List Int) × (List Int) × Int)) (O := ((List Int)) ⊕ ((List Int) × Int)) (fun ((s39, s40, s41) : (List Int) × (List Int) × Int) =>
        cond ((decide (s41 < (lengths.length : Int))))
          (bindS (S := (List Int) × (List Int)) (A := (((List Int) × (List Int) × Int) ⊕ (((List Int)) ⊕ ((List Int) × Int))))
            ((ixO s41 lengths.length).bind fun v9 =>
            (getO lengths v9).bind fun v10 =>
            cond ((decide (0 < v10)))
              ((ixO v10 16).bind fun v12 =>
              (getO s39 v12).bind fun v13 =>
              (ixO s41 s40.length).bind fun v14 =>
              (some (s40.set v14 v13)).bind fun v15 =>
              (ixO v10 16).bind fun v16 =>
              (getO s39 v16).bind fun v17 =>
              (some (IntKind.i64.wrap (v17 + 1))).bind fun v18 =>
              (ixO v10 16).bind fun v19 =>
              (setO s39 v19 v18).bind fun v20 =>
              some (.inl (v20, v15)))
              (some (.inl (s39, s40))))
            (fun ((s59, s60) : (List Int) × (List Int)) =>
              (some (IntKind.i64.wrap (s41 + 1))).bind fun v27 =>
              some (.inl (s59, s60, v27))) some)
          (some (.inr (.inl s40))))
        BIG (v4, v7, 0))
      (fun (s50 : (List Int)) =>
        some ((s50, 0))) some)

def sym_lens : Option T_sym_scale :=
  some ((T_sym_scale.mk 3 8 4))

def sym_scale_symbol (s : T_sym_scale) (sym : Int) : Option (Int × Int) :=
  cond ((decide (sym < s.singles)))
    ((some (IntKind.i64.wrap (s.least + sym))).bind fun v2 =>
    some ((v2, 0)))
    ((some (IntKind.i64.wrap (s.least + s.singles))).bind fun v3 =>
    (some (IntKind.i64.wrap (sym - s.singles))).bind fun v4 =>
    bindS (S := (Int × Int × Int)) (A := (Int × Int))
      (loopF (S := (Int × Int × Int)) (O := (Int × Int × Int) ⊕ (Int × Int)) (fun ((s14, s15, s16) : Int × Int × Int) =>
        cond ((decide (s.group ≤ s16)))
          ((shlO .i64 s.group s15).bind fun v6 =>
          (some (IntKind.i64.wrap (s14 + v6))).bind fun v7 =>
          (some (IntKind.i64.wrap (s15 + 1))).bind fun v8 =>
          (some (IntKind.i64.wrap (s16 - s.group))).bind fun v9 =>
          some (.inl (v7, v8, v9)))
          (some (.inr (.inl (s14, s15, s16)))))
        BIG (v3, 1, v4))
      (fun ((s18, s19, s20) : Int × Int × Int) =>
        (shlO .i64 s20 s19).bind fun v28 =>
        (some (IntKind.i64.wrap (s18 + v28))).bind fun v29 =>
        some ((v29, s19))) some)

def sym_scale_find (s : T_sym_scale) (n : Int) : Option (Int × Int × Int) :=
  bindS (S := (Unit)) (A := (Int × Int × Int))
    (loopF (S := (Int)) (O := (Unit) ⊕ (Int × Int × Int)) (fun (s9 : Int) =>
      (sym_scale_symbol s s9).bind fun v1 =>
      (some (IntKind.i64.wrap (n - v1.1))).bind fun v2 =>
      (shlO .i64 1 v1.2).bind fun v3 =>
      cond ((decide (v2 < v3)))
        ((some (IntKind.i64.wrap (n - v1.1))).bind fun v5 =>
        some (.inr (.inr ((s9, v1.2, v5)))))
        ((some (IntKind.i64.wrap (s9 + 1))).bind fun v6 =>
        some (.inl v6)))
      BIG 0)
    (fun (() : Unit) =>
      none) some

def sym_Len (n : Int) : Option (Int × Int × Int × Int) :=
  bindS (S := Bool) (A := (Int × Int × Int × Int))
    (cond ((decide (n < 3)))
      (some (.inl true))
      (some (.inl ((decide (258 < n))))))
    (fun (s1 : Bool) =>
      cond (s1)
        (some ((0, 0, 0, 1)))
        (cond ((n == 258))
          (some ((285, 0, 0, 0)))
          ((sym_lens ).bind fun v7 =>
          (sym_scale_find v7 n).bind fun v8 =>
          (some (IntKind.i64.wrap (257 + v8.1))).bind fun v9 =>
          some ((v9, v8.2.1, v8.2.2, 0))))) some

def sym_dists : Option T_sym_scale :=
  some ((T_sym_scale.mk 1 4 2))

def sym_Dist (n : Int) : Option (Int × Int × Int × Int) :=
  bindS (S := Bool) (A := (Int × Int × Int × Int))
    (cond ((decide (n < 1)))
      (some (.inl true))
      (some (.inl ((decide (32768 < n))))))
    (fun (s1 : Bool) =>
      cond (s1)
        (some ((0, 0, 0, 1)))
        ((sym_dists ).bind fun v6 =>
        (sym_scale_find v6 n).bind fun v7 =>
        some ((v7.1, v7.2.1, v7.2.2, 0)))) some

def wherrylaw05_wakes : Option Bool :=
  (sym_Len 11).bind fun v1 =>
  (sym_Dist 5).bind fun v2 =>
  bindS (S := Bool) (A := Bool)
    (cond ((v1.2.2.2 == 0))
      (cond ((v2.2.2.2 == 0))
        (cond ((v1.1 == 265))
          (cond ((v1.2.1 == 1))
            (cond ((v1.2.2.1 == 0))
              (cond ((v2.1 == 4))
                (cond ((v2.2.1 == 1))
                  (some (.inl (v2.2.2.1 == 0)))
                  (some (.inl false)))
                (some (.inl false)))
              (some (.inl false)))
            (some (.inl false)))
          (some (.inl false)))
        (some (.inl false)))
      (some (.inl false)))
    (fun (s3 : Bool) =>
      some (s3)) some

def wherrylaw05_SymFixed (i : Int) : Option Bool :=
  (sym_Fixed ).bind fun v1 =>
  bindS (S := Bool) (A := Bool)
    (cond (((v1.1.length : Int) != 288))
      (some (.inl true))
      (cond (((v1.2.length : Int) != 32))
        (some (.inl true))
        ((canon_Check v1.1).bind fun v2 =>
        cond ((v2 != 0))
          (some (.inl true))
          ((canon_Check v1.2).bind fun v3 =>
          some (.inl (v3 != 0))))))
    (fun (s4 : Bool) =>
      cond (s4)
        (some (false))
        ((canon_Codes v1.1).bind fun v9 =>
        bindS (S := Bool) (A := Bool)
          (cond ((v9.2 != 0))
            (some (.inl true))
            (some (.inl (((v9.1.length : Int) != 288)))))
          (fun (s10 : Bool) =>
            cond (s10)
              (some (false))
              ((some (IntKind.u64.wrap i)).bind fun v15 =>
              (remO v15 288).bind fun v16 =>
              (some (IntKind.i64.wrap v16)).bind fun v17 =>
              (some (IntKind.i64.wrap (48 + v17))).bind fun v18 =>
              bindS (S := Int × Int) (A := Bool)
                (cond ((decide (280 ≤ v17)))
                  ((some (IntKind.i64.wrap (192 + v17))).bind fun v20 =>
                  (some (IntKind.i64.wrap (v20 - 280))).bind fun v21 =>
                  some (.inl (8, v21)))
                  (cond ((decide (256 ≤ v17)))
                    ((some (IntKind.i64.wrap (v17 - 256))).bind fun v23 =>
                    some (.inl (7, v23)))
                    (cond ((decide (144 ≤ v17)))
                      ((some (IntKind.i64.wrap (400 + v17))).bind fun v25 =>
                      (some (IntKind.i64.wrap (v25 - 144))).bind fun v26 =>
                      some (.inl (9, v26)))
                      (some (.inl (8, v18))))))
                (fun ((s27, s28) : Int × Int) =>
                  bindS (S := Bool) (A := Bool)
                    ((ixO v17 v9.1.length).bind fun v35 =>
                    (getO v9.1 v35).bind fun v36 =>
                    cond ((v36 == s28))
                      ((ixO v17 v1.1.length).bind fun v37 =>
                      (getO v1.1 v37).bind fun v38 =>
                      cond ((v38 == s27))
                        ((wherrylaw05_wakes ).bind fun v39 =>
                        some (.inl v39))
                        (some (.inl false)))
                      (some (.inl false)))
                    (fun (s40 : Bool) =>
                      some (s40)) some) some)) some)) some

end Go.Abs.Sh
