/-
  The program told in Lean: plain functions; none where Go would panic or a slice outgrow its room.
-/
import Derived.Test.YtcghjjldjfghgaaAI
set_option linter.unusedVariables false
namespace Go.Abs.Sh

def wherrykeep_Twin (l : (List Int)) : Option (List Int) :=
  (appO 1 ([] : List Int) l).bind fun v1 =>
  some (v1)

def sums_table (divisor : Int) : Option (List Int) :=
  bindS (S := ((List Int))) (A := (List Int))
    (loopF (S := ((List Int) × Int)) (O := ((List Int)) ⊕ (List Int)) (fun ((s91, s92) : (List Int) × Int) =>
      cond ((decide (s92 < 16)))
        ((some (IntKind.u32.wrap s92)).bind fun v2 =>
        bindS (S := (Int)) (A := (((List Int) × Int) ⊕ (((List Int)) ⊕ (List Int))))
          (loopF (S := (Int × Int)) (O := (Int) ⊕ (((List Int) × Int) ⊕ (((List Int)) ⊕ (List Int)))) (fun ((s157, s158) : Int × Int) =>
            cond ((decide (s158 < 4)))
              (bindS (S := Int) (A := ((Int × Int) ⊕ ((Int) ⊕ (((List Int) × Int) ⊕ (((List Int)) ⊕ (List Int))))))
                ((some (bits .and .u32 s157 1)).bind fun v4 =>
                (shrO .u32 s157 1).bind fun v5 =>
                cond ((v4 == 1))
                  ((some (bits .xor .u32 v5 divisor)).bind fun v7 =>
                  some (.inl v7))
                  (some (.inl v5)))
                (fun (s175 : Int) =>
                  (some (IntKind.i64.wrap (s158 + 1))).bind fun v13 =>
                  some (.inl (s175, v13))) some)
              (some (.inr (.inl s157))))
            BIG (v2, 0))
          (fun (s166 : Int) =>
            (ixO s92 16).bind fun v46 =>
            (setO s91 v46 s166).bind fun v47 =>
            (some (IntKind.i64.wrap (s92 + 1))).bind fun v48 =>
            some (.inl (v47, v48))) some)
        (some (.inr (.inl s91))))
      BIG (((List.replicate 16 (0 : Int)), 0)))
    (fun (s133 : (List Int)) =>
      (lnO 16 s133).bind fun v180 =>
      (lnO 16 ((List.replicate 16 (0 : Int)))).bind fun v181 =>
      (lnO 16 s133).bind fun v182 =>
      (lnO 16 s133).bind fun v183 =>
      some (s133)) some

def sums_sum (b : (List Int)) (width : Int) (divisor : Int) : Option Int :=
  (sums_table divisor).bind fun v1 =>
  (lnO 16 ((List.replicate 16 (0 : Int)))).bind fun v2 =>
  (lnO 16 v1).bind fun v3 =>
  (shlO .u32 1 width).bind fun v4 =>
  (some (IntKind.u32.wrap (v4 - 1))).bind fun v5 =>
  bindS (S := (Int)) (A := Int)
    (loopF (S := (Int × Int)) (O := (Int) ⊕ Int) (fun ((s25, s26) : Int × Int) =>
      cond ((decide (s26 < (b.length : Int))))
        ((ixO s26 b.length).bind fun v7 =>
        (getO b v7).bind fun v8 =>
        (some (IntKind.u32.wrap v8)).bind fun v9 =>
        (some (bits .xor .u32 s25 v9)).bind fun v10 =>
        (shrO .u32 v10 4).bind fun v11 =>
        (remO v10 16).bind fun v12 =>
        (ixO v12 16).bind fun v13 =>
        (getO v1 v13).bind fun v14 =>
        (some (bits .xor .u32 v11 v14)).bind fun v15 =>
        (shrO .u32 v15 4).bind fun v16 =>
        (remO v15 16).bind fun v17 =>
        (ixO v17 16).bind fun v18 =>
        (getO v1 v18).bind fun v19 =>
        (some (bits .xor .u32 v16 v19)).bind fun v20 =>
        (some (IntKind.i64.wrap (s26 + 1))).bind fun v21 =>
        some (.inl (v20, v21)))
        (some (.inr (.inl s25))))
      BIG (v5, 0))
    (fun (s28 : Int) =>
      (some (bits .xor .u32 s28 v5)).bind fun v36 =>
      (some (IntKind.i64.wrap v36)).bind fun v37 =>
      some (v37)) some

def sums_Long (b : (List Int)) : Option Int :=
  (sums_sum b 32 3988292384).bind fun v1 =>
  some (v1)

def sums_Short (b : (List Int)) : Option Int :=
  (sums_sum b 16 33800).bind fun v1 =>
  some (v1)

def wherrylaw08_wakes : Option Bool :=
  bindS (S := Bool) (A := Bool)
    ((sums_Short [49, 50, 51, 52, 53, 54, 55, 56, 57]).bind fun v1 =>
    cond ((v1 == 36974))
      ((sums_Long [49, 50, 51, 52, 53, 54, 55, 56, 57]).bind fun v2 =>
      cond ((v2 == 3421780262))
        ((sums_Short []).bind fun v3 =>
        some (.inl (v3 == 0)))
        (some (.inl false)))
      (some (.inl false)))
    (fun (s4 : Bool) =>
      some (s4)) some

def wherrylaw08_SumsBurst (b : (List Int)) (at_ : Int) (n : Int) (wide : Bool) : Option Bool :=
  bindS (S := Bool) (A := Bool)
    (cond ((decide (600 < (b.length : Int))))
      (some (.inl true))
      (some (.inl (((b.length : Int) == 0)))))
    (fun (s1 : Bool) =>
      cond (s1)
        (some (true))
        ((some (IntKind.u64.wrap at_)).bind fun v6 =>
        (some (IntKind.i64.wrap (8 * (b.length : Int)))).bind fun v7 =>
        (some (IntKind.u64.wrap v7)).bind fun v8 =>
        (remO v6 v8).bind fun v9 =>
        (some (IntKind.i64.wrap v9)).bind fun v10 =>
        bindS (S := Int) (A := Bool)
          (cond (wide)
            (some (.inl 32))
            (some (.inl 16)))
          (fun (s12 : Int) =>
            (some (IntKind.u64.wrap s12)).bind fun v17 =>
            (shlO .i64 1 v17).bind fun v18 =>
            (some (IntKind.i64.wrap (v18 - 1))).bind fun v19 =>
            (some (bits .and .i64 n v19)).bind fun v20 =>
            (some (bits .or .i64 v20 1)).bind fun v21 =>
            (wherrykeep_Twin b).bind fun v22 =>
            bindS (S := ((List Int))) (A := Bool)
              (loopF (S := ((List Int) × Int)) (O := ((List Int)) ⊕ Bool) (fun ((s66, s67) : (List Int) × Int) =>
                bindS (S := Bool) (A := (((List Int) × Int) ⊕ (((List Int)) ⊕ Bool)))
                  (cond ((decide (s67 < s12)))
                    ((some (IntKind.i64.wrap (v10 + s67))).bind fun v23 =>
                    (some (IntKind.i64.wrap (8 * (b.length : Int)))).bind fun v24 =>
                    some (.inl ((decide (v23 < v24)))))
                    (some (.inl false)))
                  (fun (s86 : Bool) =>
                    cond (s86)
                      (bindS (S := (List Int)) (A := (((List Int) × Int) ⊕ (((List Int)) ⊕ Bool)))
                        ((some (IntKind.u64.wrap s67)).bind fun v30 =>
                        (shrO .i64 v21 v30).bind fun v31 =>
                        (some (bits .and .i64 v31 1)).bind fun v32 =>
                        cond ((v32 == 1))
                          ((some (IntKind.i64.wrap (v10 + s67))).bind fun v34 =>
                          (quoO .i64 v34 8).bind fun v35 =>
                          (some (IntKind.i64.wrap (v10 + s67))).bind fun v36 =>
                          (quoO .i64 v36 8).bind fun v37 =>
                          (ixO v37 s66.length).bind fun v38 =>
                          (getO s66 v38).bind fun v39 =>
                          (some (IntKind.i64.wrap (v10 + s67))).bind fun v40 =>
                          (remO v40 8).bind fun v41 =>
                          (some (IntKind.u64.wrap v41)).bind fun v42 =>
                          (shlO .u8 1 v42).bind fun v43 =>
                          (some (bits .xor .u8 v39 v43)).bind fun v44 =>
                          (ixO v35 s66.length).bind fun v45 =>
                          (some (s66.set v45 v44)).bind fun v46 =>
                          some (.inl v46))
                          (some (.inl s66)))
                        (fun (s92 : (List Int)) =>
                          (some (IntKind.i64.wrap (s67 + 1))).bind fun v52 =>
                          some (.inl (s92, v52))) some)
                      (some (.inr (.inl s66)))) some)
                BIG (v22, 0))
              (fun (s79 : (List Int)) =>
                cond (wide)
                  (bindS (S := Bool) (A := Bool)
                    ((sums_Long s79).bind fun v98 =>
                    (sums_Long b).bind fun v99 =>
                    cond ((v98 != v99))
                      ((wherrylaw08_wakes ).bind fun v100 =>
                      some (.inl v100))
                      (some (.inl false)))
                    (fun (s101 : Bool) =>
                      some (s101)) some)
                  (bindS (S := Bool) (A := Bool)
                    ((sums_Short s79).bind fun v105 =>
                    (sums_Short b).bind fun v106 =>
                    cond ((v105 != v106))
                      ((sums_Long s79).bind fun v107 =>
                      (sums_Long b).bind fun v108 =>
                      cond ((v107 != v108))
                        ((wherrylaw08_wakes ).bind fun v109 =>
                        some (.inl v109))
                        (some (.inl false)))
                      (some (.inl false)))
                    (fun (s110 : Bool) =>
                      some (s110)) some)) some) some)) some

def wherrylaw08_SumsMix (a : (List Int)) (b : (List Int)) (c : (List Int)) : Option Bool :=
  (some (if (c.length : Int) < (b.length : Int) then (c.length : Int) else (b.length : Int))).bind fun v1 =>
  (some (if v1 < (a.length : Int) then v1 else (a.length : Int))).bind fun v2 =>
  cond ((decide (600 < v2)))
    (some (true))
    (bindS (S := ((List Int))) (A := Bool)
      (loopF (S := ((List Int) × Int)) (O := ((List Int)) ⊕ Bool) (fun ((s18, s19) : (List Int) × Int) =>
        cond ((decide (s19 < v2)))
          ((ixO s19 a.length).bind fun v5 =>
          (getO a v5).bind fun v6 =>
          (ixO s19 b.length).bind fun v7 =>
          (getO b v7).bind fun v8 =>
          (some (bits .xor .u8 v6 v8)).bind fun v9 =>
          (ixO s19 c.length).bind fun v10 =>
          (getO c v10).bind fun v11 =>
          (some (bits .xor .u8 v9 v11)).bind fun v12 =>
          (appO 1 s18 [v12]).bind fun v13 =>
          (some (IntKind.i64.wrap (s19 + 1))).bind fun v14 =>
          some (.inl (v13, v14)))
          (some (.inr (.inl s18))))
        BIG ([], 0))
      (fun (s21 : (List Int)) =>
        bindS (S := Bool) (A := Bool)
          ((sums_Short s21).bind fun v29 =>
          (sliO a 0 v2).bind fun v30 =>
          (sums_Short v30).bind fun v31 =>
          (sliO b 0 v2).bind fun v32 =>
          (sums_Short v32).bind fun v33 =>
          (some (bits .xor .i64 v31 v33)).bind fun v34 =>
          (sliO c 0 v2).bind fun v35 =>
          (sums_Short v35).bind fun v36 =>
          (some (bits .xor .i64 v34 v36)).bind fun v37 =>
          cond ((v29 == v37))
            ((sums_Long s21).bind fun v38 =>
            (sliO a 0 v2).bind fun v39 =>
            (sums_Long v39).bind fun v40 =>
            (sliO b 0 v2).bind fun v41 =>
            (sums_Long v41).bind fun v42 =>
            (some (bits .xor .i64 v40 v42)).bind fun v43 =>
            (sliO c 0 v2).bind fun v44 =>
            (sums_Long v44).bind fun v45 =>
            (some (bits .xor .i64 v43 v45)).bind fun v46 =>
            cond ((v38 == v46))
              ((wherrylaw08_wakes ).bind fun v47 =>
              some (.inl v47))
              (some (.inl false)))
            (some (.inl false)))
          (fun (s48 : Bool) =>
            some (s48)) some) some)

end Go.Abs.Sh
