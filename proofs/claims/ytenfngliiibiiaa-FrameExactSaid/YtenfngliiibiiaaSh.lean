/-
  The program told in Lean: plain functions; none where Go would panic or a slice outgrow its room.
-/
import Derived.Test.YtenfngliiibiiaaAK
set_option linter.unusedVariables false
namespace Go.Abs.Sh

structure T_Frame where
  Kind : Int
  Number : Int
  Offset : Int
  Seq : Int
  Data : (List Int)
  deriving DecidableEq

def wherrykeep_Twin (l : (List Int)) : Option (List Int) :=
  (appO 1 ([] : List Int) l).bind fun v1 =>
  some (v1)

def wherrykeep_TwinFrame (f : T_Frame) : Option T_Frame :=
  (wherrykeep_Twin f.Data).bind fun v1 =>
  some ((T_Frame.mk f.Kind f.Number f.Offset f.Seq v1))

def frame_Check (f : T_Frame) : Option Int :=
  bindS (S := Bool) (A := Int)
    (cond ((decide (0 ≤ f.Offset)))
      (some (.inl ((decide (f.Offset ≤ 5000)))))
      (some (.inl false)))
    (fun (s1 : Bool) =>
      bindS (S := Bool) (A := Int)
        (cond ((decide (0 ≤ f.Seq)))
          (some (.inl ((decide (f.Seq ≤ 7)))))
          (some (.inl false)))
        (fun (s5 : Bool) =>
          bindS (S := Bool) (A := Int)
            (bindS (S := Bool) (A := (Bool ⊕ Int))
              (bindS (S := Bool) (A := (Bool ⊕ (Bool ⊕ Int)))
                (cond ((f.Kind == 1))
                  (some (.inl (f.Kind == 1)))
                  (some (.inl (f.Kind == 2))))
                (fun (s100 : Bool) =>
                  cond (s100)
                    (bindS (S := Bool) (A := (Bool ⊕ (Bool ⊕ Int)))
                      (cond (s1)
                        (cond ((f.Seq == 0))
                          (some (.inl (((f.Data.length : Int) == 0))))
                          (some (.inl false)))
                        (some (.inl false)))
                      (fun (s106 : Bool) =>
                        some (.inl s106)) some)
                    (cond ((f.Kind == 3))
                      (bindS (S := Bool) (A := (Bool ⊕ (Bool ⊕ Int)))
                        (cond (s1)
                          (cond (s5)
                            (cond ((!(((f.Data.length : Int) == 0))))
                              (some (.inl ((decide ((f.Data.length : Int) ≤ 48)))))
                              (some (.inl false)))
                            (some (.inl false)))
                          (some (.inl false)))
                        (fun (s111 : Bool) =>
                          some (.inl s111)) some)
                      (cond ((f.Kind == 4))
                        (bindS (S := Bool) (A := (Bool ⊕ (Bool ⊕ Int)))
                          (cond ((f.Offset == 0))
                            (cond (s5)
                              (some (.inl (((f.Data.length : Int) == 0))))
                              (some (.inl false)))
                            (some (.inl false)))
                          (fun (s116 : Bool) =>
                            some (.inl s116)) some)
                        (cond ((f.Kind == 5))
                          (bindS (S := Bool) (A := (Bool ⊕ (Bool ⊕ Int)))
                            (cond ((f.Offset == 0))
                              (cond ((f.Seq == 0))
                                (some (.inl (((f.Data.length : Int) == 0))))
                                (some (.inl false)))
                              (some (.inl false)))
                            (fun (s121 : Bool) =>
                              some (.inl s121)) some)
                          (some (.inl false)))))) some)
              (fun (s95 : Bool) =>
                some (.inl s95)) some)
            (fun (s65 : Bool) =>
              bindS (S := Bool) (A := Int)
                (cond ((!s65))
                  (some (.inl true))
                  (cond ((decide (f.Number < 1)))
                    (some (.inl true))
                    (some (.inl ((decide (65535 < f.Number)))))))
                (fun (s125 : Bool) =>
                  cond (s125)
                    (some (1))
                    (some (0))) some) some) some) some

def sums_table (divisor : Int) : Option (List Int) :=
  bindS (S := ((List Int))) (A := (List Int))
    (loopF (S := ((List Int) × Int)) (O := ((List Int)) ⊕ (List Int)) (fun ((s91, s92) : (List Int) × Int) =>
      cond ((decide (s92 < 16)))
        ((some (IntKind.u32.wrap s92)).bind fun v2 =>
        bindS (S := (Int)) (A := (((List Int) × Int) ⊕ (((List Int)) ⊕ (List Int))))
          (loopF (S := (Int × Int)) (O := (Int) ⊕ (((List Int) × Int) ⊕ (((List Int)) ⊕ (List Int)))) (fun ((s157, s158) : Int × Int) =>
            cond ((decide (s158 < 4)))
              (bindS (S := Int) (A := ((Int × Int) ⊕ ((Int) ⊕ (((List Int) × Int) ⊕ (((List Int)) ⊕ (List Int))))))
                ((some (bits .and .u32 s157 1)).bind fun v4 =>
                (shrO .u32 s157 1).bind fun v5 =>
                cond ((v4 == 1))
                  ((some (bits .xor .u32 v5 divisor)).bind fun v7 =>
                  some (.inl v7))
                  (some (.inl v5)))
                (fun (s175 : Int) =>
                  (some (IntKind.i64.wrap (s158 + 1))).bind fun v13 =>
                  some (.inl (s175, v13))) some)
              (some (.inr (.inl s157))))
            BIG (v2, 0))
          (fun (s166 : Int) =>
            (ixO s92 16).bind fun v46 =>
            (setO s91 v46 s166).bind fun v47 =>
            (some (IntKind.i64.wrap (s92 + 1))).bind fun v48 =>
            some (.inl (v47, v48))) some)
        (some (.inr (.inl s91))))
      BIG (((List.replicate 16 (0 : Int)), 0)))
    (fun (s133 : (List Int)) =>
      (lnO 16 s133).bind fun v180 =>
      (lnO 16 ((List.replicate 16 (0 : Int)))).bind fun v181 =>
      (lnO 16 s133).bind fun v182 =>
      (lnO 16 s133).bind fun v183 =>
      some (s133)) some

def sums_sum (b : (List Int)) (width : Int) (divisor : Int) : Option Int :=
  (sums_table divisor).bind fun v1 =>
  (lnO 16 ((List.replicate 16 (0 : Int)))).bind fun v2 =>
  (lnO 16 v1).bind fun v3 =>
  (shlO .u32 1 width).bind fun v4 =>
  (some (IntKind.u32.wrap (v4 - 1))).bind fun v5 =>
  bindS (S := (Int)) (A := Int)
    (loopF (S := (Int × Int)) (O := (Int) ⊕ Int) (fun ((s25, s26) : Int × Int) =>
      cond ((decide (s26 < (b.length : Int))))
        ((ixO s26 b.length).bind fun v7 =>
        (getO b v7).bind fun v8 =>
        (some (IntKind.u32.wrap v8)).bind fun v9 =>
        (some (bits .xor .u32 s25 v9)).bind fun v10 =>
        (shrO .u32 v10 4).bind fun v11 =>
        (remO v10 16).bind fun v12 =>
        (ixO v12 16).bind fun v13 =>
        (getO v1 v13).bind fun v14 =>
        (some (bits .xor .u32 v11 v14)).bind fun v15 =>
        (shrO .u32 v15 4).bind fun v16 =>
        (remO v15 16).bind fun v17 =>
        (ixO v17 16).bind fun v18 =>
        (getO v1 v18).bind fun v19 =>
        (some (bits .xor .u32 v16 v19)).bind fun v20 =>
        (some (IntKind.i64.wrap (s26 + 1))).bind fun v21 =>
        some (.inl (v20, v21)))
        (some (.inr (.inl s25))))
      BIG (v5, 0))
    (fun (s28 : Int) =>
      (some (bits .xor .u32 s28 v5)).bind fun v36 =>
      (some (IntKind.i64.wrap v36)).bind fun v37 =>
      some (v37)) some

def sums_Short (b : (List Int)) : Option Int :=
  (sums_sum b 16 33800).bind fun v1 =>
  some (v1)

def frame_Bytes (f : T_Frame) : Option ((List Int) × Int) :=
  (frame_Check f).bind fun v1 =>
  cond ((v1 != 0))
    (some (([], v1)))
    ((some (IntKind.u8.wrap f.Kind)).bind fun v3 =>
    (shrO .i64 f.Number 8).bind fun v4 =>
    (some (IntKind.u8.wrap v4)).bind fun v5 =>
    (some (IntKind.u8.wrap f.Number)).bind fun v6 =>
    (shrO .i64 f.Offset 8).bind fun v7 =>
    (some (IntKind.u8.wrap v7)).bind fun v8 =>
    (some (IntKind.u8.wrap f.Offset)).bind fun v9 =>
    (some (IntKind.u8.wrap f.Seq)).bind fun v10 =>
    (some (IntKind.u8.wrap (f.Data.length : Int))).bind fun v11 =>
    (appO 1 [v3, v5, v6, v8, v9, v10, v11] f.Data).bind fun v12 =>
    (sums_Short v12).bind fun v13 =>
    (some (IntKind.u8.wrap v13)).bind fun v14 =>
    (shrO .i64 v13 8).bind fun v15 =>
    (some (IntKind.u8.wrap v15)).bind fun v16 =>
    (appO 1 v12 [v14, v16]).bind fun v17 =>
    some ((v17, 0)))

def frame_Read (b : (List Int)) : Option (T_Frame × Int) :=
  bindS (S := Bool) (A := (T_Frame × Int))
    (cond ((decide ((b.length : Int) < 9)))
      (some (.inl true))
      (some (.inl ((decide (57 < (b.length : Int)))))))
    (fun (s1 : Bool) =>
      cond (s1)
        (some (((T_Frame.mk 0 0 0 0 []), 3)))
        ((some (IntKind.i64.wrap ((b.length : Int) - 2))).bind fun v6 =>
        (sliO b 0 v6).bind fun v7 =>
        (some (IntKind.i64.wrap ((b.length : Int) - 2))).bind fun v8 =>
        (sliO b v8 (b.length : Int)).bind fun v9 =>
        (sums_Short v7).bind fun v10 =>
        (ixO 0 v9.length).bind fun v11 =>
        (getO v9 v11).bind fun v12 =>
        (some (IntKind.i64.wrap v12)).bind fun v13 =>
        (ixO 1 v9.length).bind fun v14 =>
        (getO v9 v14).bind fun v15 =>
        (some (IntKind.i64.wrap v15)).bind fun v16 =>
        (shlO .i64 v16 8).bind fun v17 =>
        (some (bits .or .i64 v13 v17)).bind fun v18 =>
        cond ((v10 != v18))
          (some (((T_Frame.mk 0 0 0 0 []), 6)))
          ((ixO 0 v7.length).bind fun v20 =>
          (getO v7 v20).bind fun v21 =>
          (some (IntKind.i64.wrap v21)).bind fun v22 =>
          (ixO 1 v7.length).bind fun v23 =>
          (getO v7 v23).bind fun v24 =>
          (some (IntKind.i64.wrap v24)).bind fun v25 =>
          (shlO .i64 v25 8).bind fun v26 =>
          (ixO 2 v7.length).bind fun v27 =>
          (getO v7 v27).bind fun v28 =>
          (some (IntKind.i64.wrap v28)).bind fun v29 =>
          (some (bits .or .i64 v26 v29)).bind fun v30 =>
          (ixO 3 v7.length).bind fun v31 =>
          (getO v7 v31).bind fun v32 =>
          (some (IntKind.i64.wrap v32)).bind fun v33 =>
          (shlO .i64 v33 8).bind fun v34 =>
          (ixO 4 v7.length).bind fun v35 =>
          (getO v7 v35).bind fun v36 =>
          (some (IntKind.i64.wrap v36)).bind fun v37 =>
          (some (bits .or .i64 v34 v37)).bind fun v38 =>
          (ixO 5 v7.length).bind fun v39 =>
          (getO v7 v39).bind fun v40 =>
          (some (IntKind.i64.wrap v40)).bind fun v41 =>
          (sliO v7 7 (v7.length : Int)).bind fun v42 =>
          (appO 1 ([] : List Int) v42).bind fun v43 =>
          bindS (S := Bool) (A := (T_Frame × Int))
            ((ixO 6 v7.length).bind fun v44 =>
            (getO v7 v44).bind fun v45 =>
            (some (IntKind.i64.wrap v45)).bind fun v46 =>
            cond ((v46 != (v43.length : Int)))
              (some (.inl true))
              ((frame_Check (T_Frame.mk v22 v30 v38 v41 v43)).bind fun v47 =>
              some (.inl (v47 != 0))))
            (fun (s48 : Bool) =>
              cond (s48)
                (some (((T_Frame.mk 0 0 0 0 []), 3)))
                (some (((T_Frame.mk v22 v30 v38 v41 v43), 0)))) some))) some

def wherryref18_in (n : Int) (lo : Int) (hi : Int) : Option Bool :=
  bindS (S := Bool) (A := Bool)
    (cond ((decide (lo ≤ n)))
      (some (.inl ((decide (n ≤ hi)))))
      (some (.inl false)))
    (fun (s1 : Bool) =>
      some (s1)) some

def wherryref08_Carry (b : (List Int)) (width : Int) (divisor : Int) : Option Int :=
  (some (IntKind.u64.wrap width)).bind fun v1 =>
  (shlO .i64 1 v1).bind fun v2 =>
  (some (IntKind.i64.wrap (v2 - 1))).bind fun v3 =>
  bindS (S := (Int)) (A := Int)
    (loopF (S := (Int × Int)) (O := (Int) ⊕ Int) (fun ((s97, s98) : Int × Int) =>
      cond ((decide (s98 < (b.length : Int))))
        (bindS (S := (Int)) (A := ((Int × Int) ⊕ ((Int) ⊕ Int)))
          (loopF (S := (Int × Int)) (O := (Int) ⊕ ((Int × Int) ⊕ ((Int) ⊕ Int))) (fun ((s163, s164) : Int × Int) =>
            cond ((decide (s164 < 8)))
              (bindS (S := Int) (A := ((Int × Int) ⊕ ((Int) ⊕ ((Int × Int) ⊕ ((Int) ⊕ Int)))))
                ((some (bits .and .i64 s163 1)).bind fun v6 =>
                (shrO .i64 s163 1).bind fun v7 =>
                (ixO s98 b.length).bind fun v8 =>
                (getO b v8).bind fun v9 =>
                (some (IntKind.u64.wrap s164)).bind fun v10 =>
                (shrO .u8 v9 v10).bind fun v11 =>
                (some (IntKind.i64.wrap v11)).bind fun v12 =>
                (some (bits .and .i64 v12 1)).bind fun v13 =>
                cond ((v6 != v13))
                  ((some (bits .xor .i64 v7 divisor)).bind fun v15 =>
                  some (.inl v15))
                  (some (.inl v7)))
                (fun (s181 : Int) =>
                  (some (IntKind.i64.wrap (s164 + 1))).bind fun v21 =>
                  some (.inl (s181, v21))) some)
              (some (.inr (.inl s163))))
            BIG (s97, 0))
          (fun (s172 : Int) =>
            (some (IntKind.i64.wrap (s98 + 1))).bind fun v54 =>
            some (.inl (s172, v54))) some)
        (some (.inr (.inl s97))))
      BIG (v3, 0))
    (fun (s139 : Int) =>
      (some (IntKind.u64.wrap width)).bind fun v186 =>
      (shlO .i64 1 v186).bind fun v187 =>
      (some (IntKind.i64.wrap (v187 - 1))).bind fun v188 =>
      (some (bits .xor .i64 s139 v188)).bind fun v189 =>
      some (v189)) some

def wherryref08_Short (b : (List Int)) : Option Int :=
  (wherryref08_Carry b 16 33800).bind fun v1 =>
  some (v1)

def wherrykeep_Bytes (a : (List Int)) (b : (List Int)) : Option Bool :=
  cond (((a.length : Int) != (b.length : Int)))
    (some (false))
    (bindS (S := (Unit)) (A := Bool)
      (loopF (S := (Int)) (O := (Unit) ⊕ Bool) (fun (s12 : Int) =>
        cond ((decide (s12 < (a.length : Int))))
          ((ixO s12 a.length).bind fun v3 =>
          (getO a v3).bind fun v4 =>
          (ixO s12 b.length).bind fun v5 =>
          (getO b v5).bind fun v6 =>
          cond ((v4 != v6))
            (some (.inr (.inr (false))))
            ((some (IntKind.i64.wrap (s12 + 1))).bind fun v8 =>
            some (.inl v8)))
          (some (.inr (.inl ()))))
        BIG 0)
      (fun (() : Unit) =>
        some (true)) some)

def wherrykeep_Frame (a : T_Frame) (b : T_Frame) : Option Bool :=
  bindS (S := Bool) (A := Bool)
    (cond ((a.Kind == b.Kind))
      (cond ((a.Number == b.Number))
        (cond ((a.Offset == b.Offset))
          (cond ((a.Seq == b.Seq))
            ((wherrykeep_Bytes a.Data b.Data).bind fun v1 =>
            some (.inl v1))
            (some (.inl false)))
          (some (.inl false)))
        (some (.inl false)))
      (some (.inl false)))
    (fun (s2 : Bool) =>
      some (s2)) some

def wherryref18_Frame (f : T_Frame) : Option Bool :=
  (wherryref18_in f.Number 1 65535).bind fun v1 =>
  bindS (S := Int × Int × (List Int) × Bool) (A := Bool)
    (bindS (S := Int × Int × (List Int) × Bool) (A := ((Int × Int × (List Int) × Bool) ⊕ Bool))
      (bindS (S := Bool) (A := ((Int × Int × (List Int) × Bool) ⊕ ((Int × Int × (List Int) × Bool) ⊕ Bool)))
        (cond ((f.Kind == 1))
          (some (.inl (f.Kind == 1)))
          (some (.inl (f.Kind == 2))))
        (fun (s95 : Bool) =>
          cond (s95)
            (bindS (S := Bool) (A := ((Int × Int × (List Int) × Bool) ⊕ ((Int × Int × (List Int) × Bool) ⊕ Bool)))
              (cond (v1)
                ((wherryref18_in f.Offset 0 5000).bind fun v9 =>
                some (.inl v9))
                (some (.inl false)))
              (fun (s101 : Bool) =>
                some (.inl (f.Offset, 0, [], s101))) some)
            (cond ((f.Kind == 3))
              (bindS (S := Bool) (A := ((Int × Int × (List Int) × Bool) ⊕ ((Int × Int × (List Int) × Bool) ⊕ Bool)))
                (cond (v1)
                  ((wherryref18_in f.Offset 0 5000).bind fun v15 =>
                  cond (v15)
                    ((wherryref18_in f.Seq 0 7).bind fun v16 =>
                    cond (v16)
                      ((wherryref18_in (f.Data.length : Int) 1 48).bind fun v17 =>
                      some (.inl v17))
                      (some (.inl false)))
                    (some (.inl false)))
                  (some (.inl false)))
                (fun (s106 : Bool) =>
                  some (.inl (f.Offset, f.Seq, f.Data, s106))) some)
              (cond ((f.Kind == 4))
                (bindS (S := Bool) (A := ((Int × Int × (List Int) × Bool) ⊕ ((Int × Int × (List Int) × Bool) ⊕ Bool)))
                  (cond (v1)
                    ((wherryref18_in f.Seq 0 7).bind fun v23 =>
                    some (.inl v23))
                    (some (.inl false)))
                  (fun (s111 : Bool) =>
                    some (.inl (0, f.Seq, [], s111))) some)
                (cond ((f.Kind == 5))
                  (some (.inl (0, 0, [], v1)))
                  (some (.inl (0, 0, [], false))))))) some)
      (fun ((s87, s88, s89, s90) : Int × Int × (List Int) × Bool) =>
        some (.inl (s87, s88, s89, s90))) some)
    (fun ((s58, s59, s60, s61) : Int × Int × (List Int) × Bool) =>
      bindS (S := Bool) (A := Bool)
        (cond (s61)
          ((wherrykeep_Frame (T_Frame.mk f.Kind f.Number s58 s59 s60) f).bind fun v116 =>
          some (.inl v116))
          (some (.inl false)))
        (fun (s117 : Bool) =>
          some (s117)) some) some

def wherryref18_ReadFrame (b : (List Int)) : Option (T_Frame × Int) :=
  (wherryref18_in (b.length : Int) 9 57).bind fun v1 =>
  cond ((!v1))
    (some (((T_Frame.mk 0 0 0 0 []), 3)))
    ((some (IntKind.i64.wrap ((b.length : Int) - 2))).bind fun v3 =>
    (sliO b 0 v3).bind fun v4 =>
    (wherryref08_Short v4).bind fun v5 =>
    (ixO v3 b.length).bind fun v6 =>
    (getO b v6).bind fun v7 =>
    (some (IntKind.i64.wrap v7)).bind fun v8 =>
    (some (IntKind.i64.wrap (v3 + 1))).bind fun v9 =>
    (ixO v9 b.length).bind fun v10 =>
    (getO b v10).bind fun v11 =>
    (some (IntKind.i64.wrap v11)).bind fun v12 =>
    (shlO .i64 v12 8).bind fun v13 =>
    (some (bits .or .i64 v8 v13)).bind fun v14 =>
    cond ((v5 != v14))
      (some (((T_Frame.mk 0 0 0 0 []), 6)))
      ((ixO 0 b.length).bind fun v16 =>
      (getO b v16).bind fun v17 =>
      (some (IntKind.i64.wrap v17)).bind fun v18 =>
      (ixO 1 b.length).bind fun v19 =>
      (getO b v19).bind fun v20 =>
      (some (IntKind.i64.wrap v20)).bind fun v21 =>
      (shlO .i64 v21 8).bind fun v22 =>
      (ixO 2 b.length).bind fun v23 =>
      (getO b v23).bind fun v24 =>
      (some (IntKind.i64.wrap v24)).bind fun v25 =>
      (some (bits .or .i64 v22 v25)).bind fun v26 =>
      (ixO 3 b.length).bind fun v27 =>
      (getO b v27).bind fun v28 =>
      (some (IntKind.i64.wrap v28)).bind fun v29 =>
      (shlO .i64 v29 8).bind fun v30 =>
      (ixO 4 b.length).bind fun v31 =>
      (getO b v31).bind fun v32 =>
      (some (IntKind.i64.wrap v32)).bind fun v33 =>
      (some (bits .or .i64 v30 v33)).bind fun v34 =>
      (ixO 5 b.length).bind fun v35 =>
      (getO b v35).bind fun v36 =>
      (some (IntKind.i64.wrap v36)).bind fun v37 =>
      (sliO b 7 v3).bind fun v38 =>
      (wherrykeep_Twin v38).bind fun v39 =>
      bindS (S := Bool) (A := (T_Frame × Int))
        ((ixO 6 b.length).bind fun v40 =>
        (getO b v40).bind fun v41 =>
        (some (IntKind.i64.wrap v41)).bind fun v42 =>
        cond ((v42 != (v39.length : Int)))
          (some (.inl true))
          ((wherryref18_Frame (T_Frame.mk v18 v26 v34 v37 v39)).bind fun v43 =>
          some (.inl (!v43))))
        (fun (s44 : Bool) =>
          cond (s44)
            (some (((T_Frame.mk 0 0 0 0 []), 3)))
            (some (((T_Frame.mk v18 v26 v34 v37 v39), 0)))) some))

def wherryref18_Bytes (f : T_Frame) : Option (List Int) :=
  (some (IntKind.u8.wrap f.Kind)).bind fun v1 =>
  (shrO .i64 f.Number 8).bind fun v2 =>
  (some (IntKind.u8.wrap v2)).bind fun v3 =>
  (some (IntKind.u8.wrap f.Number)).bind fun v4 =>
  (shrO .i64 f.Offset 8).bind fun v5 =>
  (some (IntKind.u8.wrap v5)).bind fun v6 =>
  (some (IntKind.u8.wrap f.Offset)).bind fun v7 =>
  (some (IntKind.u8.wrap f.Seq)).bind fun v8 =>
  (some (IntKind.u8.wrap (f.Data.length : Int))).bind fun v9 =>
  (appO 1 [v1, v3, v4, v6, v7, v8, v9] f.Data).bind fun v10 =>
  (wherryref08_Short v10).bind fun v11 =>
  (some (IntKind.u8.wrap v11)).bind fun v12 =>
  (shrO .i64 v11 8).bind fun v13 =>
  (some (IntKind.u8.wrap v13)).bind fun v14 =>
  (appO 1 v10 [v12, v14]).bind fun v15 =>
  some (v15)

def frame_Spoil (b : (List Int)) (at_ : Int) (p_bits : Int) : Option (List Int) :=
  (appO 1 ([] : List Int) b).bind fun v1 =>
  cond (((v1.length : Int) == 0))
    (some (v1))
    ((some (IntKind.u16.wrap p_bits)).bind fun v3 =>
    (some (bits .or .u16 v3 1)).bind fun v4 =>
    (some (IntKind.i64.wrap (8 * (v1.length : Int)))).bind fun v5 =>
    (remO at_ v5).bind fun v6 =>
    bindS (S := Int) (A := (List Int))
      (cond ((decide (v6 < 0)))
        ((some (IntKind.i64.wrap (8 * (v1.length : Int)))).bind fun v8 =>
        (some (IntKind.i64.wrap (v6 + v8))).bind fun v9 =>
        some (.inl v9))
        (some (.inl v6)))
      (fun (s10 : Int) =>
        bindS (S := ((List Int))) (A := (List Int))
          (loopF (S := ((List Int) × Int)) (O := ((List Int)) ⊕ (List Int)) (fun ((s60, s61) : (List Int) × Int) =>
            cond ((decide (s61 < 16)))
              (bindS (S := (List Int)) (A := (((List Int) × Int) ⊕ (((List Int)) ⊕ (List Int))))
                ((some (IntKind.i64.wrap (s10 + s61))).bind fun v16 =>
                bindS (S := Bool) (A := (((List Int)) ⊕ (((List Int) × Int) ⊕ (((List Int)) ⊕ (List Int)))))
                  ((some (IntKind.i64.wrap (8 * (s60.length : Int)))).bind fun v17 =>
                  cond ((decide (v16 < v17)))
                    ((shrO .u16 v4 s61).bind fun v18 =>
                    (some (bits .and .u16 v18 1)).bind fun v19 =>
                    some (.inl (v19 == 1)))
                    (some (.inl false)))
                  (fun (s94 : Bool) =>
                    cond (s94)
                      ((quoO .i64 v16 8).bind fun v25 =>
                      (ixO v25 s60.length).bind fun v26 =>
                      (getO s60 v26).bind fun v27 =>
                      (remO v16 8).bind fun v28 =>
                      (shlO .u8 1 v28).bind fun v29 =>
                      (some (bits .xor .u8 v27 v29)).bind fun v30 =>
                      (ixO v25 s60.length).bind fun v31 =>
                      (some (s60.set v31 v30)).bind fun v32 =>
                      some (.inl v32))
                      (some (.inl s60))) some)
                (fun (s90 : (List Int)) =>
                  (some (IntKind.i64.wrap (s61 + 1))).bind fun v42 =>
                  some (.inl (s90, v42))) some)
              (some (.inr (.inl s60))))
            BIG (v1, 0))
          (fun (s77 : (List Int)) =>
            some (s77)) some) some)

def wherryref18_Spoil (b : (List Int)) (at_ : Int) (p_bits : Int) : Option (List Int) :=
  (wherrykeep_Twin b).bind fun v1 =>
  cond (((b.length : Int) == 0))
    (some (v1))
    ((some (IntKind.i64.wrap (8 * (b.length : Int)))).bind fun v3 =>
    (remO at_ v3).bind fun v4 =>
    (some (IntKind.i64.wrap (v4 + v3))).bind fun v5 =>
    (remO v5 v3).bind fun v6 =>
    (remO p_bits 65536).bind fun v7 =>
    (some (IntKind.i64.wrap (v7 + 65536))).bind fun v8 =>
    (remO v8 65536).bind fun v9 =>
    (some (bits .or .i64 v9 1)).bind fun v10 =>
    bindS (S := ((List Int))) (A := (List Int))
      (loopF (S := ((List Int) × Int)) (O := ((List Int)) ⊕ (List Int)) (fun ((s53, s54) : (List Int) × Int) =>
        bindS (S := Bool) (A := (((List Int) × Int) ⊕ (((List Int)) ⊕ (List Int))))
          (cond ((decide (s54 < 16)))
            ((some (IntKind.i64.wrap (v6 + s54))).bind fun v11 =>
            some (.inl ((decide (v11 < v3)))))
            (some (.inl false)))
          (fun (s73 : Bool) =>
            cond (s73)
              (bindS (S := (List Int)) (A := (((List Int) × Int) ⊕ (((List Int)) ⊕ (List Int))))
                ((some (IntKind.u64.wrap s54)).bind fun v17 =>
                (shrO .i64 v10 v17).bind fun v18 =>
                (some (bits .and .i64 v18 1)).bind fun v19 =>
                cond ((v19 == 1))
                  ((some (IntKind.i64.wrap (v6 + s54))).bind fun v21 =>
                  (quoO .i64 v21 8).bind fun v22 =>
                  (some (IntKind.i64.wrap (v6 + s54))).bind fun v23 =>
                  (quoO .i64 v23 8).bind fun v24 =>
                  (ixO v24 s53.length).bind fun v25 =>
                  (getO s53 v25).bind fun v26 =>
                  (some (IntKind.i64.wrap (v6 + s54))).bind fun v27 =>
                  (remO v27 8).bind fun v28 =>
                  (some (IntKind.u64.wrap v28)).bind fun v29 =>
                  (shlO .u8 1 v29).bind fun v30 =>
                  (some (bits .xor .u8 v26 v30)).bind fun v31 =>
                  (ixO v22 s53.length).bind fun v32 =>
                  (some (s53.set v32 v31)).bind fun v33 =>
                  some (.inl v33))
                  (some (.inl s53)))
                (fun (s79 : (List Int)) =>
                  (some (IntKind.i64.wrap (s54 + 1))).bind fun v39 =>
                  some (.inl (s79, v39))) some)
              (some (.inr (.inl s53)))) some)
        BIG (v1, 0))
      (fun (s66 : (List Int)) =>
        some (s66)) some)

def wherrykeep_Over (b : (List Int)) : Option Unit :=
  bindS (S := (Unit)) (A := Unit)
    (loopF (S := ((List Int) × Int)) (O := (Unit) ⊕ Unit) (fun ((s11, s12) : (List Int) × Int) =>
      cond ((decide (s12 < (s11.length : Int))))
        ((ixO s12 s11.length).bind fun v2 =>
        (getO s11 v2).bind fun v3 =>
        (some (IntKind.u8.wrap (v3 + 91))).bind fun v4 =>
        (ixO s12 s11.length).bind fun v5 =>
        (some (s11.set v5 v4)).bind fun v6 =>
        (some (IntKind.i64.wrap (s12 + 1))).bind fun v7 =>
        some (.inl (v6, v7)))
        (some (.inr (.inl ()))))
      BIG (b, 0))
    (fun (() : Unit) =>
      some (())) some

def wherrylaw20_wakes : Option Bool :=
  (frame_Bytes (T_Frame.mk 5 258 0 0 [])).bind fun v1 =>
  (frame_Read v1.1).bind fun v2 =>
  bindS (S := Bool) (A := Bool)
    (cond ((v1.2 == 0))
      (cond ((v2.2 == 0))
        (cond (((v1.1.length : Int) == 9))
          ((ixO 1 v1.1.length).bind fun v3 =>
          (getO v1.1 v3).bind fun v4 =>
          cond ((v4 == 1))
            ((ixO 2 v1.1.length).bind fun v5 =>
            (getO v1.1 v5).bind fun v6 =>
            cond ((v6 == 2))
              ((wherrykeep_Frame v2.1 (T_Frame.mk 5 258 0 0 [])).bind fun v7 =>
              cond (v7)
                ((frame_Check (T_Frame.mk 0 0 0 0 [])).bind fun v8 =>
                some (.inl (v8 == 1)))
                (some (.inl false)))
              (some (.inl false)))
            (some (.inl false)))
          (some (.inl false)))
        (some (.inl false)))
      (some (.inl false)))
    (fun (s9 : Bool) =>
      some (s9)) some

def wherrylaw20_FrameExact (f : T_Frame) (b : (List Int)) (at_ : Int) (p_bits : Int) : Option Bool :=
  bindS (S := Bool) (A := Bool)
    (cond ((decide (300 < (f.Data.length : Int))))
      (some (.inl true))
      (some (.inl ((decide (300 < (b.length : Int)))))))
    (fun (s1 : Bool) =>
      cond (s1)
        (some (true))
        ((wherrykeep_TwinFrame f).bind fun v6 =>
        (wherrykeep_Twin b).bind fun v7 =>
        (frame_Bytes v6).bind fun v8 =>
        (frame_Read v7).bind fun v9 =>
        (wherryref18_ReadFrame b).bind fun v10 =>
        (wherryref18_Frame f).bind fun v11 =>
        bindS (S := Bool) (A := Bool)
          ((frame_Check v6).bind fun v12 =>
          (some (!((v12 == 0) == v11))).bind fun v13 =>
          cond ((!((v12 == 0) == v11)))
            (some (.inl true))
            (cond (v11)
              (cond ((v8.2 != 0))
                (some (.inl true))
                ((wherryref18_Bytes f).bind fun v14 =>
                (wherrykeep_Bytes v8.1 v14).bind fun v15 =>
                cond ((!v15))
                  (some (.inl true))
                  (cond ((!v11))
                    (cond ((v8.2 != 1))
                      (some (.inl true))
                      (cond ((decide (0 < (v8.1.length : Int))))
                        (some (.inl true))
                        ((frame_Check v6).bind fun v16 =>
                        cond ((v16 != 1))
                          (some (.inl true))
                          (cond ((v9.2 != v10.2))
                            (some (.inl true))
                            ((wherrykeep_Frame v9.1 v10.1).bind fun v17 =>
                            cond ((!v17))
                              (some (.inl true))
                              ((frame_Spoil v7 at_ p_bits).bind fun v18 =>
                              (wherryref18_Spoil b at_ p_bits).bind fun v19 =>
                              (wherrykeep_Bytes v18 v19).bind fun v20 =>
                              some (.inl (!v20))))))))
                    (cond ((v9.2 != v10.2))
                      (some (.inl true))
                      ((wherrykeep_Frame v9.1 v10.1).bind fun v21 =>
                      cond ((!v21))
                        (some (.inl true))
                        ((frame_Spoil v7 at_ p_bits).bind fun v22 =>
                        (wherryref18_Spoil b at_ p_bits).bind fun v23 =>
                        (wherrykeep_Bytes v22 v23).bind fun v24 =>
                        some (.inl (!v24))))))))
              (cond ((!v11))
                (cond ((v8.2 != 1))
                  (some (.inl true))
                  (cond ((decide (0 < (v8.1.length : Int))))
                    (some (.inl true))
                    ((frame_Check v6).bind fun v25 =>
                    cond ((v25 != 1))
                      (some (.inl true))
                      (cond ((v9.2 != v10.2))
                        (some (.inl true))
                        ((wherrykeep_Frame v9.1 v10.1).bind fun v26 =>
                        cond ((!v26))
                          (some (.inl true))
                          ((frame_Spoil v7 at_ p_bits).bind fun v27 =>
                          (wherryref18_Spoil b at_ p_bits).bind fun v28 =>
                          (wherrykeep_Bytes v27 v28).bind fun v29 =>
                          some (.inl (!v29))))))))
                (cond ((v9.2 != v10.2))
                  (some (.inl true))
                  ((wherrykeep_Frame v9.1 v10.1).bind fun v30 =>
                  cond ((!v30))
                    (some (.inl true))
                    ((frame_Spoil v7 at_ p_bits).bind fun v31 =>
                    (wherryref18_Spoil b at_ p_bits).bind fun v32 =>
                    (wherrykeep_Bytes v31 v32).bind fun v33 =>
                    some (.inl (!v33))))))))
          (fun (s34 : Bool) =>
            cond (s34)
              (some (false))
              ((wherrykeep_Over v9.1.Data).bind fun v39 =>
              (wherrykeep_Over v8.1).bind fun v40 =>
              bindS (S := Bool) (A := Bool)
                ((wherrykeep_Frame (T_Frame.mk v6.Kind v6.Number v6.Offset v6.Seq v6.Data) (T_Frame.mk f.Kind f.Number f.Offset f.Seq f.Data)).bind fun v41 =>
                cond (v41)
                  ((wherrykeep_Bytes v7 b).bind fun v42 =>
                  cond (v42)
                    ((wherrylaw20_wakes ).bind fun v43 =>
                    some (.inl v43))
                    (some (.inl false)))
                  (some (.inl false)))
                (fun (s44 : Bool) =>
                  some (s44)) some)) some)) some

def wherrylaw20_FrameBack (f : T_Frame) (g : T_Frame) (b : (List Int)) : Option Bool :=
  bindS (S := Bool) (A := Bool)
    (cond ((decide (300 < (f.Data.length : Int))))
      (some (.inl true))
      (cond ((decide (300 < (g.Data.length : Int))))
        (some (.inl true))
        (some (.inl ((decide (300 < (b.length : Int))))))))
    (fun (s1 : Bool) =>
      cond (s1)
        (some (true))
        ((frame_Bytes f).bind fun v6 =>
        (frame_Bytes g).bind fun v7 =>
        bindS (S := Unit) (A := Bool)
          (cond ((v6.2 == 0))
            ((frame_Read v6.1).bind fun v9 =>
            bindS (S := Bool) (A := (Unit ⊕ Bool))
              (cond ((v9.2 != 0))
                (some (.inl true))
                ((wherrykeep_Frame v9.1 f).bind fun v10 =>
                cond ((!v10))
                  (some (.inl true))
                  (cond ((v7.2 == 0))
                    ((wherrykeep_Bytes v6.1 v7.1).bind fun v11 =>
                    (wherrykeep_Frame f g).bind fun v12 =>
                    (some (!(v11 == v12))).bind fun v13 =>
                    some (.inl ((!(v11 == v12)))))
                    (some (.inl false)))))
              (fun (s23 : Bool) =>
                cond (s23)
                  (some (.inr (false)))
                  (some (.inl ()))) some)
            (some (.inl ())))
          (fun (() : Unit) =>
            (frame_Read b).bind fun v28 =>
            cond ((v28.2 != 0))
              (bindS (S := Bool) (A := Bool)
                (cond ((v28.2 == 3))
                  ((wherrykeep_Frame v28.1 (T_Frame.mk 0 0 0 0 [])).bind fun v30 =>
                  cond (v30)
                    ((wherrylaw20_wakes ).bind fun v31 =>
                    some (.inl v31))
                    (some (.inl false)))
                  (cond ((v28.2 == 6))
                    ((wherrykeep_Frame v28.1 (T_Frame.mk 0 0 0 0 [])).bind fun v32 =>
                    cond (v32)
                      ((wherrylaw20_wakes ).bind fun v33 =>
                      some (.inl v33))
                      (some (.inl false)))
                    (some (.inl false))))
                (fun (s34 : Bool) =>
                  some (s34)) some)
              ((frame_Bytes v28.1).bind fun v38 =>
              bindS (S := Bool) (A := Bool)
                (cond ((v38.2 == 0))
                  ((wherrykeep_Bytes v38.1 b).bind fun v39 =>
                  cond (v39)
                    ((wherrylaw20_wakes ).bind fun v40 =>
                    some (.inl v40))
                    (some (.inl false)))
                  (some (.inl false)))
                (fun (s41 : Bool) =>
                  some (s41)) some)) some)) some

def wherrylaw20_FrameSpoilt (f : T_Frame) (at_ : Int) (p_bits : Int) : Option Bool :=
  cond ((decide (300 < (f.Data.length : Int))))
    (some (true))
    ((frame_Bytes f).bind fun v2 =>
    cond ((v2.2 != 0))
      ((wherrylaw20_wakes ).bind fun v4 =>
      some (v4))
      ((frame_Spoil v2.1 at_ p_bits).bind fun v5 =>
      (frame_Read v5).bind fun v6 =>
      bindS (S := Bool) (A := Bool)
        (cond ((v6.2 == 6))
          ((wherrykeep_Frame v6.1 (T_Frame.mk 0 0 0 0 [])).bind fun v7 =>
          cond (v7)
            (cond (((v5.length : Int) == (v2.1.length : Int)))
              ((wherrykeep_Bytes v5 v2.1).bind fun v8 =>
              cond ((!v8))
                ((frame_Spoil v5 at_ p_bits).bind fun v9 =>
                (wherrykeep_Bytes v9 v2.1).bind fun v10 =>
                cond (v10)
                  ((wherrylaw20_wakes ).bind fun v11 =>
                  some (.inl v11))
                  (some (.inl false)))
                (some (.inl false)))
              (some (.inl false)))
            (some (.inl false)))
          (some (.inl false)))
        (fun (s12 : Bool) =>
          some (s12)) some))

def wherrylaw20_FrameCuts (f : T_Frame) (cut : Int) (more : Int) : Option Bool :=
  cond ((decide (300 < (f.Data.length : Int))))
    (some (true))
    ((frame_Bytes f).bind fun v2 =>
    bindS (S := Bool) (A := Bool)
      (cond ((v2.2 != 0))
        (some (.inl true))
        (some (.inl (((v2.1.length : Int) == 0)))))
      (fun (s18 : Bool) =>
        cond (s18)
          (bindS (S := Bool) (A := Bool)
            (cond ((v2.2 != 0))
              ((wherrylaw20_wakes ).bind fun v8 =>
              some (.inl v8))
              (some (.inl false)))
            (fun (s23 : Bool) =>
              some (s23)) some)
          ((some (IntKind.u64.wrap cut)).bind fun v13 =>
          (some (IntKind.u64.wrap (v2.1.length : Int))).bind fun v14 =>
          (remO v13 v14).bind fun v15 =>
          (some (IntKind.i64.wrap v15)).bind fun v16 =>
          (sliO v2.1 0 v16).bind fun v27 =>
          (frame_Read v27).bind fun v28 =>
          (wherrykeep_Twin v2.1).bind fun v29 =>
          (appO 1 v29 [more]).bind fun v30 =>
          (frame_Read v30).bind fun v31 =>
          bindS (S := Bool) (A := Bool)
            (cond ((v28.2 != 0))
              (cond ((v31.2 != 0))
                ((wherrylaw20_wakes ).bind fun v32 =>
                some (.inl v32))
                (some (.inl false)))
              (some (.inl false)))
            (fun (s33 : Bool) =>
              some (s33)) some)) some)

def wherrylaw20_FrameFields (f : T_Frame) : Option Bool :=
  bindS (S := Bool) (A := Bool)
    (cond ((decide (300 < (f.Data.length : Int))))
      (some (.inl true))
      ((wherryref18_Frame f).bind fun v1 =>
      some (.inl (!v1))))
    (fun (s40 : Bool) =>
      cond (s40)
        (some (true))
        ((frame_Bytes f).bind fun v7 =>
        bindS (S := Bool) (A := Bool)
          (cond ((v7.2 != 0))
            (some (.inl true))
            ((some (IntKind.i64.wrap (9 + (f.Data.length : Int)))).bind fun v8 =>
            some (.inl (((v7.1.length : Int) != v8)))))
          (fun (s45 : Bool) =>
            cond (s45)
              (some (false))
              (bindS (S := Bool) (A := Bool)
                ((ixO 0 v7.1.length).bind fun v14 =>
                (getO v7.1 v14).bind fun v15 =>
                (some (IntKind.i64.wrap v15)).bind fun v16 =>
                cond ((v16 == f.Kind))
                  ((ixO 1 v7.1.length).bind fun v17 =>
                  (getO v7.1 v17).bind fun v18 =>
                  (some (IntKind.i64.wrap v18)).bind fun v19 =>
                  (shlO .i64 v19 8).bind fun v20 =>
                  (ixO 2 v7.1.length).bind fun v21 =>
                  (getO v7.1 v21).bind fun v22 =>
                  (some (IntKind.i64.wrap v22)).bind fun v23 =>
                  (some (bits .or .i64 v20 v23)).bind fun v24 =>
                  cond ((v24 == f.Number))
                    ((ixO 3 v7.1.length).bind fun v25 =>
                    (getO v7.1 v25).bind fun v26 =>
                    (some (IntKind.i64.wrap v26)).bind fun v27 =>
                    (shlO .i64 v27 8).bind fun v28 =>
                    (ixO 4 v7.1.length).bind fun v29 =>
                    (getO v7.1 v29).bind fun v30 =>
                    (some (IntKind.i64.wrap v30)).bind fun v31 =>
                    (some (bits .or .i64 v28 v31)).bind fun v32 =>
                    cond ((v32 == f.Offset))
                      ((ixO 5 v7.1.length).bind fun v33 =>
                      (getO v7.1 v33).bind fun v34 =>
                      (some (IntKind.i64.wrap v34)).bind fun v35 =>
                      cond ((v35 == f.Seq))
                        ((ixO 6 v7.1.length).bind fun v36 =>
                        (getO v7.1 v36).bind fun v37 =>
                        (some (IntKind.i64.wrap v37)).bind fun v38 =>
                        cond ((v38 == (f.Data.length : Int)))
                          ((some (IntKind.i64.wrap (7 + (f.Data.length : Int)))).bind fun v39 =>
                          (sliO v7.1 7 v39).bind fun v50 =>
                          (wherrykeep_Bytes v50 f.Data).bind fun v51 =>
                          cond (v51)
                            ((wherrylaw20_wakes ).bind fun v52 =>
                            some (.inl v52))
                            (some (.inl false)))
                          (some (.inl false)))
                        (some (.inl false)))
                      (some (.inl false)))
                    (some (.inl false)))
                  (some (.inl false)))
                (fun (s53 : Bool) =>
                  some (s53)) some)) some)) some

def wherrylaw20_FrameWrong (f : T_Frame) (how : Int) : Option Bool :=
  bindS (S := Bool) (A := Bool)
    (cond ((decide (300 < (f.Data.length : Int))))
      (some (.inl true))
      ((wherryref18_Frame f).bind fun v1 =>
      some (.inl (!v1))))
    (fun (s2 : Bool) =>
      cond (s2)
        (some (true))
        ((wherrykeep_TwinFrame f).bind fun v7 =>
        bindS (S := Int × Int × Int × Int × (List Int)) (A := Bool)
          ((some (IntKind.u64.wrap how)).bind fun v8 =>
          (remO v8 6).bind fun v9 =>
          bindS (S := Int × Int × Int × Int × (List Int)) (A := ((Int × Int × Int × Int × (List Int)) ⊕ Bool))
            (cond ((v9 == 0))
              (some (.inl (6, v7.Number, v7.Offset, v7.Seq, v7.Data)))
              (cond ((v9 == 1))
                (some (.inl (v7.Kind, 0, v7.Offset, v7.Seq, v7.Data)))
                (cond ((v9 == 2))
                  (some (.inl (v7.Kind, 65536, v7.Offset, v7.Seq, v7.Data)))
                  (cond ((v9 == 3))
                    (bindS (S := Bool) (A := ((Int × Int × Int × Int × (List Int)) ⊕ ((Int × Int × Int × Int × (List Int)) ⊕ Bool)))
                      (cond ((f.Kind == 3))
                        (some (.inl true))
                        (some (.inl (f.Kind == 4))))
                      (fun (s86 : Bool) =>
                        cond (s86)
                          (some (.inl (v7.Kind, v7.Number, v7.Offset, 8, v7.Data)))
                          (some (.inl (v7.Kind, v7.Number, v7.Offset, 1, v7.Data)))) some)
                    (cond ((v9 == 4))
                      (cond ((f.Kind == 3))
                        (some (.inl (v7.Kind, v7.Number, v7.Offset, v7.Seq, [])))
                        (some (.inl (v7.Kind, v7.Number, v7.Offset, v7.Seq, [1]))))
                      (bindS (S := Bool) (A := ((Int × Int × Int × Int × (List Int)) ⊕ ((Int × Int × Int × Int × (List Int)) ⊕ Bool)))
                        (cond ((f.Kind == 4))
                          (some (.inl true))
                          (some (.inl (f.Kind == 5))))
                        (fun (s93 : Bool) =>
                          cond (s93)
                            (some (.inl (v7.Kind, v7.Number, 1, v7.Seq, v7.Data)))
                            (some (.inl (v7.Kind, v7.Number, 5001, v7.Seq, v7.Data)))) some))))))
            (fun ((s74, s75, s76, s77, s78) : Int × Int × Int × Int × (List Int)) =>
              some (.inl (s74, s75, s76, s77, s78))) some)
          (fun ((s50, s51, s52, s53, s54) : Int × Int × Int × Int × (List Int)) =>
            (frame_Bytes (T_Frame.mk s50 s51 s52 s53 s54)).bind fun v98 =>
            bindS (S := Bool) (A := Bool)
              ((frame_Check f).bind fun v99 =>
              cond ((v99 == 0))
                ((frame_Check (T_Frame.mk s50 s51 s52 s53 s54)).bind fun v100 =>
                cond ((v100 == 1))
                  (cond ((v98.2 == 1))
                    (cond (((v98.1.length : Int) == 0))
                      ((wherrylaw20_wakes ).bind fun v101 =>
                      some (.inl v101))
                      (some (.inl false)))
                    (some (.inl false)))
                  (some (.inl false)))
                (some (.inl false)))
              (fun (s102 : Bool) =>
                some (s102)) some) some)) some

def wherrylaw20_FrameSpoils (b : (List Int)) (at_ : Int) (p_bits : Int) : Option Bool :=
  cond ((decide (300 < (b.length : Int))))
    (some (true))
    ((frame_Spoil b at_ p_bits).bind fun v2 =>
    cond (((v2.length : Int) != (b.length : Int)))
      (some (false))
      (cond (((b.length : Int) == 0))
        ((wherrylaw20_wakes ).bind fun v5 =>
        some (v5))
        ((some (IntKind.i64.wrap (8 * (b.length : Int)))).bind fun v6 =>
        (remO at_ v6).bind fun v7 =>
        bindS (S := Int) (A := Bool)
          (cond ((decide (v7 < 0)))
            ((some (IntKind.i64.wrap (v7 + v6))).bind fun v9 =>
            some (.inl v9))
            (some (.inl v7)))
          (fun (s10 : Int) =>
            bindS (S := (Unit)) (A := Bool)
              (loopF (S := (Int)) (O := (Unit) ⊕ Bool) (fun (s60 : Int) =>
                cond ((decide (s60 < v6)))
                  ((quoO .i64 s60 8).bind fun v16 =>
                  (ixO v16 b.length).bind fun v17 =>
                  (getO b v17).bind fun v18 =>
                  (quoO .i64 s60 8).bind fun v19 =>
                  (ixO v19 v2.length).bind fun v20 =>
                  (getO v2 v20).bind fun v21 =>
                  (some (bits .xor .u8 v18 v21)).bind fun v22 =>
                  (remO s60 8).bind fun v23 =>
                  (some (IntKind.u64.wrap v23)).bind fun v24 =>
                  (shrO .u8 v22 v24).bind fun v25 =>
                  (some (bits .and .u8 v25 1)).bind fun v26 =>
                  bindS (S := Bool) (A := ((Int) ⊕ ((Unit) ⊕ Bool)))
                    (cond ((v26 == 1))
                      (cond ((decide (s60 < s10)))
                        (some (.inl true))
                        ((some (IntKind.i64.wrap (s10 + 16))).bind fun v27 =>
                        cond ((decide (v27 ≤ s60)))
                          (some (.inl true))
                          (cond ((s60 == s10))
                            (some (.inl ((!(v26 == 1)))))
                            (some (.inl false)))))
                      (cond ((s60 == s10))
                        (some (.inl ((!(v26 == 1)))))
                        (some (.inl false))))
                    (fun (s79 : Bool) =>
                      cond (s79)
                        (some (.inr (.inr (false))))
                        (bindS (S := Bool) (A := ((Int) ⊕ ((Unit) ⊕ Bool)))
                          (cond ((decide (s10 < s60)))
                            ((some (IntKind.i64.wrap (s10 + 16))).bind fun v33 =>
                            cond ((decide (s60 < v33)))
                              ((remO p_bits 65536).bind fun v34 =>
                              (some (IntKind.i64.wrap (v34 + 65536))).bind fun v35 =>
                              (remO v35 65536).bind fun v36 =>
                              (some (IntKind.i64.wrap (s60 - s10))).bind fun v37 =>
                              (some (IntKind.u64.wrap v37)).bind fun v38 =>
                              (shrO .i64 v36 v38).bind fun v39 =>
                              (some (bits .and .i64 v39 1)).bind fun v40 =>
                              (some (!((v26 == 1) == (v40 == 1)))).bind fun v41 =>
                              some (.inl ((!((v26 == 1) == (v40 == 1))))))
                              (some (.inl false)))
                            (some (.inl false)))
                          (fun (s84 : Bool) =>
                            cond (s84)
                              (some (.inr (.inr (false))))
                              ((some (IntKind.i64.wrap (s60 + 1))).bind fun v47 =>
                              some (.inl v47))) some)) some)
                  (some (.inr (.inl ()))))
                BIG 0)
              (fun (() : Unit) =>
                (wherrylaw20_wakes ).bind fun v89 =>
                some (v89)) some) some)))

end Go.Abs.Sh
