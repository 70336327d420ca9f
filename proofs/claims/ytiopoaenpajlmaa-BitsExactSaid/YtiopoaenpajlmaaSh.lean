/-
  The program told in Lean: plain functions; none where Go would panic or a slice outgrow its room.
-/
import Derived.Test.YtiopoaenpajlmaaAL
set_option linter.unusedVariables false
namespace Go.Abs.Sh

structure T_Bits where
  B : (List Int)
  N : Int
  deriving DecidableEq

def wherrykeep_Twin (l : (List Int)) : Option (List Int) :=
  (appO 1 ([] : List Int) l).bind fun v1 =>
  some (v1)

def wherrylaw01_twin (s : T_Bits) : Option T_Bits :=
  (wherrykeep_Twin s.B).bind fun v1 =>
  some ((T_Bits.mk v1 s.N))

def wherryref01_in (n : Int) (lo : Int) (hi : Int) : Option Bool :=
  bindS (S := Bool) (A := Bool)
    (cond ((decide (lo ≤ n)))
      (some (.inl ((decide (n ≤ hi)))))
      (some (.inl false)))
    (fun (s1 : Bool) =>
      some (s1)) some

def wherryref01_bit (b : (List Int)) (i : Int) : Option Int :=
  (quoO .i64 i 8).bind fun v1 =>
  (ixO v1 b.length).bind fun v2 =>
  (getO b v2).bind fun v3 =>
  (remO i 8).bind fun v4 =>
  (some (IntKind.u64.wrap v4)).bind fun v5 =>
  (shrO .u8 v3 v5).bind fun v6 =>
  (some (IntKind.i64.wrap v6)).bind fun v7 =>
  (some (bits .and .i64 v7 1)).bind fun v8 =>
  some (v8)

def wherryref01_RightBits (s : T_Bits) : Option Bool :=
  bindS (S := Bool) (A := Bool)
    ((wherryref01_in s.N 0 40000).bind fun v1 =>
    cond ((!v1))
      (some (.inl true))
      ((some (IntKind.i64.wrap (s.N + 7))).bind fun v2 =>
      (quoO .i64 v2 8).bind fun v3 =>
      some (.inl (((s.B.length : Int) != v3)))))
    (fun (s4 : Bool) =>
      cond (s4)
        (some (false))
        (bindS (S := (Unit)) (A := Bool)
          (loopF (S := (Int)) (O := (Unit) ⊕ Bool) (fun (s17 : Int) =>
            (some (IntKind.i64.wrap (8 * (s.B.length : Int)))).bind fun v9 =>
            cond ((decide (s17 < v9)))
              ((wherryref01_bit s.B s17).bind fun v11 =>
              cond ((v11 != 0))
                (some (.inr (.inr (false))))
                ((some (IntKind.i64.wrap (s17 + 1))).bind fun v13 =>
                some (.inl v13)))
              (some (.inr (.inl ()))))
            BIG s.N)
          (fun (() : Unit) =>
            some (true)) some)) some

def bits_bytesFor (n : Int) : Option Int :=
  (some (IntKind.i64.wrap (n + 7))).bind fun v1 =>
  (quoO .i64 v1 8).bind fun v2 =>
  some (v2)

def bits_Check (s : T_Bits) : Option Int :=
  bindS (S := Bool) (A := Int)
    (cond ((decide (s.N < 0)))
      (some (.inl true))
      (cond ((decide (40000 < s.N)))
        (some (.inl true))
        ((bits_bytesFor s.N).bind fun v1 =>
        some (.inl (((s.B.length : Int) != v1))))))
    (fun (s2 : Bool) =>
      cond (s2)
        (some (1))
        ((remO s.N 8).bind fun v7 =>
        bindS (S := Bool) (A := Int)
          (cond ((v7 != 0))
            ((some (IntKind.i64.wrap ((s.B.length : Int) - 1))).bind fun v8 =>
            (ixO v8 s.B.length).bind fun v9 =>
            (getO s.B v9).bind fun v10 =>
            (shrO .u8 v10 v7).bind fun v11 =>
            some (.inl (v11 != 0)))
            (some (.inl false)))
          (fun (s12 : Bool) =>
            cond (s12)
              (some (1))
              (some (0))) some)) some

def bits_fits (v : Int) (n : Int) : Option Bool :=
  bindS (S := Bool) (A := Bool)
    (cond ((decide (0 ≤ n)))
      (cond ((decide (n ≤ 24)))
        (cond ((decide (0 ≤ v)))
          ((shlO .i64 1 n).bind fun v1 =>
          some (.inl ((decide (v < v1)))))
          (some (.inl false)))
        (some (.inl false)))
      (some (.inl false)))
    (fun (s2 : Bool) =>
      some (s2)) some

def bits_Put (s : T_Bits) (v : Int) (n : Int) : Option (T_Bits × Int) :=
  (bits_Check s).bind fun v1 =>
  cond ((v1 != 0))
    (some (((T_Bits.mk [] 0), v1)))
    ((bits_fits v n).bind fun v3 =>
    cond ((!v3))
      (some (((T_Bits.mk [] 0), 1)))
      ((some (IntKind.i64.wrap (s.N + n))).bind fun v5 =>
      cond ((decide (40000 < v5)))
        (some (((T_Bits.mk [] 0), 2)))
        ((some (IntKind.i64.wrap (s.N + n))).bind fun v7 =>
        (bits_bytesFor v7).bind fun v8 =>
        (mkO 1 v8 (0 : Int)).bind fun v9 =>
        (some (copyL v9 s.B)).bind fun v10 =>
        (some (IntKind.u32.wrap v)).bind fun v11 =>
        (remO s.N 8).bind fun v12 =>
        (shlO .u32 v11 v12).bind fun v13 =>
        (quoO .i64 s.N 8).bind fun v14 =>
        bindS (S := ((List Int))) (A := (T_Bits × Int))
          (loopF (S := ((List Int) × Int × Int)) (O := ((List Int)) ⊕ (T_Bits × Int)) (fun ((s28, s29, s30) : (List Int) × Int × Int) =>
            cond ((decide (s30 < (s28.length : Int))))
              ((ixO s30 s28.length).bind fun v16 =>
              (getO s28 v16).bind fun v17 =>
              (some (IntKind.u8.wrap s29)).bind fun v18 =>
              (some (bits .or .u8 v17 v18)).bind fun v19 =>
              (ixO s30 s28.length).bind fun v20 =>
              (some (s28.set v20 v19)).bind fun v21 =>
              (shrO .u32 s29 8).bind fun v22 =>
              (some (IntKind.i64.wrap (s30 + 1))).bind fun v23 =>
              some (.inl (v21, v22, v23)))
              (some (.inr (.inl s28))))
            BIG (v10, v13, v14))
          (fun (s32 : (List Int)) =>
            (some (IntKind.i64.wrap (s.N + n))).bind fun v40 =>
            some (((T_Bits.mk s32 v40), 0))) some)))

def wherryref01_fits (v : Int) (n : Int) : Option Bool :=
  bindS (S := Bool) (A := Bool)
    ((wherryref01_in n 0 24).bind fun v1 =>
    cond (v1)
      (cond ((decide (0 ≤ v)))
        ((some (IntKind.u64.wrap n)).bind fun v2 =>
        (shlO .i64 1 v2).bind fun v3 =>
        some (.inl ((decide (v < v3)))))
        (some (.inl false)))
      (some (.inl false)))
    (fun (s4 : Bool) =>
      some (s4)) some

def wherryref01_put (s : T_Bits) (v : Int) (n : Int) : Option T_Bits :=
  bindS (S := ((List Int) × Int)) (A := T_Bits)
    (loopF (S := ((List Int) × Int × Int)) (O := ((List Int) × Int) ⊕ T_Bits) (fun ((s36, s37, s38) : (List Int) × Int × Int) =>
      cond ((decide (s38 < n)))
        (bindS (S := (List Int)) (A := (((List Int) × Int × Int) ⊕ (((List Int) × Int) ⊕ T_Bits)))
          ((remO s37 8).bind fun v2 =>
          cond ((v2 == 0))
            ((appO 1 s36 [0]).bind fun v4 =>
            some (.inl v4))
            (some (.inl s36)))
          (fun (s56 : (List Int)) =>
            (quoO .i64 s37 8).bind fun v10 =>
            (quoO .i64 s37 8).bind fun v11 =>
            (ixO v11 s56.length).bind fun v12 =>
            (getO s56 v12).bind fun v13 =>
            (some (IntKind.u64.wrap s38)).bind fun v14 =>
            (shrO .i64 v v14).bind fun v15 =>
            (some (bits .and .i64 v15 1)).bind fun v16 =>
            (some (IntKind.u8.wrap v16)).bind fun v17 =>
            (remO s37 8).bind fun v18 =>
            (some (IntKind.u64.wrap v18)).bind fun v19 =>
            (shlO .u8 v17 v19).bind fun v20 =>
            (some (bits .or .u8 v13 v20)).bind fun v21 =>
            (ixO v10 s56.length).bind fun v22 =>
            (some (s56.set v22 v21)).bind fun v23 =>
            (some (IntKind.i64.wrap (s37 + 1))).bind fun v24 =>
            (some (IntKind.i64.wrap (s38 + 1))).bind fun v25 =>
            some (.inl (v23, v24, v25))) some)
        (some (.inr (.inl (s36, s37)))))
      BIG (s.B, s.N, 0))
    (fun ((s46, s47) : (List Int) × Int) =>
      some ((T_Bits.mk s46 s47))) some

def wherryref01_Put (s : T_Bits) (v : Int) (n : Int) : Option (T_Bits × Int) :=
  bindS (S := Bool) (A := (T_Bits × Int))
    ((wherryref01_RightBits s).bind fun v1 =>
    cond ((!v1))
      (some (.inl true))
      ((wherryref01_fits v n).bind fun v2 =>
      some (.inl (!v2))))
    (fun (s3 : Bool) =>
      cond (s3)
        (some (((T_Bits.mk [] 0), 1)))
        ((some (IntKind.i64.wrap (s.N + n))).bind fun v8 =>
        cond ((decide (40000 < v8)))
          (some (((T_Bits.mk [] 0), 2)))
          ((wherrykeep_Twin s.B).bind fun v10 =>
          (wherryref01_put (T_Bits.mk v10 s.N) v n).bind fun v11 =>
          some ((v11, 0))))) some

def bits_Fill (s : T_Bits) : Option (T_Bits × Int) :=
  (bits_Check s).bind fun v1 =>
  cond ((v1 != 0))
    (some (((T_Bits.mk [] 0), v1)))
    ((appO 1 ([] : List Int) s.B).bind fun v3 =>
    (some (IntKind.i64.wrap (8 * (s.B.length : Int)))).bind fun v4 =>
    some (((T_Bits.mk v3 v4), 0)))

def wherryref01_Fill (s : T_Bits) : Option (T_Bits × Int) :=
  (wherryref01_RightBits s).bind fun v1 =>
  cond ((!v1))
    (some (((T_Bits.mk [] 0), 1)))
    ((wherrykeep_Twin s.B).bind fun v3 =>
    (some (IntKind.i64.wrap (8 * (s.B.length : Int)))).bind fun v4 =>
    some (((T_Bits.mk v3 v4), 0)))

def wherrykeep_Bytes (a : (List Int)) (b : (List Int)) : Option Bool :=
  cond (((a.length : Int) != (b.length : Int)))
    (some (false))
    (bindS (S := (Unit)) (A := Bool)
      (loopF (S := (Int)) (O := (Unit) ⊕ Bool) (fun (s12 : Int) =>
        cond ((decide (s12 < (a.length : Int))))
          ((ixO s12 a.length).bind fun v3 =>
          (getO a v3).bind fun v4 =>
          (ixO s12 b.length).bind fun v5 =>
          (getO b v5).bind fun v6 =>
          cond ((v4 != v6))
            (some (.inr (.inr (false))))
            ((some (IntKind.i64.wrap (s12 + 1))).bind fun v8 =>
            some (.inl v8)))
          (some (.inr (.inl ()))))
        BIG 0)
      (fun (() : Unit) =>
        some (true)) some)

def wherrykeep_Bits (a : T_Bits) (b : T_Bits) : Option Bool :=
  bindS (S := Bool) (A := Bool)
    (cond ((a.N == b.N))
      ((wherrykeep_Bytes a.B b.B).bind fun v1 =>
      some (.inl v1))
      (some (.inl false)))
    (fun (s2 : Bool) =>
      some (s2)) some

def bits_Get (b : (List Int)) (at_ : Int) (n : Int) : Option (Int × Int × Int) :=
  bindS (S := Bool) (A := (Int × Int × Int))
    (cond ((decide (n < 0)))
      (some (.inl true))
      (cond ((decide (24 < n)))
        (some (.inl true))
        (cond ((decide (at_ < 0)))
          (some (.inl true))
          ((some (IntKind.i64.wrap (8 * (b.length : Int)))).bind fun v1 =>
          some (.inl ((decide (v1 < at_))))))))
    (fun (s2 : Bool) =>
      cond (s2)
        (some ((0, 0, 1)))
        ((some (IntKind.i64.wrap (at_ + n))).bind fun v7 =>
        (some (IntKind.i64.wrap (8 * (b.length : Int)))).bind fun v8 =>
        cond ((decide (v8 < v7)))
          (some ((0, 0, 3)))
          ((quoO .i64 at_ 8).bind fun v10 =>
          bindS (S := (Int)) (A := (Int × Int × Int))
            (loopF (S := (Int × Int)) (O := (Int) ⊕ (Int × Int × Int)) (fun ((s25, s26) : Int × Int) =>
              (some (IntKind.i64.wrap (at_ + n))).bind fun v11 =>
              (bits_bytesFor v11).bind fun v12 =>
              cond ((decide (s26 < v12)))
                ((ixO s26 b.length).bind fun v14 =>
                (getO b v14).bind fun v15 =>
                (some (IntKind.u32.wrap v15)).bind fun v16 =>
                (some (IntKind.i64.wrap (s26 - v10))).bind fun v17 =>
                (some (IntKind.i64.wrap (8 * v17))).bind fun v18 =>
                (shlO .u32 v16 v18).bind fun v19 =>
                (some (bits .or .u32 s25 v19)).bind fun v20 =>
                (some (IntKind.i64.wrap (s26 + 1))).bind fun v21 =>
                some (.inl (v20, v21)))
                (some (.inr (.inl s25))))
              BIG (0, v10))
            (fun (s28 : Int) =>
              (shlO .u32 1 n).bind fun v36 =>
              (some (IntKind.u32.wrap (v36 - 1))).bind fun v37 =>
              (remO at_ 8).bind fun v38 =>
              (shrO .u32 s28 v38).bind fun v39 =>
              (some (bits .and .u32 v39 v37)).bind fun v40 =>
              (some (IntKind.i64.wrap v40)).bind fun v41 =>
              (some (IntKind.i64.wrap (at_ + n))).bind fun v42 =>
              some ((v41, v42, 0))) some))) some

def wherryref01_Get (b : (List Int)) (at_ : Int) (n : Int) : Option (Int × Int × Int) :=
  bindS (S := Bool) (A := (Int × Int × Int))
    ((wherryref01_in n 0 24).bind fun v1 =>
    cond ((!v1))
      (some (.inl true))
      ((some (IntKind.i64.wrap (8 * (b.length : Int)))).bind fun v2 =>
      (wherryref01_in at_ 0 v2).bind fun v3 =>
      some (.inl (!v3))))
    (fun (s4 : Bool) =>
      cond (s4)
        (some ((0, 0, 1)))
        ((some (IntKind.i64.wrap (8 * (b.length : Int)))).bind fun v9 =>
        (some (IntKind.i64.wrap (v9 - at_))).bind fun v10 =>
        cond ((decide (v10 < n)))
          (some ((0, 0, 3)))
          (bindS (S := (Int)) (A := (Int × Int × Int))
            (loopF (S := (Int × Int)) (O := (Int) ⊕ (Int × Int × Int)) (fun ((s22, s23) : Int × Int) =>
              cond ((decide (s23 < n)))
                ((some (IntKind.i64.wrap (at_ + s23))).bind fun v13 =>
                (wherryref01_bit b v13).bind fun v14 =>
                (some (IntKind.u64.wrap s23)).bind fun v15 =>
                (shlO .i64 v14 v15).bind fun v16 =>
                (some (bits .or .i64 s22 v16)).bind fun v17 =>
                (some (IntKind.i64.wrap (s23 + 1))).bind fun v18 =>
                some (.inl (v17, v18)))
                (some (.inr (.inl s22))))
              BIG (0, 0))
            (fun (s25 : Int) =>
              (some (IntKind.i64.wrap (at_ + n))).bind fun v33 =>
              some ((s25, v33, 0))) some))) some

def bits_Turn (v : Int) (n : Int) : Option (Int × Int) :=
  (bits_fits v n).bind fun v1 =>
  cond ((!v1))
    (some ((0, 1)))
    ((some (IntKind.u32.wrap v)).bind fun v3 =>
    bindS (S := (Int)) (A := (Int × Int))
      (loopF (S := (Int × Int × Int)) (O := (Int) ⊕ (Int × Int)) (fun ((s14, s15, s16) : Int × Int × Int) =>
        cond ((decide (0 < s14)))
          ((shlO .u32 s15 1).bind fun v5 =>
          (some (bits .and .u32 s16 1)).bind fun v6 =>
          (some (bits .or .u32 v5 v6)).bind fun v7 =>
          (shrO .u32 s16 1).bind fun v8 =>
          (some (IntKind.i64.wrap (s14 - 1))).bind fun v9 =>
          some (.inl (v9, v7, v8)))
          (some (.inr (.inl s15))))
        BIG (n, 0, v3))
      (fun (s18 : Int) =>
        (some (IntKind.i64.wrap s18)).bind fun v26 =>
        some ((v26, 0))) some)

def wherryref01_turn (v : Int) (n : Int) : Option Int :=
  bindS (S := (Int)) (A := Int)
    (loopF (S := (Int × Int)) (O := (Int) ⊕ Int) (fun ((s11, s12) : Int × Int) =>
      cond ((decide (s12 < n)))
        ((shlO .i64 s11 1).bind fun v2 =>
        (some (IntKind.u64.wrap s12)).bind fun v3 =>
        (shrO .i64 v v3).bind fun v4 =>
        (some (bits .and .i64 v4 1)).bind fun v5 =>
        (some (bits .or .i64 v2 v5)).bind fun v6 =>
        (some (IntKind.i64.wrap (s12 + 1))).bind fun v7 =>
        some (.inl (v6, v7)))
        (some (.inr (.inl s11))))
      BIG (0, 0))
    (fun (s14 : Int) =>
      some (s14)) some

def wherryref01_Turn (v : Int) (n : Int) : Option (Int × Int) :=
  (wherryref01_fits v n).bind fun v1 =>
  cond ((!v1))
    (some ((0, 1)))
    ((wherryref01_turn v n).bind fun v3 =>
    some ((v3, 0)))

def wherrykeep_Over (b : (List Int)) : Option Unit :=
  bindS (S := (Unit)) (A := Unit)
    (loopF (S := ((List Int) × Int)) (O := (Unit) ⊕ Unit) (fun ((s11, s12) : (List Int) × Int) =>
      cond ((decide (s12 < (s11.length : Int))))
        ((ixO s12 s11.length).bind fun v2 =>
        (getO s11 v2).bind fun v3 =>
        (some (IntKind.u8.wrap (v3 + 91))).bind fun v4 =>
        (ixO s12 s11.length).bind fun v5 =>
        (some (s11.set v5 v4)).bind fun v6 =>
        (some (IntKind.i64.wrap (s12 + 1))).bind fun v7 =>
        some (.inl (v6, v7)))
        (some (.inr (.inl ()))))
      BIG (b, 0))
    (fun (() : Unit) =>
      some (())) some

def wherrylaw01_wakes : Option Bool :=
  (bits_Put (T_Bits.mk [] 0) 5 3).bind fun v1 =>
  (bits_Put v1.1 1 2).bind fun v2 =>
  (bits_Get v2.1.B 0 3).bind fun v3 =>
  bindS (S := Bool) (A := Bool)
    (cond ((v1.2 == 0))
      (cond ((v2.2 == 0))
        (cond ((v3.2.2 == 0))
          ((wherrykeep_Bits v2.1 (T_Bits.mk [13] 5)).bind fun v4 =>
          cond (v4)
            (cond ((v3.1 == 5))
              (some (.inl (v3.2.1 == 3)))
              (some (.inl false)))
            (some (.inl false)))
          (some (.inl false)))
        (some (.inl false)))
      (some (.inl false)))
    (fun (s5 : Bool) =>
      some (s5)) some

def wherrylaw01_BitsExact (s : T_Bits) (v : Int) (n : Int) (b : (List Int)) (at_ : Int) : Option Bool :=
  bindS (S := Bool) (A := Bool)
    (cond ((decide (6000 < (s.B.length : Int))))
      (some (.inl true))
      (some (.inl ((decide (600 < (b.length : Int)))))))
    (fun (s1 : Bool) =>
      cond (s1)
        (some (true))
        ((wherrylaw01_twin s).bind fun v6 =>
        (wherrykeep_Twin b).bind fun v7 =>
        bindS (S := Int) (A := Bool)
          ((wherryref01_RightBits s).bind fun v8 =>
          cond ((!v8))
            (some (.inl 1))
            (some (.inl 0)))
          (fun (s10 : Int) =>
            (bits_Put v6 v n).bind fun v15 =>
            (wherryref01_Put s v n).bind fun v16 =>
            (bits_Fill v6).bind fun v17 =>
            (wherryref01_Fill s).bind fun v18 =>
            bindS (S := Bool) (A := Bool)
              ((bits_Check v6).bind fun v19 =>
              cond ((v19 != s10))
                (some (.inl true))
                (cond ((v15.2 != v16.2))
                  (some (.inl true))
                  ((wherrykeep_Bits v15.1 v16.1).bind fun v20 =>
                  cond ((!v20))
                    (some (.inl true))
                    (cond ((v17.2 != v18.2))
                      (some (.inl true))
                      ((wherrykeep_Bits v17.1 v18.1).bind fun v21 =>
                      some (.inl (!v21)))))))
              (fun (s22 : Bool) =>
                cond (s22)
                  (some (false))
                  ((bits_Get v7 at_ n).bind fun v27 =>
                  (wherryref01_Get b at_ n).bind fun v28 =>
                  (bits_Turn v n).bind fun v29 =>
                  (wherryref01_Turn v n).bind fun v30 =>
                  bindS (S := Bool) (A := Bool)
                    (cond ((v27.2.2 != v28.2.2))
                      (some (.inl true))
                      (cond ((v27.1 != v28.1))
                        (some (.inl true))
                        (cond ((v27.2.1 != v28.2.1))
                          (some (.inl true))
                          (cond ((v29.2 != v30.2))
                            (some (.inl true))
                            (some (.inl (v29.1 != v30.1)))))))
                    (fun (s31 : Bool) =>
                      cond (s31)
                        (some (false))
                        ((wherrykeep_Over v15.1.B).bind fun v36 =>
                        (wherrykeep_Over v17.1.B).bind fun v37 =>
                        bindS (S := Bool) (A := Bool)
                          ((wherrykeep_Bits (T_Bits.mk v6.B v6.N) (T_Bits.mk s.B s.N)).bind fun v38 =>
                          cond (v38)
                            ((wherrykeep_Bytes v7 b).bind fun v39 =>
                            cond (v39)
                              ((wherrylaw01_wakes ).bind fun v40 =>
                              some (.inl v40))
                              (some (.inl false)))
                            (some (.inl false)))
                          (fun (s41 : Bool) =>
                            some (s41)) some)) some)) some) some)) some

end Go.Abs.Sh
