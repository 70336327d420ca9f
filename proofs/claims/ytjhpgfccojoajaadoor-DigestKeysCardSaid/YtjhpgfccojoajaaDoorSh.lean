/-
  The program told in Lean: plain functions; none where Go would panic or a slice outgrow its room.
-/
import Derived.Test.YtjhpgfccojoajaaDoorAN
set_option linter.unusedVariables false
namespace Go.Abs.Sh

def digest_sines : List Int := (3614090360 :: 3905402710 :: 606105819 :: 3250441966 :: 4118548399 :: 1200080426 :: 2821735955 :: 4249261313 :: 1770035416 :: 2336552879 :: 4294925233 :: 2304563134 :: 1804603682 :: 4254626195 :: 2792965006 :: 1236535329 :: 4129170786 :: 3225465664 :: 643717713 :: 3921069994 :: 3593408605 :: 38016083 :: 3634488961 :: 3889429448 :: 568446438 :: 3275163606 :: 4107603335 :: 1163531501 :: 2850285829 :: 4243563512 :: 1735328473 :: 2368359562 :: 4294588738 :: 2272392833 :: 1839030562 :: 4259657740 :: 2763975236 :: 1272893353 :: 4139469664 :: 3200236656 :: 681279174 :: 3936430074 :: 3572445317 :: 76029189 :: 3654602809 :: 3873151461 :: 530742520 :: 3299628645 :: 4096336452 :: 1126891415 :: 2878612391 :: 4237533241 :: 1700485571 :: 2399980690 :: 4293915773 :: 2240044497 :: 1873313359 :: 4264355552 :: 2734768916 :: 1309151649 :: 4149444226 :: 3174756917 :: 718787259 :: 3951481745 :: [])

def digest_step (i : Int) (q : Int) (p_r : Int) (t : Int) : Option (Int × Int) :=
  (quoO .i64 i 16).bind fun v1 =>
  cond ((v1 == 0))
    ((some (bits .and .u32 q p_r)).bind fun v3 =>
    (some (bits .xor .u32 4294967295 q)).bind fun v4 =>
    (some (bits .and .u32 v4 t)).bind fun v5 =>
    (some (bits .or .u32 v3 v5)).bind fun v6 =>
    some ((v6, i)))
    (cond ((v1 == 1))
      ((some (bits .and .u32 q t)).bind fun v8 =>
      (some (bits .andNot .u32 p_r t)).bind fun v9 =>
      (some (bits .or .u32 v8 v9)).bind fun v10 =>
      (some (IntKind.i64.wrap (5 * i))).bind fun v11 =>
      (some (IntKind.i64.wrap (v11 + 1))).bind fun v12 =>
      (remO v12 16).bind fun v13 =>
      some ((v10, v13)))
      (cond ((v1 == 2))
        ((some (bits .xor .u32 q p_r)).bind fun v15 =>
        (some (bits .xor .u32 v15 t)).bind fun v16 =>
        (some (IntKind.i64.wrap (3 * i))).bind fun v17 =>
        (some (IntKind.i64.wrap (v17 + 5))).bind fun v18 =>
        (remO v18 16).bind fun v19 =>
        some ((v16, v19)))
        ((some (bits .xor .u32 4294967295 t)).bind fun v20 =>
        (some (bits .or .u32 q v20)).bind fun v21 =>
        (some (bits .xor .u32 p_r v21)).bind fun v22 =>
        (some (IntKind.i64.wrap (7 * i))).bind fun v23 =>
        (remO v23 16).bind fun v24 =>
        some ((v22, v24)))))

def digest_turns : List Int := (7 :: 12 :: 17 :: 22 :: 5 :: 9 :: 14 :: 20 :: 4 :: 11 :: 16 :: 23 :: 6 :: 10 :: 15 :: 21 :: [])

def digest_state_block (s : (List Int)) (b : (List Int)) : Option (List Int) :=
  bindS (S := ((List Int))) (A := (List Int))
    (loopF (S := ((List Int) × Int)) (O := ((List Int)) ⊕ (List Int)) (fun ((s18, s19) : (List Int) × Int) =>
      cond ((decide (s19 < (b.length : Int))))
        ((ixO s19 b.length).bind fun v2 =>
        (getO b v2).bind fun v3 =>
        (quoO .i64 s19 4).bind fun v4 =>
        (ixO v4 16).bind fun v5 =>
        (getO s18 v5).bind fun v6 =>
        (some (IntKind.u32.wrap v3)).bind fun v7 =>
        (remO s19 4).bind fun v8 =>
        (some (IntKind.i64.wrap (8 * v8))).bind fun v9 =>
        (shlO .u32 v7 v9).bind fun v10 =>
        (some (bits .or .u32 v6 v10)).bind fun v11 =>
        (ixO v4 16).bind fun v12 =>
        (setO s18 v12 v11).bind fun v13 =>
        (some (IntKind.i64.wrap (s19 + 1))).bind fun v14 =>
        some (.inl (v13, v14)))
        (some (.inr (.inl s18))))
      BIG (((List.replicate 16 (0 : Int)), 0)))
    (fun (s21 : (List Int)) =>
      (ixO 0 4).bind fun v29 =>
      (getO s v29).bind fun v30 =>
      (ixO 1 4).bind fun v31 =>
      (getO s v31).bind fun v32 =>
      (ixO 2 4).bind fun v33 =>
      (getO s v33).bind fun v34 =>
      (ixO 3 4).bind fun v35 =>
      (getO s v35).bind fun v36 =>
      bindS (S := (Int × Int × Int × Int)) (A := (List Int))
        (loopF (S := (Int × Int × Int × Int × Int)) (O := (Int × Int × Int × Int) ⊕ (List Int)) (fun ((s63, s64, s65, s66, s67) : Int × Int × Int × Int × Int) =>
          cond ((decide (s67 < 64)))
            ((ixO s67 64).bind fun v38 =>
            (getO digest_sines v38).bind fun v39 =>
            (digest_step s67 s64 s65 s66).bind fun v40 =>
            (some (IntKind.u32.wrap (s63 + v39))).bind fun v41 =>
            (ixO v40.2 16).bind fun v42 =>
            (getO s21 v42).bind fun v43 =>
            (some (IntKind.u32.wrap (v41 + v43))).bind fun v44 =>
            (some (IntKind.u32.wrap (v40.1 + v44))).bind fun v45 =>
            (quoO .i64 s67 16).bind fun v46 =>
            (remO s67 4).bind fun v47 =>
            (ixO v46 4).bind fun v48 =>
            (ixO v47 4).bind fun v49 =>
            (getO digest_turns (((0 + v48 * 4) + v49 * 1))).bind fun v50 =>
            (shlO .u32 v45 v50).bind fun v51 =>
            (some (IntKind.i64.wrap (32 - v50))).bind fun v52 =>
            (shrO .u32 v45 v52).bind fun v53 =>
            (some (bits .or .u32 v51 v53)).bind fun v54 =>
            (some (IntKind.u32.wrap (s64 + v54))).bind fun v55 =>
            (some (IntKind.i64.wrap (s67 + 1))).bind fun v56 =>
            some (.inl (s66, v55, s64, s65, v56)))
            (some (.inr (.inl (s63, s64, s65, s66)))))
          BIG (v30, v32, v34, v36, 0))
        (fun ((s69, s70, s71, s72) : Int × Int × Int × Int) =>
          (ixO 0 4).bind fun v80 =>
          (getO s v80).bind fun v81 =>
          (some (IntKind.u32.wrap (v81 + s69))).bind fun v82 =>
          (ixO 1 4).bind fun v83 =>
          (getO s v83).bind fun v84 =>
          (some (IntKind.u32.wrap (v84 + s70))).bind fun v85 =>
          (ixO 2 4).bind fun v86 =>
          (getO s v86).bind fun v87 =>
          (some (IntKind.u32.wrap (v87 + s71))).bind fun v88 =>
          (ixO 3 4).bind fun v89 =>
          (getO s v89).bind fun v90 =>
          (some (IntKind.u32.wrap (v90 + s72))).bind fun v91 =>
          (lnO 4 ((List.replicate 4 (0 : Int)))).bind fun v92 =>
          (lnO 4 ([v82, v85, v88, v91] : List Int)).bind fun v93 =>
          (lnO 4 ([v82, v85, v88, v91] : List Int)).bind fun v94 =>
          some (([v82, v85, v88, v91] : List Int))) some) some

def digest_padded (rest : (List Int)) (n : Int) : Option (List Int) :=
  bindS (S := Int) (A := (List Int))
    ((some (IntKind.i64.wrap ((rest.length : Int) + 1))).bind fun v1 =>
    (some (IntKind.i64.wrap (v1 + 8))).bind fun v2 =>
    cond ((decide (64 < v2)))
      (some (.inl 128))
      (some (.inl 64)))
    (fun (s4 : Int) =>
      (mkO 1 s4 (0 : Int)).bind fun v9 =>
      (some (copyL v9 rest)).bind fun v10 =>
      (ixO (rest.length : Int) v10.length).bind fun v11 =>
      (some (v10.set v11 128)).bind fun v12 =>
      (some (IntKind.u64.wrap n)).bind fun v13 =>
      (shlO .u64 v13 3).bind fun v14 =>
      bindS (S := ((List Int))) (A := (List Int))
        (loopF (S := ((List Int) × Int)) (O := ((List Int)) ⊕ (List Int)) (fun ((s27, s28) : (List Int) × Int) =>
          cond ((decide (s28 < 8)))
            ((some (IntKind.i64.wrap (s4 - 8))).bind fun v16 =>
            (some (IntKind.i64.wrap (v16 + s28))).bind fun v17 =>
            (some (IntKind.i64.wrap (8 * s28))).bind fun v18 =>
            (shrO .u64 v14 v18).bind fun v19 =>
            (some (IntKind.u8.wrap v19)).bind fun v20 =>
            (ixO v17 s27.length).bind fun v21 =>
            (some (s27.set v21 v20)).bind fun v22 =>
            (some (IntKind.i64.wrap (s28 + 1))).bind fun v23 =>
            some (.inl (v22, v23)))
            (some (.inr (.inl s27))))
          BIG (v12, 0))
        (fun (s30 : (List Int)) =>
          some (s30)) some) some

def digest_Sum (b : (List Int)) : Option (List Int) :=
  (lnO 4 ((List.replicate 4 (0 : Int)))).bind fun v1 =>
  (lnO 4 ([1732584193, 4023233417, 2562383102, 271733878] : List Int)).bind fun v2 =>
  (quoO .i64 (b.length : Int) 64).bind fun v3 =>
  (some (IntKind.i64.wrap (v3 * 64))).bind fun v4 =>
  bindS (S := ((List Int))) (A := (List Int))
    (loopF (S := ((List Int) × Int)) (O := ((List Int)) ⊕ (List Int)) (fun ((s16, s17) : (List Int) × Int) =>
      cond ((decide (s17 < v4)))
        ((lnO 4 s16).bind fun v6 =>
        (some (IntKind.i64.wrap (s17 + 64))).bind fun v7 =>
        (sliO b s17 v7).bind fun v8 =>
        (digest_state_block s16 v8).bind fun v9 =>
        (lnO 4 s16).bind fun v10 =>
        (lnO 4 v9).bind fun v11 =>
        (some (IntKind.i64.wrap (s17 + 64))).bind fun v12 =>
        some (.inl (v9, v12)))
        (some (.inr (.inl s16))))
      BIG ((([1732584193, 4023233417, 2562383102, 271733878] : List Int), 0)))
    (fun (s19 : (List Int)) =>
      (sliO b v4 (b.length : Int)).bind fun v27 =>
      (digest_padded v27 (b.length : Int)).bind fun v28 =>
      bindS (S := ((List Int))) (A := (List Int))
        (loopF (S := ((List Int) × (List Int) × Int)) (O := ((List Int)) ⊕ (List Int)) (fun ((s41, s42, s43) : (List Int) × (List Int) × Int) =>
          cond ((decide (s43 < (s42.length : Int))))
            ((lnO 4 s41).bind fun v30 =>
            (some (IntKind.i64.wrap (s43 + 64))).bind fun v31 =>
            (sliO s42 s43 v31).bind fun v32 =>
            (digest_state_block s41 v32).bind fun v33 =>
            (lnO 4 s41).bind fun v34 =>
            (lnO 4 v33).bind fun v35 =>
            (some (IntKind.i64.wrap (s43 + 64))).bind fun v36 =>
            some (.inl (v33, s42, v36)))
            (some (.inr (.inl s41))))
          BIG (s19, v28, 0))
        (fun (s45 : (List Int)) =>
          bindS (S := ((List Int))) (A := (List Int))
            (loopF (S := ((List Int) × Int)) (O := ((List Int)) ⊕ (List Int)) (fun ((s67, s68) : (List Int) × Int) =>
              cond ((decide (s68 < 16)))
                ((quoO .i64 s68 4).bind fun v54 =>
                (ixO v54 4).bind fun v55 =>
                (getO s45 v55).bind fun v56 =>
                (remO s68 4).bind fun v57 =>
                (some (IntKind.i64.wrap (8 * v57))).bind fun v58 =>
                (shrO .u32 v56 v58).bind fun v59 =>
                (some (IntKind.u8.wrap v59)).bind fun v60 =>
                (ixO s68 16).bind fun v61 =>
                (setO s67 v61 v60).bind fun v62 =>
                (some (IntKind.i64.wrap (s68 + 1))).bind fun v63 =>
                some (.inl (v62, v63)))
                (some (.inr (.inl s67))))
              BIG (((List.replicate 16 (0 : Int)), 0)))
            (fun (s70 : (List Int)) =>
              (lnO 16 s70).bind fun v78 =>
              (lnO 16 ((List.replicate 16 (0 : Int)))).bind fun v79 =>
              (lnO 16 s70).bind fun v80 =>
              (lnO 16 s70).bind fun v81 =>
              some (s70)) some) some) some

def digest_Keyed (key : (List Int)) (text : (List Int)) : Option (List Int) :=
  bindS (S := (List Int)) (A := (List Int))
    (cond ((decide (64 < (key.length : Int))))
      ((digest_Sum key).bind fun v2 =>
      (lnO 16 ((List.replicate 16 (0 : Int)))).bind fun v3 =>
      (lnO 16 v2).bind fun v4 =>
      (lnO 16 v2).bind fun v5 =>
      (lnO 64 ((List.replicate 64 (0 : Int)))).bind fun v6 =>
      some (.inl (copyL ((List.replicate 64 (0 : Int))) v2)))
      ((lnO 64 ((List.replicate 64 (0 : Int)))).bind fun v7 =>
      some (.inl (copyL ((List.replicate 64 (0 : Int))) key))))
    (fun (s8 : (List Int)) =>
      (some (IntKind.i64.wrap (64 + (text.length : Int)))).bind fun v13 =>
      (mkcO 1 v13).bind fun v14 =>
      (mkcO 1 128).bind fun v15 =>
      (lnO 64 s8).bind fun v16 =>
      bindS (S := ((List Int) × (List Int))) (A := (List Int))
        (loopF (S := ((List Int) × (List Int) × Int)) (O := ((List Int) × (List Int)) ⊕ (List Int)) (fun ((s29, s30, s31) : (List Int) × (List Int) × Int) =>
          cond ((decide (s31 < 64)))
            ((ixO s31 64).bind fun v18 =>
            (getO s8 v18).bind fun v19 =>
            (some (bits .xor .u8 v19 54)).bind fun v20 =>
            (appO 1 s29 [v20]).bind fun v21 =>
            (some (bits .xor .u8 v19 92)).bind fun v22 =>
            (appO 1 s30 [v22]).bind fun v23 =>
            (some (IntKind.i64.wrap (s31 + 1))).bind fun v24 =>
            some (.inl (v21, v23, v24)))
            (some (.inr (.inl (s29, s30)))))
          BIG ((([] : List Int), ([] : List Int), 0)))
        (fun ((s33, s34) : (List Int) × (List Int)) =>
          (appO 1 s33 text).bind fun v42 =>
          (digest_Sum v42).bind fun v43 =>
          (lnO 16 ((List.replicate 16 (0 : Int)))).bind fun v44 =>
          (lnO 16 v43).bind fun v45 =>
          (lnO 16 v43).bind fun v46 =>
          (appO 1 s34 v43).bind fun v47 =>
          (digest_Sum v47).bind fun v48 =>
          (lnO 16 ((List.replicate 16 (0 : Int)))).bind fun v49 =>
          (lnO 16 v48).bind fun v50 =>
          (lnO 16 v48).bind fun v51 =>
          some (v48)) some) some

def wherrylaw09_wakes : Option Bool :=
  (digest_Sum [97, 98, 99]).bind fun v1 =>
  (lnO 16 ((List.replicate 16 (0 : Int)))).bind fun v2 =>
  (lnO 16 v1).bind fun v3 =>
  bindS (S := Bool) (A := Bool)
    ((ixO 0 16).bind fun v4 =>
    (getO v1 v4).bind fun v5 =>
    cond ((v5 == 144))
      ((ixO 1 16).bind fun v6 =>
      (getO v1 v6).bind fun v7 =>
      cond ((v7 == 1))
        ((ixO 14 16).bind fun v8 =>
        (getO v1 v8).bind fun v9 =>
        cond ((v9 == 127))
          ((ixO 15 16).bind fun v10 =>
          (getO v1 v10).bind fun v11 =>
          some (.inl (v11 == 114)))
          (some (.inl false)))
        (some (.inl false)))
      (some (.inl false)))
    (fun (s12 : Bool) =>
      some (s12)) some

def wherrykeep_Twin (l : (List Int)) : Option (List Int) :=
  (appO 1 ([] : List Int) l).bind fun v1 =>
  some (v1)

def wherrylaw09_DigestKeys (key : (List Int)) (text : (List Int)) (n : Int) : Option Bool :=
  bindS (S := Bool) (A := Bool)
    (cond ((decide (300 < (key.length : Int))))
      (some (.inl true))
      (some (.inl ((decide (300 < (text.length : Int)))))))
    (fun (s1 : Bool) =>
      cond (s1)
        (some (true))
        ((digest_Keyed key text).bind fun v6 =>
        (lnO 16 ((List.replicate 16 (0 : Int)))).bind fun v7 =>
        (lnO 16 v6).bind fun v8 =>
        cond ((decide (64 < (key.length : Int))))
          ((digest_Sum key).bind fun v10 =>
          (lnO 16 ((List.replicate 16 (0 : Int)))).bind fun v11 =>
          (lnO 16 v10).bind fun v12 =>
          bindS (S := Bool) (A := Bool)
            ((lnO 16 v10).bind fun v13 =>
            (digest_Keyed v10 text).bind fun v14 =>
            (lnO 16 v6).bind fun v15 =>
            (lnO 16 v14).bind fun v16 =>
            (lnO 16 v6).bind fun v17 =>
            cond ((v14 == v6))
              ((wherrylaw09_wakes ).bind fun v18 =>
              some (.inl v18))
              (some (.inl false)))
            (fun (s19 : Bool) =>
              some (s19)) some)
          ((wherrykeep_Twin key).bind fun v23 =>
          (some (IntKind.u64.wrap n)).bind fun v24 =>
          (some (IntKind.i64.wrap (65 - (key.length : Int)))).bind fun v25 =>
          (some (IntKind.u64.wrap v25)).bind fun v26 =>
          (remO v24 v26).bind fun v27 =>
          (some (IntKind.i64.wrap v27)).bind fun v28 =>
          bindS (S := ((List Int))) (A := Bool)
            (loopF (S := ((List Int) × Int)) (O := ((List Int)) ⊕ Bool) (fun ((s35, s36) : (List Int) × Int) =>
              cond ((decide (0 < s36)))
                ((appO 1 s35 [0]).bind fun v30 =>
                (some (IntKind.i64.wrap (s36 - 1))).bind fun v31 =>
                some (.inl (v30, v31)))
                (some (.inr (.inl s35))))
              BIG (v23, v28))
            (fun (s38 : (List Int)) =>
              bindS (S := Bool) (A := Bool)
                ((digest_Keyed s38 text).bind fun v46 =>
                (lnO 16 v6).bind fun v47 =>
                (lnO 16 v46).bind fun v48 =>
                (lnO 16 v6).bind fun v49 =>
                cond ((v46 == v6))
                  ((wherrylaw09_wakes ).bind fun v50 =>
                  some (.inl v50))
                  (some (.inl false)))
                (fun (s51 : Bool) =>
                  some (s51)) some) some))) some

end Go.Abs.Sh
