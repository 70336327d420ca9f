/-
  The program told in Lean: plain functions; none where Go would panic or a slice outgrow its room.
-/
import Derived.Test.YtjhpgfccojoajaaDoorAN
set_option linter.unusedVariables false
namespace Go.Abs.Sh

def wherrykeep_Twin (l : (List Int)) : Option (List Int) :=
  (appO 1 ([] : List Int) l).bind fun v1 =>
  some (v1)

def digest_sines : List Int := (3614090360 :: 3905402710 :: 606105819 :: 3250441966 :: 4118548399 :: 1200080426 :: 2821735955 :: 4249261313 :: 1770035416 :: 2336552879 :: 4294925233 :: 2304563134 :: 1804603682 :: 4254626195 :: 2792965006 :: 1236535329 :: 4129170786 :: 3225465664 :: 643717713 :: 3921069994 :: 3593408605 :: 38016083 :: 3634488961 :: 3889429448 :: 568446438 :: 3275163606 :: 4107603335 :: 1163531501 :: 2850285829 :: 4243563512 :: 1735328473 :: 2368359562 :: 4294588738 :: 2272392833 :: 1839030562 :: 4259657740 :: 2763975236 :: 1272893353 :: 4139469664 :: 3200236656 :: 681279174 :: 3936430074 :: 3572445317 :: 76029189 :: 3654602809 :: 3873151461 :: 530742520 :: 3299628645 :: 4096336452 :: 1126891415 :: 2878612391 :: 4237533241 :: 1700485571 :: 2399980690 :: 4293915773 :: 2240044497 :: 1873313359 :: 4264355552 :: 2734768916 :: 1309151649 :: 4149444226 :: 3174756917 :: 718787259 :: 3951481745 :: [])

def digest_step (i : Int) (q : Int) (p_r : Int) (t : Int) : Option (Int × Int) :=
  (quoO .i64 i 16).bind fun v1 =>
  cond ((v1 == 0))
    ((some (bits .and .u32 q p_r)).bind fun v3 =>
    (some (bits .xor .u32 4294967295 q)).bind fun v4 =>
    (some (bits .and .u32 v4 t)).bind fun v5 =>
    (some (bits .or .u32 v3 v5)).bind fun v6 =>
    some ((v6, i)))
    (cond ((v1 == 1))
      ((some (bits .and .u32 q t)).bind fun v8 =>
      (some (bits .andNot .u32 p_r t)).bind fun v9 =>
      (some (bits .or .u32 v8 v9)).bind fun v10 =>
      (some (IntKind.i64.wrap (5 * i))).bind fun v11 =>
      (some (IntKind.i64.wrap (v11 + 1))).bind fun v12 =>
      (remO v12 16).bind fun v13 =>
      some ((v10, v13)))
      (cond ((v1 == 2))
        ((some (bits .xor .u32 q p_r)).bind fun v15 =>
        (some (bits .xor .u32 v15 t)).bind fun v16 =>
        (some (IntKind.i64.wrap (3 * i))).bind fun v17 =>
        (some (IntKind.i64.wrap (v17 + 5))).bind fun v18 =>
        (remO v18 16).bind fun v19 =>
        some ((v16, v19)))
        ((some (bits .xor .u32 4294967295 t)).bind fun v20 =>
        (some (bits .or .u32 q v20)).bind fun v21 =>
        (some (bits .xor .u32 p_r v21)).bind fun v22 =>
        (some (IntKind.i64.wrap (7 * i))).bind fun v23 =>
        (remO v23 16).bind fun v24 =>
        some ((v22, v24)))))

def digest_turns : List Int := (7 :: 12 :: 17 :: 22 :: 5 :: 9 :: 14 :: 20 :: 4 :: 11 :: 16 :: 23 :: 6 :: 10 :: 15 :: 21 :: [])

def digest_state_block (s : (List Int)) (b : (List Int)) : Option (List Int) :=
  bindS (S := ((List Int))) (A := (List Int))
    (loopF (S := ((List Int) × Int)) (O := ((List Int)) ⊕ (List Int)) (fun ((s18, s19) : (List Int) × Int) =>
      cond ((decide (s19 < (b.length : Int))))
        ((ixO s19 b.length).bind fun v2 =>
        (getO b v2).bind fun v3 =>
        (quoO .i64 s19 4).bind fun v4 =>
        (ixO v4 16).bind fun v5 =>
        (getO s18 v5).bind fun v6 =>
        (some (IntKind.u32.wrap v3)).bind fun v7 =>
        (remO s19 4).bind fun v8 =>
        (some (IntKind.i64.wrap (8 * v8))).bind fun v9 =>
        (shlO .u32 v7 v9).bind fun v10 =>
        (some (bits .or .u32 v6 v10)).bind fun v11 =>
        (ixO v4 16).bind fun v12 =>
        (setO s18 v12 v11).bind fun v13 =>
        (some (IntKind.i64.wrap (s19 + 1))).bind fun v14 =>
        some (.inl (v13, v14)))
        (some (.inr (.inl s18))))
      BIG (((List.replicate 16 (0 : Int)), 0)))
    (fun (s21 : (List Int)) =>
      (ixO 0 4).bind fun v29 =>
      (getO s v29).bind fun v30 =>
      (ixO 1 4).bind fun v31 =>
      (getO s v31).bind fun v32 =>
      (ixO 2 4).bind fun v33 =>
      (getO s v33).bind fun v34 =>
      (ixO 3 4).bind fun v35 =>
      (getO s v35).bind fun v36 =>
      bindS (S := (Int × Int × Int × Int)) (A := (List Int))
        (loopF (S := (Int × Int × Int × Int × Int)) (O := (Int × Int × Int × Int) ⊕ (List Int)) (fun ((s63, s64, s65, s66, s67) : Int × Int × Int × Int × Int) =>
          cond ((decide (s67 < 64)))
            ((ixO s67 64).bind fun v38 =>
            (getO digest_sines v38).bind fun v39 =>
            (digest_step s67 s64 s65 s66).bind fun v40 =>
            (some (IntKind.u32.wrap (s63 + v39))).bind fun v41 =>
            (ixO v40.2 16).bind fun v42 =>
            (getO s21 v42).bind fun v43 =>
            (some (IntKind.u32.wrap (v41 + v43))).bind fun v44 =>
            (some (IntKind.u32.wrap (v40.1 + v44))).bind fun v45 =>
            (quoO .i64 s67 16).bind fun v46 =>
            (remO s67 4).bind fun v47 =>
            (ixO v46 4).bind fun v48 =>
            (ixO v47 4).bind fun v49 =>
            (getO digest_turns (((0 + v48 * 4) + v49 * 1))).bind fun v50 =>
            (shlO .u32 v45 v50).bind fun v51 =>
            (some (IntKind.i64.wrap (32 - v50))).bind fun v52 =>
            (shrO .u32 v45 v52).bind fun v53 =>
            (some (bits .or .u32 v51 v53)).bind fun v54 =>
            (some (IntKind.u32.wrap (s64 + v54))).bind fun v55 =>
            (some (IntKind.i64.wrap (s67 + 1))).bind fun v56 =>
            some (.inl (s66, v55, s64, s65, v56)))
            (some (.inr (.inl (s63, s64, s65, s66)))))
          BIG (v30, v32, v34, v36, 0))
        (fun ((s69, s70, s71, s72) : Int × Int × Int × Int) =>
          (ixO 0 4).bind fun v80 =>
          (getO s v80).bind fun v81 =>
          (some (IntKind.u32.wrap (v81 + s69))).bind fun v82 =>
          (ixO 1 4).bind fun v83 =>
          (getO s v83).bind fun v84 =>
          (some (IntKind.u32.wrap (v84 + s70))).bind fun v85 =>
          (ixO 2 4).bind fun v86 =>
          (getO s v86).bind fun v87 =>
          (some (IntKind.u32.wrap (v87 + s71))).bind fun v88 =>
          (ixO 3 4).bind fun v89 =>
          (getO s v89).bind fun v90 =>
          (some (IntKind.u32.wrap (v90 + s72))).bind fun v91 =>
          (lnO 4 ((List.replicate 4 (0 : Int)))).bind fun v92 =>
          (lnO 4 ([v82, v85, v88, v91] : List Int)).bind fun v93 =>
          (lnO 4 ([v82, v85, v88, v91] : List Int)).bind fun v94 =>
          some (([v82, v85, v88, v91] : List Int))) some) some

def digest_padded (rest : (List Int)) (n : Int) : Option (List Int) :=
  bindS (S := Int) (A := (List Int))
    ((some (IntKind.i64.wrap ((rest.length : Int) + 1))).bind fun v1 =>
    (some (IntKind.i64.wrap (v1 + 8))).bind fun v2 =>
    cond ((decide (64 < v2)))
      (some (.inl 128))
      (some (.inl 64)))
    (fun (s4 : Int) =>
      (mkO 1 s4 (0 : Int)).bind fun v9 =>
      (some (copyL v9 rest)).bind fun v10 =>
      (ixO (rest.length : Int) v10.length).bind fun v11 =>
      (some (v10.set v11 128)).bind fun v12 =>
      (some (IntKind.u64.wrap n)).bind fun v13 =>
      (shlO .u64 v13 3).bind fun v14 =>
      bindS (S := ((List Int))) (A := (List Int))
        (loopF (S := ((List Int) × Int)) (O := ((List Int)) ⊕ (List Int)) (fun ((s27, s28) : (List Int) × Int) =>
          cond ((decide (s28 < 8)))
            ((some (IntKind.i64.wrap (s4 - 8))).bind fun v16 =>
            (some (IntKind.i64.wrap (v16 + s28))).bind fun v17 =>
            (some (IntKind.i64.wrap (8 * s28))).bind fun v18 =>
            (shrO .u64 v14 v18).bind fun v19 =>
            (some (IntKind.u8.wrap v19)).bind fun v20 =>
            (ixO v17 s27.length).bind fun v21 =>
            (some (s27.set v21 v20)).bind fun v22 =>
            (some (IntKind.i64.wrap (s28 + 1))).bind fun v23 =>
            some (.inl (v22, v23)))
            (some (.inr (.inl s27))))
          BIG (v12, 0))
        (fun (s30 : (List Int)) =>
          some (s30)) some) some

def digest_Sum (b : (List Int)) : Option (List Int) :=
  (lnO 4 ((List.replicate 4 (0 : Int)))).bind fun v1 =>
  (lnO 4 ([1732584193, 4023233417, 2562383102, 271733878] : List Int)).bind fun v2 =>
  (quoO .i64 (b.length : Int) 64).bind fun v3 =>
  (some (IntKind.i64.wrap (v3 * 64))).bind fun v4 =>
  bindS (S := ((List Int))) (A := (List Int))
    (loopF (S := ((List Int) × Int)) (O := ((List Int)) ⊕ (List Int)) (fun ((s16, s17) : (List Int) × Int) =>
      cond ((decide (s17 < v4)))
        ((lnO 4 s16).bind fun v6 =>
        (some (IntKind.i64.wrap (s17 + 64))).bind fun v7 =>
        (sliO b s17 v7).bind fun v8 =>
        (digest_state_block s16 v8).bind fun v9 =>
        (lnO 4 s16).bind fun v10 =>
        (lnO 4 v9).bind fun v11 =>
        (some (IntKind.i64.wrap (s17 + 64))).bind fun v12 =>
        some (.inl (v9, v12)))
        (some (.inr (.inl s16))))
      BIG ((([1732584193, 4023233417, 2562383102, 271733878] : List Int), 0)))
    (fun (s19 : (List Int)) =>
      (sliO b v4 (b.length : Int)).bind fun v27 =>
      (digest_padded v27 (b.length : Int)).bind fun v28 =>
      bindS (S := ((List Int))) (A := (List Int))
        (loopF (S := ((List Int) × (List Int) × Int)) (O := ((List Int)) ⊕ (List Int)) (fun ((s41, s42, s43) : (List Int) × (List Int) × Int) =>
          cond ((decide (s43 < (s42.length : Int))))
            ((lnO 4 s41).bind fun v30 =>
            (some (IntKind.i64.wrap (s43 + 64))).bind fun v31 =>
            (sliO s42 s43 v31).bind fun v32 =>
            (digest_state_block s41 v32).bind fun v33 =>
            (lnO 4 s41).bind fun v34 =>
            (lnO 4 v33).bind fun v35 =>
            (some (IntKind.i64.wrap (s43 + 64))).bind fun v36 =>
            some (.inl (v33, s42, v36)))
            (some (.inr (.inl s41))))
          BIG (s19, v28, 0))
        (fun (s45 : (List Int)) =>
          bindS (S := ((List Int))) (A := (List Int))
            (loopF (S := ((List Int) × Int)) (O := ((List Int)) ⊕ (List Int)) (fun ((s67, s68) : (List Int) × Int) =>
              cond ((decide (s68 < 16)))
                ((quoO .i64 s68 4).bind fun v54 =>
                (ixO v54 4).bind fun v55 =>
                (getO s45 v55).bind fun v56 =>
                (remO s68 4).bind fun v57 =>
                (some (IntKind.i64.wrap (8 * v57))).bind fun v58 =>
                (shrO .u32 v56 v58).bind fun v59 =>
                (some (IntKind.u8.wrap v59)).bind fun v60 =>
                (ixO s68 16).bind fun v61 =>
                (setO s67 v61 v60).bind fun v62 =>
                (some (IntKind.i64.wrap (s68 + 1))).bind fun v63 =>
                some (.inl (v62, v63)))
                (some (.inr (.inl s67))))
              BIG (((List.replicate 16 (0 : Int)), 0)))
            (fun (s70 : (List Int)) =>
              (lnO 16 s70).bind fun v78 =>
              (lnO 16 ((List.replicate 16 (0 : Int)))).bind fun v79 =>
              (lnO 16 s70).bind fun v80 =>
              (lnO 16 s70).bind fun v81 =>
              some (s70)) some) some) some

def wherryref08_sines : Option (List Int) :=
  some ([3614090360, 3905402710, 606105819, 3250441966, 4118548399, 1200080426, 2821735955, 4249261313, 1770035416, 2336552879, 4294925233, 2304563134, 1804603682, 4254626195, 2792965006, 1236535329, 4129170786, 3225465664, 643717713, 3921069994, 3593408605, 38016083, 3634488961, 3889429448, 568446438, 3275163606, 4107603335, 1163531501, 2850285829, 4243563512, 1735328473, 2368359562, 4294588738, 2272392833, 1839030562, 4259657740, 2763975236, 1272893353, 4139469664, 3200236656, 681279174, 3936430074, 3572445317, 76029189, 3654602809, 3873151461, 530742520, 3299628645, 4096336452, 1126891415, 2878612391, 4237533241, 1700485571, 2399980690, 4293915773, 2240044497, 1873313359, 4264355552, 2734768916, 1309151649, 4149444226, 3174756917, 718787259, 3951481745])

def wherryref08_word (x : (List Int)) (at_ : Int) : Option Int :=
  (ixO at_ x.length).bind fun v1 =>
  (getO x v1).bind fun v2 =>
  (some (IntKind.u32.wrap v2)).bind fun v3 =>
  (some (IntKind.i64.wrap (at_ + 1))).bind fun v4 =>
  (ixO v4 x.length).bind fun v5 =>
  (getO x v5).bind fun v6 =>
  (some (IntKind.u32.wrap v6)).bind fun v7 =>
  (shlO .u32 v7 8).bind fun v8 =>
  (some (bits .or .u32 v3 v8)).bind fun v9 =>
  (some (IntKind.i64.wrap (at_ + 2))).bind fun v10 =>
  (ixO v10 x.length).bind fun v11 =>
  (getO x v11).bind fun v12 =>
  (some (IntKind.u32.wrap v12)).bind fun v13 =>
  (shlO .u32 v13 16).bind fun v14 =>
  (some (bits .or .u32 v9 v14)).bind fun v15 =>
  (some (IntKind.i64.wrap (at_ + 3))).bind fun v16 =>
  (ixO v16 x.length).bind fun v17 =>
  (getO x v17).bind fun v18 =>
  (some (IntKind.u32.wrap v18)).bind fun v19 =>
  (shlO .u32 v19 24).bind fun v20 =>
  (some (bits .or .u32 v15 v20)).bind fun v21 =>
  some (v21)

def wherryref08_turns (i : Int) : Option Int :=
  (quoO .i64 i 16).bind fun v1 =>
  (some (IntKind.i64.wrap (v1 * 4))).bind fun v2 =>
  (remO i 4).bind fun v3 =>
  (some (IntKind.i64.wrap (v2 + v3))).bind fun v4 =>
  (ixO v4 [7, 12, 17, 22, 5, 9, 14, 20, 4, 11, 16, 23, 6, 10, 15, 21].length).bind fun v5 =>
  (getO [7, 12, 17, 22, 5, 9, 14, 20, 4, 11, 16, 23, 6, 10, 15, 21] v5).bind fun v6 =>
  some (v6)

def wherryref08_Sum (b : (List Int)) : Option (List Int) :=
  (wherrykeep_Twin b).bind fun v1 =>
  (appO 1 v1 [128]).bind fun v2 =>
  bindS (S := ((List Int))) (A := (List Int))
    (loopF (S := ((List Int))) (O := ((List Int)) ⊕ (List Int)) (fun (s8 : (List Int)) =>
      (remO (s8.length : Int) 64).bind fun v3 =>
      cond ((v3 != 56))
        ((appO 1 s8 [0]).bind fun v5 =>
        some (.inl v5))
        (some (.inr (.inl s8))))
      BIG v2)
    (fun (s10 : (List Int)) =>
      bindS (S := ((List Int))) (A := (List Int))
        (loopF (S := ((List Int) × Int)) (O := ((List Int)) ⊕ (List Int)) (fun ((s30, s31) : (List Int) × Int) =>
          cond ((decide (s31 < 8)))
            ((some (IntKind.i64.wrap (8 * (b.length : Int)))).bind fun v19 =>
            (some (IntKind.u64.wrap v19)).bind fun v20 =>
            (some (IntKind.i64.wrap (8 * s31))).bind fun v21 =>
            (some (IntKind.u64.wrap v21)).bind fun v22 =>
            (shrO .u64 v20 v22).bind fun v23 =>
            (some (IntKind.u8.wrap v23)).bind fun v24 =>
            (appO 1 s30 [v24]).bind fun v25 =>
            (some (IntKind.i64.wrap (s31 + 1))).bind fun v26 =>
            some (.inl (v25, v26)))
            (some (.inr (.inl s30))))
          BIG (s10, 0))
        (fun (s33 : (List Int)) =>
          (wherryref08_sines ).bind fun v41 =>
          bindS (S := ((List Int))) (A := (List Int))
            (loopF (S := ((List Int) × Int)) (O := ((List Int)) ⊕ (List Int)) (fun ((s376, s377) : (List Int) × Int) =>
              cond ((decide (s377 < (s33.length : Int))))
                ((ixO 0 s376.length).bind fun v43 =>
                (getO s376 v43).bind fun v44 =>
                (ixO 1 s376.length).bind fun v45 =>
                (getO s376 v45).bind fun v46 =>
                (ixO 2 s376.length).bind fun v47 =>
                (getO s376 v47).bind fun v48 =>
                (ixO 3 s376.length).bind fun v49 =>
                (getO s376 v49).bind fun v50 =>
                bindS (S := (Int × Int × Int × Int)) (A := (((List Int) × Int) ⊕ (((List Int)) ⊕ (List Int))))
                  (loopF (S := (Int × Int × Int × Int × Int)) (O := (Int × Int × Int × Int) ⊕ (((List Int) × Int) ⊕ (((List Int)) ⊕ (List Int)))) (fun ((s580, s581, s582, s583, s584) : Int × Int × Int × Int × Int) =>
                    cond ((decide (s584 < 64)))
                      (bindS (S := Int × Int) (A := ((Int × Int × Int × Int × Int) ⊕ ((Int × Int × Int × Int) ⊕ (((List Int) × Int) ⊕ (((List Int)) ⊕ (List Int))))))
                        ((quoO .i64 s584 16).bind fun v52 =>
                        bindS (S := Int × Int) (A := ((Int × Int) ⊕ ((Int × Int × Int × Int × Int) ⊕ ((Int × Int × Int × Int) ⊕ (((List Int) × Int) ⊕ (((List Int)) ⊕ (List Int)))))))
                          (cond ((v52 == 0))
                            ((some (bits .and .u32 s581 s582)).bind fun v54 =>
                            (some (bits .xor .u32 4294967295 s581)).bind fun v55 =>
                            (some (bits .and .u32 v55 s583)).bind fun v56 =>
                            (some (bits .or .u32 v54 v56)).bind fun v57 =>
                            some (.inl (v57, s584)))
                            (cond ((v52 == 1))
                              ((some (bits .and .u32 s583 s581)).bind fun v59 =>
                              (some (bits .xor .u32 4294967295 s583)).bind fun v60 =>
                              (some (bits .and .u32 v60 s582)).bind fun v61 =>
                              (some (bits .or .u32 v59 v61)).bind fun v62 =>
                              (some (IntKind.i64.wrap (5 * s584))).bind fun v63 =>
                              (some (IntKind.i64.wrap (v63 + 1))).bind fun v64 =>
                              (remO v64 16).bind fun v65 =>
                              some (.inl (v62, v65)))
                              (cond ((v52 == 2))
                                ((some (bits .xor .u32 s581 s582)).bind fun v67 =>
                                (some (bits .xor .u32 v67 s583)).bind fun v68 =>
                                (some (IntKind.i64.wrap (3 * s584))).bind fun v69 =>
                                (some (IntKind.i64.wrap (v69 + 5))).bind fun v70 =>
                                (remO v70 16).bind fun v71 =>
                                some (.inl (v68, v71)))
                                ((some (bits .xor .u32 4294967295 s583)).bind fun v72 =>
                                (some (bits .or .u32 s581 v72)).bind fun v73 =>
                                (some (bits .xor .u32 s582 v73)).bind fun v74 =>
                                (some (IntKind.i64.wrap (7 * s584))).bind fun v75 =>
                                (remO v75 16).bind fun v76 =>
                                some (.inl (v74, v76))))))
                          (fun ((s643, s644) : Int × Int) =>
                            some (.inl (s643, s644))) some)
                        (fun ((s635, s636) : Int × Int) =>
                          (some (IntKind.u32.wrap (s635 + s580))).bind fun v101 =>
                          (ixO s584 v41.length).bind fun v102 =>
                          (getO v41 v102).bind fun v103 =>
                          (some (IntKind.u32.wrap (v101 + v103))).bind fun v104 =>
                          (some (IntKind.i64.wrap (4 * s636))).bind fun v105 =>
                          (some (IntKind.i64.wrap (s377 + v105))).bind fun v106 =>
                          (wherryref08_word s33 v106).bind fun v107 =>
                          (some (IntKind.u32.wrap (v104 + v107))).bind fun v108 =>
                          (wherryref08_turns s584).bind fun v109 =>
                          (shlO .u32 v108 v109).bind fun v110 =>
                          (some (IntKind.u64.wrap (32 - v109))).bind fun v111 =>
                          (shrO .u32 v108 v111).bind fun v112 =>
                          (some (bits .or .u32 v110 v112)).bind fun v113 =>
                          (some (IntKind.u32.wrap (s581 + v113))).bind fun v114 =>
                          (some (IntKind.i64.wrap (s584 + 1))).bind fun v115 =>
                          some (.inl (s583, v114, s581, s582, v115))) some)
                      (some (.inr (.inl (s580, s581, s582, s583)))))
                    BIG (v44, v46, v48, v50, 0))
                  (fun ((s613, s614, s615, s616) : Int × Int × Int × Int) =>
                    (ixO 0 s376.length).bind fun v220 =>
                    (getO s376 v220).bind fun v221 =>
                    (some (IntKind.u32.wrap (v221 + s613))).bind fun v222 =>
                    (ixO 1 s376.length).bind fun v223 =>
                    (getO s376 v223).bind fun v224 =>
                    (some (IntKind.u32.wrap (v224 + s614))).bind fun v225 =>
                    (ixO 2 s376.length).bind fun v226 =>
                    (getO s376 v226).bind fun v227 =>
                    (some (IntKind.u32.wrap (v227 + s615))).bind fun v228 =>
                    (ixO 3 s376.length).bind fun v229 =>
                    (getO s376 v229).bind fun v230 =>
                    (some (IntKind.u32.wrap (v230 + s616))).bind fun v231 =>
                    (ixO 0 s376.length).bind fun v232 =>
                    (some (s376.set v232 v222)).bind fun v233 =>
                    (ixO 1 v233.length).bind fun v234 =>
                    (some (v233.set v234 v225)).bind fun v235 =>
                    (ixO 2 v235.length).bind fun v236 =>
                    (some (v235.set v236 v228)).bind fun v237 =>
                    (ixO 3 v237.length).bind fun v238 =>
                    (some (v237.set v238 v231)).bind fun v239 =>
                    (some (IntKind.i64.wrap (s377 + 64))).bind fun v240 =>
                    some (.inl (v239, v240))) some)
                (some (.inr (.inl s376))))
              BIG ([1732584193, 4023233417, 2562383102, 271733878], 0))
            (fun (s511 : (List Int)) =>
              bindS (S := ((List Int))) (A := (List Int))
                (loopF (S := ((List Int) × Int)) (O := ((List Int)) ⊕ (List Int)) (fun ((s666, s667) : (List Int) × Int) =>
                  cond ((decide (s667 < 16)))
                    ((quoO .i64 s667 4).bind fun v652 =>
                    (ixO v652 s511.length).bind fun v653 =>
                    (getO s511 v653).bind fun v654 =>
                    (remO s667 4).bind fun v655 =>
                    (some (IntKind.i64.wrap (8 * v655))).bind fun v656 =>
                    (some (IntKind.u64.wrap v656)).bind fun v657 =>
                    (shrO .u32 v654 v657).bind fun v658 =>
                    (some (IntKind.u8.wrap v658)).bind fun v659 =>
                    (ixO s667 16).bind fun v660 =>
                    (setO s666 v660 v659).bind fun v661 =>
                    (some (IntKind.i64.wrap (s667 + 1))).bind fun v662 =>
                    some (.inl (v661, v662)))
                    (some (.inr (.inl s666))))
                  BIG (((List.replicate 16 (0 : Int)), 0)))
                (fun (s669 : (List Int)) =>
                  (lnO 16 s669).bind fun v677 =>
                  (lnO 16 ((List.replicate 16 (0 : Int)))).bind fun v678 =>
                  (lnO 16 s669).bind fun v679 =>
                  (lnO 16 s669).bind fun v680 =>
                  some (s669)) some) some) some) some

def digest_Keyed (key : (List Int)) (text : (List Int)) : Option (List Int) :=
  bindS (S := (List Int)) (A := (List Int))
    (cond ((decide (64 < (key.length : Int))))
      ((digest_Sum key).bind fun v2 =>
      (lnO 16 ((List.replicate 16 (0 : Int)))).bind fun v3 =>
      (lnO 16 v2).bind fun v4 =>
      (lnO 16 v2).bind fun v5 =>
      (lnO 64 ((List.replicate 64 (0 : Int)))).bind fun v6 =>
      some (.inl (copyL ((List.replicate 64 (0 : Int))) v2)))
      ((lnO 64 ((List.replicate 64 (0 : Int)))).bind fun v7 =>
      some (.inl (copyL ((List.replicate 64 (0 : Int))) key))))
    (fun (s8 : (List Int)) =>
      (some (IntKind.i64.wrap (64 + (text.length : Int)))).bind fun v13 =>
      (mkcO 1 v13).bind fun v14 =>
      (mkcO 1 128).bind fun v15 =>
      (lnO 64 s8).bind fun v16 =>
      bindS (S := ((List Int) × (List Int))) (A := (List Int))
        (loopF (S := ((List Int) × (List Int) × Int)) (O := ((List Int) × (List Int)) ⊕ (List Int)) (fun ((s29, s30, s31) : (List Int) × (List Int) × Int) =>
          cond ((decide (s31 < 64)))
            ((ixO s31 64).bind fun v18 =>
            (getO s8 v18).bind fun v19 =>
            (some (bits .xor .u8 v19 54)).bind fun v20 =>
            (appO 1 s29 [v20]).bind fun v21 =>
            (some (bits .xor .u8 v19 92)).bind fun v22 =>
            (appO 1 s30 [v22]).bind fun v23 =>
            (some (IntKind.i64.wrap (s31 + 1))).bind fun v24 =>
            some (.inl (v21, v23, v24)))
            (some (.inr (.inl (s29, s30)))))
          BIG ((([] : List Int), ([] : List Int), 0)))
        (fun ((s33, s34) : (List Int) × (List Int)) =>
          (appO 1 s33 text).bind fun v42 =>
          (digest_Sum v42).bind fun v43 =>
          (lnO 16 ((List.replicate 16 (0 : Int)))).bind fun v44 =>
          (lnO 16 v43).bind fun v45 =>
          (lnO 16 v43).bind fun v46 =>
          (appO 1 s34 v43).bind fun v47 =>
          (digest_Sum v47).bind fun v48 =>
          (lnO 16 ((List.replicate 16 (0 : Int)))).bind fun v49 =>
          (lnO 16 v48).bind fun v50 =>
          (lnO 16 v48).bind fun v51 =>
          some (v48)) some) some

def wherryref08_Keyed (key : (List Int)) (text : (List Int)) : Option (List Int) :=
  (wherrykeep_Twin key).bind fun v1 =>
  bindS (S := (List Int)) (A := (List Int))
    (cond ((decide (64 < (v1.length : Int))))
      ((wherryref08_Sum v1).bind fun v3 =>
      (lnO 16 ((List.replicate 16 (0 : Int)))).bind fun v4 =>
      (lnO 16 v3).bind fun v5 =>
      (lnO 16 v3).bind fun v6 =>
      (wherrykeep_Twin v3).bind fun v7 =>
      some (.inl v7))
      (some (.inl v1)))
    (fun (s8 : (List Int)) =>
      bindS (S := ((List Int))) (A := (List Int))
        (loopF (S := ((List Int))) (O := ((List Int)) ⊕ (List Int)) (fun (s17 : (List Int)) =>
          cond ((decide ((s17.length : Int) < 64)))
            ((appO 1 s17 [0]).bind fun v14 =>
            some (.inl v14))
            (some (.inr (.inl s17))))
          BIG s8)
        (fun (s19 : (List Int)) =>
          bindS (S := ((List Int) × (List Int))) (A := (List Int))
            (loopF (S := ((List Int) × (List Int) × Int)) (O := ((List Int) × (List Int)) ⊕ (List Int)) (fun ((s41, s42, s43) : (List Int) × (List Int) × Int) =>
              cond ((decide (s43 < 64)))
                ((ixO s43 s19.length).bind fun v28 =>
                (getO s19 v28).bind fun v29 =>
                (some (bits .xor .u8 v29 54)).bind fun v30 =>
                (appO 1 s41 [v30]).bind fun v31 =>
                (ixO s43 s19.length).bind fun v32 =>
                (getO s19 v32).bind fun v33 =>
                (some (bits .xor .u8 v33 92)).bind fun v34 =>
                (appO 1 s42 [v34]).bind fun v35 =>
                (some (IntKind.i64.wrap (s43 + 1))).bind fun v36 =>
                some (.inl (v31, v35, v36)))
                (some (.inr (.inl (s41, s42)))))
              BIG ([], [], 0))
            (fun ((s45, s46) : (List Int) × (List Int)) =>
              (appO 1 s45 text).bind fun v54 =>
              (wherryref08_Sum v54).bind fun v55 =>
              (lnO 16 ((List.replicate 16 (0 : Int)))).bind fun v56 =>
              (lnO 16 v55).bind fun v57 =>
              (lnO 16 v55).bind fun v58 =>
              (appO 1 s46 v55).bind fun v59 =>
              (wherryref08_Sum v59).bind fun v60 =>
              (lnO 16 ((List.replicate 16 (0 : Int)))).bind fun v61 =>
              (lnO 16 v60).bind fun v62 =>
              (lnO 16 v60).bind fun v63 =>
              some (v60)) some) some) some

def wherrykeep_Bytes (a : (List Int)) (b : (List Int)) : Option Bool :=
  cond (((a.length : Int) != (b.length : Int)))
    (some (false))
    (bindS (S := (Unit)) (A := Bool)
      (loopF (S := (Int)) (O := (Unit) ⊕ Bool) (fun (s12 : Int) =>
        cond ((decide (s12 < (a.length : Int))))
          ((ixO s12 a.length).bind fun v3 =>
          (getO a v3).bind fun v4 =>
          (ixO s12 b.length).bind fun v5 =>
          (getO b v5).bind fun v6 =>
          cond ((v4 != v6))
            (some (.inr (.inr (false))))
            ((some (IntKind.i64.wrap (s12 + 1))).bind fun v8 =>
            some (.inl v8)))
          (some (.inr (.inl ()))))
        BIG 0)
      (fun (() : Unit) =>
        some (true)) some)

def wherrylaw09_wakes : Option Bool :=
  (digest_Sum [97, 98, 99]).bind fun v1 =>
  (lnO 16 ((List.replicate 16 (0 : Int)))).bind fun v2 =>
  (lnO 16 v1).bind fun v3 =>
  bindS (S := Bool) (A := Bool)
    ((ixO 0 16).bind fun v4 =>
    (getO v1 v4).bind fun v5 =>
    cond ((v5 == 144))
      ((ixO 1 16).bind fun v6 =>
      (getO v1 v6).bind fun v7 =>
      cond ((v7 == 1))
        ((ixO 14 16).bind fun v8 =>
        (getO v1 v8).bind fun v9 =>
        cond ((v9 == 127))
          ((ixO 15 16).bind fun v10 =>
          (getO v1 v10).bind fun v11 =>
          some (.inl (v11 == 114)))
          (some (.inl false)))
        (some (.inl false)))
      (some (.inl false)))
    (fun (s12 : Bool) =>
      some (s12)) some

def wherrylaw09_DigestExact (key : (List Int)) (text : (List Int)) : Option Bool :=
  bindS (S := Bool) (A := Bool)
    (cond ((decide (300 < (key.length : Int))))
      (some (.inl true))
      (some (.inl ((decide (600 < (text.length : Int)))))))
    (fun (s1 : Bool) =>
      cond (s1)
        (some (true))
        ((wherrykeep_Twin key).bind fun v6 =>
        (wherrykeep_Twin text).bind fun v7 =>
        bindS (S := Bool) (A := Bool)
          ((digest_Sum v7).bind fun v8 =>
          (wherryref08_Sum text).bind fun v9 =>
          (lnO 16 v8).bind fun v10 =>
          (lnO 16 v9).bind fun v11 =>
          cond ((v8 == v9))
            ((digest_Keyed v6 v7).bind fun v12 =>
            (wherryref08_Keyed key text).bind fun v13 =>
            (lnO 16 v12).bind fun v14 =>
            (lnO 16 v13).bind fun v15 =>
            cond ((v12 == v13))
              ((wherrykeep_Bytes v6 key).bind fun v16 =>
              cond (v16)
                ((wherrykeep_Bytes v7 text).bind fun v17 =>
                cond (v17)
                  ((wherrylaw09_wakes ).bind fun v18 =>
                  some (.inl v18))
                  (some (.inl false)))
                (some (.inl false)))
              (some (.inl false)))
            (some (.inl false)))
          (fun (s19 : Bool) =>
            some (s19)) some)) some

def wherrylaw09_DigestKeys (key : (List Int)) (text : (List Int)) (n : Int) : Option Bool :=
  bindS (S := Bool) (A := Bool)
    (cond ((decide (300 < (key.length : Int))))
      (some (.inl true))
      (some (.inl ((decide (300 < (text.length : Int)))))))
    (fun (s1 : Bool) =>
      cond (s1)
        (some (true))
        ((digest_Keyed key text).bind fun v6 =>
        (lnO 16 ((List.replicate 16 (0 : Int)))).bind fun v7 =>
        (lnO 16 v6).bind fun v8 =>
        cond ((decide (64 < (key.length : Int))))
          ((digest_Sum key).bind fun v10 =>
          (lnO 16 ((List.replicate 16 (0 : Int)))).bind fun v11 =>
          (lnO 16 v10).bind fun v12 =>
          bindS (S := Bool) (A := Bool)
            ((lnO 16 v10).bind fun v13 =>
            (digest_Keyed v10 text).bind fun v14 =>
            (lnO 16 v6).bind fun v15 =>
            (lnO 16 v14).bind fun v16 =>
            (lnO 16 v6).bind fun v17 =>
            cond ((v14 == v6))
              ((wherrylaw09_wakes ).bind fun v18 =>
              some (.inl v18))
              (some (.inl false)))
            (fun (s19 : Bool) =>
              some (s19)) some)
          ((wherrykeep_Twin key).bind fun v23 =>
          (some (IntKind.u64.wrap n)).bind fun v24 =>
          (some (IntKind.i64.wrap (65 - (key.length : Int)))).bind fun v25 =>
          (some (IntKind.u64.wrap v25)).bind fun v26 =>
          (remO v24 v26).bind fun v27 =>
          (some (IntKind.i64.wrap v27)).bind fun v28 =>
          bindS (S := ((List Int))) (A := Bool)
            (loopF (S := ((List Int) × Int)) (O := ((List Int)) ⊕ Bool) (fun ((s35, s36) : (List Int) × Int) =>
              cond ((decide (0 < s36)))
                ((appO 1 s35 [0]).bind fun v30 =>
                (some (IntKind.i64.wrap (s36 - 1))).bind fun v31 =>
                some (.inl (v30, v31)))
                (some (.inr (.inl s35))))
              BIG (v23, v28))
            (fun (s38 : (List Int)) =>
              bindS (S := Bool) (A := Bool)
                ((digest_Keyed s38 text).bind fun v46 =>
                (lnO 16 v6).bind fun v47 =>
                (lnO 16 v46).bind fun v48 =>
                (lnO 16 v6).bind fun v49 =>
                cond ((v46 == v6))
                  ((wherrylaw09_wakes ).bind fun v50 =>
                  some (.inl v50))
                  (some (.inl false)))
                (fun (s51 : Bool) =>
                  some (s51)) some) some))) some

end Go.Abs.Sh
