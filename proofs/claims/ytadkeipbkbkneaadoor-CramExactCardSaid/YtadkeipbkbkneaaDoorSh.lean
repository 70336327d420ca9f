/-
  The program told in Lean: plain functions; none where Go would panic or a slice outgrow its room.
-/
import Derived.Test.YtadkeipbkbkneaaDoorAN
set_option linter.unusedVariables false
namespace Go.Abs.Sh

def wherrykeep_Twin (l : (List Int)) : Option (List Int) :=
  (appO 1 ([] : List Int) l).bind fun v1 =>
  some (v1)

def strings_trimRightByte (s : ByteArray) (c : Int) : Option ByteArray :=
  bindS (S := (ByteArray)) (A := ByteArray)
    (loopF (S := (ByteArray)) (O := (ByteArray) ⊕ ByteArray) (fun (s16 : ByteArray) =>
      bindS (S := Bool) (A := ((ByteArray) ⊕ ((ByteArray) ⊕ ByteArray)))
        (cond ((decide (0 < (s16.size : Int))))
          ((some (IntKind.i64.wrap ((s16.size : Int) - 1))).bind fun v1 =>
          (chrO s16 v1).bind fun v2 =>
          some (.inl (v2 == c)))
          (some (.inl false)))
        (fun (s29 : Bool) =>
          cond (s29)
            ((some (IntKind.i64.wrap ((s16.size : Int) - 1))).bind fun v8 =>
            (subO s16 0 v8).bind fun v9 =>
            some (.inl v9))
            (some (.inr (.inl s16)))) some)
      BIG s)
    (fun (s22 : ByteArray) =>
      some (s22)) some

def strings_makeASCIISet (chars : ByteArray) : Option ((List Bool) × Bool) :=
  bindS (S := ((List Bool))) (A := ((List Bool) × Bool))
    (loopF (S := ((List Bool) × Int)) (O := ((List Bool)) ⊕ ((List Bool) × Bool)) (fun ((s16, s17) : (List Bool) × Int) =>
      cond ((decide (s17 < (chars.size : Int))))
        ((chrO chars s17).bind fun v2 =>
        cond ((decide (128 ≤ v2)))
          ((lnO 256 s16).bind fun v4 =>
          (lnO 256 s16).bind fun v5 =>
          (lnO 256 s16).bind fun v6 =>
          (lnO 256 s16).bind fun v30 =>
          some (.inr (.inr ((s16, false)))))
          ((ixO v2 256).bind fun v8 =>
          (setO s16 v8 true).bind fun v9 =>
          (some (IntKind.i64.wrap (s17 + 1))).bind fun v10 =>
          some (.inl (v9, v10))))
        (some (.inr (.inl s16))))
      BIG (((List.replicate 256 false), 0)))
    (fun (s21 : (List Bool)) =>
      (lnO 256 s21).bind fun v31 =>
      (lnO 256 s21).bind fun v32 =>
      (lnO 256 s21).bind fun v33 =>
      (lnO 256 s21).bind fun v34 =>
      some ((s21, true))) some

def unicode_utf8_RuneStart (b : Int) : Option Bool :=
  (some (bits .and .u8 b 192)).bind fun v1 =>
  some ((v1 != 128))

def unicode_utf8_decodeRuneInStringSlow (s : ByteArray) : Option (Int × Int) :=
  cond ((decide ((s.size : Int) < 1)))
    (some ((65533, 0)))
    (none)

def unicode_utf8_DecodeRuneInString (s : ByteArray) : Option (Int × Int) :=
  bindS (S := Bool) (A := (Int × Int))
    (cond ((!(s.toList == (⟨#[]⟩ : ByteArray).toList)))
      ((chrO s 0).bind fun v1 =>
      some (.inl ((decide (v1 < 128)))))
      (some (.inl false)))
    (fun (s2 : Bool) =>
      cond (s2)
        ((chrO s 0).bind fun v7 =>
        (some (IntKind.i32.wrap v7)).bind fun v8 =>
        some ((v8, 1)))
        ((unicode_utf8_decodeRuneInStringSlow s).bind fun v9 =>
        some ((v9.1, v9.2)))) some

def unicode_utf8_DecodeLastRuneInString (s : ByteArray) : Option (Int × Int) :=
  cond (((s.size : Int) == 0))
    (some ((65533, 0)))
    ((some (IntKind.i64.wrap ((s.size : Int) - 1))).bind fun v2 =>
    (chrO s v2).bind fun v3 =>
    (some (IntKind.i32.wrap v3)).bind fun v4 =>
    cond ((decide (v4 < 128)))
      (some ((v4, 1)))
      ((some (IntKind.i64.wrap ((s.size : Int) - 4))).bind fun v6 =>
      (some (if 0 > v6 then 0 else v6)).bind fun v7 =>
      bindS (S := Int) (A := (Int × Int))
        ((some (IntKind.i64.wrap (v2 - 1))).bind fun v8 =>
        bindS (S := (Int)) (A := (Int ⊕ (Int × Int)))
          (loopF (S := (Int)) (O := (Int) ⊕ (Int ⊕ (Int × Int))) (fun (s38 : Int) =>
            cond ((decide (v7 ≤ s38)))
              ((chrO s s38).bind fun v10 =>
              (unicode_utf8_RuneStart v10).bind fun v11 =>
              cond (v11)
                (some (.inr (.inl s38)))
                ((some (IntKind.i64.wrap (s38 - 1))).bind fun v13 =>
                some (.inl v13)))
              (some (.inr (.inl s38))))
            BIG v8)
          (fun (s41 : Int) =>
            some (.inl s41)) some)
        (fun (s29 : Int) =>
          bindS (S := Int) (A := (Int × Int))
            (cond ((decide (s29 < 0)))
              (some (.inl 0))
              (some (.inl s29)))
            (fun (s51 : Int) =>
              (subO s s51 (s.size : Int)).bind fun v56 =>
              (unicode_utf8_DecodeRuneInString v56).bind fun v57 =>
              (some (IntKind.i64.wrap (s51 + v57.2))).bind fun v58 =>
              cond ((v58 != (s.size : Int)))
                (some ((65533, 1)))
                (some ((v57.1, v57.2)))) some) some))

def strings_trimRightUnicode (s : ByteArray) (cutset : ByteArray) : Option ByteArray :=
  bindS (S := (Unit)) (A := ByteArray)
    (loopF (S := (Unit)) (O := (Unit) ⊕ ByteArray) (fun (() : Unit) =>
      cond ((decide (0 < (s.size : Int))))
        (none)
        (some (.inr (.inl ()))))
      BIG ())
    (fun (() : Unit) =>
      some (s)) some

def strings_TrimRight (s : ByteArray) (cutset : ByteArray) : Option ByteArray :=
  bindS (S := Bool) (A := ByteArray)
    (cond ((s.toList == (⟨#[]⟩ : ByteArray).toList))
      (some (.inl true))
      (some (.inl ((cutset.toList == (⟨#[]⟩ : ByteArray).toList)))))
    (fun (s1 : Bool) =>
      cond (s1)
        (some (s))
        (bindS (S := Bool) (A := ByteArray)
          (cond (((cutset.size : Int) == 1))
            ((chrO cutset 0).bind fun v6 =>
            some (.inl ((decide (v6 < 128)))))
            (some (.inl false)))
          (fun (s7 : Bool) =>
            cond (s7)
              ((chrO cutset 0).bind fun v12 =>
              (strings_trimRightByte s v12).bind fun v13 =>
              some (v13))
              ((strings_makeASCIISet cutset).bind fun v14 =>
              (lnO 256 (List.replicate 256 false)).bind fun v15 =>
              (lnO 256 v14.1).bind fun v16 =>
              cond (v14.2)
                (none)
                ((strings_trimRightUnicode s cutset).bind fun v18 =>
                some (v18)))) some)) some

def cram_decodeGroup (s : ByteArray) : Option (List Int) :=
  bindS (S := (Int)) (A := (List Int))
    (loopF (S := (Int × Int)) (O := (Int) ⊕ (List Int)) (fun ((s14, s15) : Int × Int) =>
      cond ((decide (s15 < (s.size : Int))))
        ((chrO s s15).bind fun v2 =>
        (strings_IndexByte (⟨#[65, 66, 67, 68, 69, 70, 71, 72, 73, 74, 75, 76, 77, 78, 79, 80, 81, 82, 83, 84, 85, 86, 87, 88, 89, 90, 97, 98, 99, 100, 101, 102, 103, 104, 105, 106, 107, 108, 109, 110, 111, 112, 113, 114, 115, 116, 117, 118, 119, 120, 121, 122, 48, 49, 50, 51, 52, 53, 54, 55, 56, 57, 43, 47]⟩ : ByteArray) v2).bind fun v3 =>
        (some (bits .and .i64 v3 63)).bind fun v4 =>
        (some (IntKind.u32.wrap v4)).bind fun v5 =>
        (some (IntKind.i64.wrap (6 * s15))).bind fun v6 =>
        (some (IntKind.i64.wrap (18 - v6))).bind fun v7 =>
        (shlO .u32 v5 v7).bind fun v8 =>
        (some (bits .or .u32 s14 v8)).bind fun v9 =>
        (some (IntKind.i64.wrap (s15 + 1))).bind fun v10 =>
        some (.inl (v9, v10)))
        (some (.inr (.inl s14))))
      BIG (0, 0))
    (fun (s17 : Int) =>
      (some (IntKind.i64.wrap ((s.size : Int) - 1))).bind fun v25 =>
      bindS (S := ((List Int))) (A := (List Int))
        (loopF (S := ((List Int) × Int)) (O := ((List Int)) ⊕ (List Int)) (fun ((s36, s37) : (List Int) × Int) =>
          cond ((decide (s37 < v25)))
            ((some (IntKind.i64.wrap (8 * s37))).bind fun v27 =>
            (some (IntKind.i64.wrap (16 - v27))).bind fun v28 =>
            (shrO .u32 s17 v28).bind fun v29 =>
            (some (IntKind.u8.wrap v29)).bind fun v30 =>
            (appO 1 s36 [v30]).bind fun v31 =>
            (some (IntKind.i64.wrap (s37 + 1))).bind fun v32 =>
            some (.inl (v31, v32)))
            (some (.inr (.inl s36))))
          BIG ([], 0))
        (fun (s39 : (List Int)) =>
          some (s39)) some) some

def cram_Encode (b : (List Int)) : Option ByteArray :=
  bindS (S := ((List Int))) (A := ByteArray)
    (loopF (S := ((List Int) × Int)) (O := ((List Int)) ⊕ ByteArray) (fun ((s89, s90) : (List Int) × Int) =>
      cond ((decide (s90 < (b.length : Int))))
        ((some (IntKind.i64.wrap ((b.length : Int) - s90))).bind fun v2 =>
        (some (if v2 < 3 then v2 else 3)).bind fun v3 =>
        (some (IntKind.i64.wrap (s90 + v3))).bind fun v4 =>
        (sliO b s90 v4).bind fun v5 =>
        bindS (S := (Int)) (A := (((List Int) × Int) ⊕ (((List Int)) ⊕ ByteArray)))
          (loopF (S := (Int × Int)) (O := (Int) ⊕ (((List Int) × Int) ⊕ (((List Int)) ⊕ ByteArray))) (fun ((s134, s135) : Int × Int) =>
            cond ((decide (s135 < (v5.length : Int))))
              ((ixO s135 v5.length).bind fun v7 =>
              (getO v5 v7).bind fun v8 =>
              (some (IntKind.u32.wrap v8)).bind fun v9 =>
              (some (IntKind.i64.wrap (8 * s135))).bind fun v10 =>
              (some (IntKind.i64.wrap (16 - v10))).bind fun v11 =>
              (shlO .u32 v9 v11).bind fun v12 =>
              (some (bits .or .u32 s134 v12)).bind fun v13 =>
              (some (IntKind.i64.wrap (s135 + 1))).bind fun v14 =>
              some (.inl (v13, v14)))
              (some (.inr (.inl s134))))
            BIG (0, 0))
          (fun (s137 : Int) =>
            (some (IntKind.i64.wrap (v3 + 1))).bind fun v29 =>
            bindS (S := ((List Int))) (A := (((List Int) × Int) ⊕ (((List Int)) ⊕ ByteArray)))
              (loopF (S := ((List Int) × Int)) (O := ((List Int)) ⊕ (((List Int) × Int) ⊕ (((List Int)) ⊕ ByteArray))) (fun ((s149, s150) : (List Int) × Int) =>
                cond ((decide (s150 < v29)))
                  ((some (IntKind.i64.wrap (6 * s150))).bind fun v31 =>
                  (some (IntKind.i64.wrap (18 - v31))).bind fun v32 =>
                  (shrO .u32 s137 v32).bind fun v33 =>
                  (some (bits .and .u32 v33 63)).bind fun v34 =>
                  (chrO (⟨#[65, 66, 67, 68, 69, 70, 71, 72, 73, 74, 75, 76, 77, 78, 79, 80, 81, 82, 83, 84, 85, 86, 87, 88, 89, 90, 97, 98, 99, 100, 101, 102, 103, 104, 105, 106, 107, 108, 109, 110, 111, 112, 113, 114, 115, 116, 117, 118, 119, 120, 121, 122, 48, 49, 50, 51, 52, 53, 54, 55, 56, 57, 43, 47]⟩ : ByteArray) v34).bind fun v35 =>
                  (appO 1 s149 [v35]).bind fun v36 =>
                  (some (IntKind.i64.wrap (s150 + 1))).bind fun v37 =>
                  some (.inl (v36, v37)))
                  (some (.inr (.inl s149))))
                BIG (s89, 0))
              (fun (s152 : (List Int)) =>
                (some (IntKind.i64.wrap (3 - v3))).bind fun v52 =>
                (strings_Repeat (⟨#[61]⟩ : ByteArray) v52).bind fun v53 =>
                (appO 1 s152 (sbytes v53)).bind fun v54 =>
                (some (IntKind.i64.wrap (s90 + 3))).bind fun v55 =>
                some (.inl (v54, v55))) some) some)
        (some (.inr (.inl s89))))
      BIG ((([] : List Int), 0)))
    (fun (s122 : (List Int)) =>
      (strO s122).bind fun v160 =>
      some (v160)) some

def cram_Decode (s : ByteArray) : Option ((List Int) × Int) :=
  bindS (S := ((List Int))) (A := ((List Int) × Int))
    (loopF (S := ((List Int) × Int)) (O := ((List Int)) ⊕ ((List Int) × Int)) (fun ((s12, s13) : (List Int) × Int) =>
      (some (IntKind.i64.wrap (s13 + 4))).bind fun v1 =>
      cond ((decide (v1 ≤ (s.size : Int))))
        ((some (IntKind.i64.wrap (s13 + 4))).bind fun v3 =>
        (subO s s13 v3).bind fun v4 =>
        (strings_TrimRight v4 (⟨#[61]⟩ : ByteArray)).bind fun v5 =>
        (cram_decodeGroup v5).bind fun v6 =>
        (appO 1 s12 v6).bind fun v7 =>
        (some (IntKind.i64.wrap (s13 + 4))).bind fun v8 =>
        some (.inl (v7, v8)))
        (some (.inr (.inl s12))))
      BIG ([], 0))
    (fun (s15 : (List Int)) =>
      (cram_Encode s15).bind fun v23 =>
      cond ((!(v23.toList == s.toList)))
        (some (([], 5)))
        (some ((s15, 0)))) some

def wherryref08_signs : Option ByteArray :=
  some ((⟨#[65, 66, 67, 68, 69, 70, 71, 72, 73, 74, 75, 76, 77, 78, 79, 80, 81, 82, 83, 84, 85, 86, 87, 88, 89, 90, 97, 98, 99, 100, 101, 102, 103, 104, 105, 106, 107, 108, 109, 110, 111, 112, 113, 114, 115, 116, 117, 118, 119, 120, 121, 122, 48, 49, 50, 51, 52, 53, 54, 55, 56, 57, 43, 47]⟩ : ByteArray))

def wherryref08_value (c : Int) : Option Int :=
  (wherryref08_signs ).bind fun v1 =>
  bindS (S := (Unit)) (A := Int)
    (loopF (S := (Int)) (O := (Unit) ⊕ Int) (fun (s9 : Int) =>
      cond ((decide (s9 < 64)))
        ((chrO v1 s9).bind fun v3 =>
        cond ((v3 == c))
          (some (.inr (.inr (s9))))
          ((some (IntKind.i64.wrap (s9 + 1))).bind fun v5 =>
          some (.inl v5)))
        (some (.inr (.inl ()))))
      BIG 0)
    (fun (() : Unit) =>
      some ((-1))) some

def wherryref08_Encode (b : (List Int)) : Option ByteArray :=
  bindS (S := (ByteArray)) (A := ByteArray)
    (loopF (S := (ByteArray × Int)) (O := (ByteArray) ⊕ ByteArray) (fun ((s182, s183) : ByteArray × Int) =>
      cond ((decide (s183 < (b.length : Int))))
        ((some (IntKind.i64.wrap ((b.length : Int) - s183))).bind fun v2 =>
        (some (if v2 < 3 then v2 else 3)).bind fun v3 =>
        bindS (S := (Int)) (A := ((ByteArray × Int) ⊕ ((ByteArray) ⊕ ByteArray)))
          (loopF (S := (Int × Int)) (O := (Int) ⊕ ((ByteArray × Int) ⊕ ((ByteArray) ⊕ ByteArray))) (fun ((s287, s288) : Int × Int) =>
            cond ((decide (s288 < 3)))
              (bindS (S := Int) (A := ((Int × Int) ⊕ ((Int) ⊕ ((ByteArray × Int) ⊕ ((ByteArray) ⊕ ByteArray)))))
                ((shlO .i64 s287 8).bind fun v5 =>
                cond ((decide (s288 < v3)))
                  ((some (IntKind.i64.wrap (s183 + s288))).bind fun v7 =>
                  (ixO v7 b.length).bind fun v8 =>
                  (getO b v8).bind fun v9 =>
                  (some (IntKind.i64.wrap v9)).bind fun v10 =>
                  (some (bits .or .i64 v5 v10)).bind fun v11 =>
                  some (.inl v11))
                  (some (.inl v5)))
                (fun (s305 : Int) =>
                  (some (IntKind.i64.wrap (s288 + 1))).bind fun v17 =>
                  some (.inl (s305, v17))) some)
              (some (.inr (.inl s287))))
            BIG (0, 0))
          (fun (s296 : Int) =>
            bindS (S := (ByteArray)) (A := ((ByteArray × Int) ⊕ ((ByteArray) ⊕ ByteArray)))
              (loopF (S := (ByteArray × Int)) (O := (ByteArray) ⊕ ((ByteArray × Int) ⊕ ((ByteArray) ⊕ ByteArray))) (fun ((s326, s327) : ByteArray × Int) =>
                cond ((decide (s327 < 4)))
                  (bindS (S := ByteArray) (A := ((ByteArray × Int) ⊕ ((ByteArray) ⊕ ((ByteArray × Int) ⊕ ((ByteArray) ⊕ ByteArray)))))
                    (cond ((decide (s327 ≤ v3)))
                      ((some (IntKind.i64.wrap (6 * s327))).bind fun v52 =>
                      (some (IntKind.i64.wrap (18 - v52))).bind fun v53 =>
                      (some (IntKind.u64.wrap v53)).bind fun v54 =>
                      (shrO .i64 s296 v54).bind fun v55 =>
                      (some (bits .and .i64 v55 63)).bind fun v56 =>
                      (wherryref08_signs ).bind fun v57 =>
                      (some (IntKind.i64.wrap (v56 + 1))).bind fun v58 =>
                      (subO v57 v56 v58).bind fun v59 =>
                      (catO s326 v59).bind fun v60 =>
                      some (.inl v60))
                      ((catO s326 (⟨#[61]⟩ : ByteArray)).bind fun v61 =>
                      some (.inl v61)))
                    (fun (s344 : ByteArray) =>
                      (some (IntKind.i64.wrap (s327 + 1))).bind fun v67 =>
                      some (.inl (s344, v67))) some)
                  (some (.inr (.inl s326))))
                BIG (s182, 0))
              (fun (s335 : ByteArray) =>
                (some (IntKind.i64.wrap (s183 + 3))).bind fun v100 =>
                some (.inl (s335, v100))) some) some)
        (some (.inr (.inl s182))))
      BIG (((⟨#[]⟩ : ByteArray), 0)))
    (fun (s263 : ByteArray) =>
      some (s263)) some

def wherryref08_Decode (s : ByteArray) : Option ((List Int) × Bool) :=
  (remO (s.size : Int) 4).bind fun v1 =>
  cond ((v1 != 0))
    (some (([], false)))
    (bindS (S := ((List Int))) (A := ((List Int) × Bool))
      (loopF (S := ((List Int) × Int)) (O := ((List Int)) ⊕ ((List Int) × Bool)) (fun ((s220, s221) : (List Int) × Int) =>
        cond ((decide (s221 < (s.size : Int))))
          (bindS (S := (Int × Int)) (A := (((List Int) × Int) ⊕ (((List Int)) ⊕ ((List Int) × Bool))))
            (loopF (S := (Int × Int × Int)) (O := (Int × Int) ⊕ (((List Int) × Int) ⊕ (((List Int)) ⊕ ((List Int) × Bool)))) (fun ((s365, s366, s367) : Int × Int × Int) =>
              cond ((decide (s367 < 4)))
                ((some (IntKind.i64.wrap (s221 + s367))).bind fun v5 =>
                (chrO s v5).bind fun v6 =>
                (wherryref08_value v6).bind fun v7 =>
                bindS (S := Int) (A := ((Int × Int × Int) ⊕ ((Int × Int) ⊕ (((List Int) × Int) ⊕ (((List Int)) ⊕ ((List Int) × Bool))))))
                  (bindS (S := Bool) (A := (Int ⊕ ((Int × Int × Int) ⊕ ((Int × Int) ⊕ (((List Int) × Int) ⊕ (((List Int)) ⊕ ((List Int) × Bool)))))))
                    (cond ((decide (0 ≤ v7)))
                      (some (.inl (s366 == s367)))
                      (some (.inl false)))
                    (fun (s404 : Bool) =>
                      cond (s404)
                        ((some (IntKind.i64.wrap (s366 + 1))).bind fun v13 =>
                        some (.inl v13))
                        ((some (IntKind.i64.wrap (s221 + s367))).bind fun v14 =>
                        (chrO s v14).bind fun v15 =>
                        cond ((v15 != 61))
                          (some (.inr (.inr (.inr (.inr (.inr (([], false))))))))
                          (some (.inl s366)))) some)
                  (fun (s400 : Int) =>
                    (shlO .i64 s365 6).bind fun v27 =>
                    (some (if 0 > v7 then 0 else v7)).bind fun v28 =>
                    (some (bits .or .i64 v27 v28)).bind fun v29 =>
                    (some (IntKind.i64.wrap (s367 + 1))).bind fun v30 =>
                    some (.inl (v29, s400, v30))) some)
                (some (.inr (.inl (s365, s366)))))
              BIG (0, 0, 0))
            (fun ((s385, s386) : Int × Int) =>
              bindS (S := ((List Int))) (A := (((List Int) × Int) ⊕ (((List Int)) ⊕ ((List Int) × Bool))))
                (loopF (S := ((List Int) × Int)) (O := ((List Int)) ⊕ (((List Int) × Int) ⊕ (((List Int)) ⊕ ((List Int) × Bool)))) (fun ((s414, s415) : (List Int) × Int) =>
                  (some (IntKind.i64.wrap (s386 - 1))).bind fun v96 =>
                  cond ((decide (s415 < v96)))
                    ((some (IntKind.i64.wrap (8 * s415))).bind fun v98 =>
                    (some (IntKind.i64.wrap (16 - v98))).bind fun v99 =>
                    (some (IntKind.u64.wrap v99)).bind fun v100 =>
                    (shrO .i64 s385 v100).bind fun v101 =>
                    (some (IntKind.u8.wrap v101)).bind fun v102 =>
                    (appO 1 s414 [v102]).bind fun v103 =>
                    (some (IntKind.i64.wrap (s415 + 1))).bind fun v104 =>
                    some (.inl (v103, v104)))
                    (some (.inr (.inl s414))))
                  BIG (s220, 0))
                (fun (s417 : (List Int)) =>
                  (some (IntKind.i64.wrap (s221 + 4))).bind fun v119 =>
                  some (.inl (s417, v119))) some) some)
          (some (.inr (.inl s220))))
        BIG ([], 0))
      (fun (s320 : (List Int)) =>
        (wherryref08_Encode s320).bind fun v425 =>
        cond ((!(v425.toList == s.toList)))
          (some (([], false)))
          (some ((s320, true)))) some)

def wherryref08_sines : Option (List Int) :=
  some ([3614090360, 3905402710, 606105819, 3250441966, 4118548399, 1200080426, 2821735955, 4249261313, 1770035416, 2336552879, 4294925233, 2304563134, 1804603682, 4254626195, 2792965006, 1236535329, 4129170786, 3225465664, 643717713, 3921069994, 3593408605, 38016083, 3634488961, 3889429448, 568446438, 3275163606, 4107603335, 1163531501, 2850285829, 4243563512, 1735328473, 2368359562, 4294588738, 2272392833, 1839030562, 4259657740, 2763975236, 1272893353, 4139469664, 3200236656, 681279174, 3936430074, 3572445317, 76029189, 3654602809, 3873151461, 530742520, 3299628645, 4096336452, 1126891415, 2878612391, 4237533241, 1700485571, 2399980690, 4293915773, 2240044497, 1873313359, 4264355552, 2734768916, 1309151649, 4149444226, 3174756917, 718787259, 3951481745])

def wherryref08_word (x : (List Int)) (at_ : Int) : Option Int :=
  (ixO at_ x.length).bind fun v1 =>
  (getO x v1).bind fun v2 =>
  (some (IntKind.u32.wrap v2)).bind fun v3 =>
  (some (IntKind.i64.wrap (at_ + 1))).bind fun v4 =>
  (ixO v4 x.length).bind fun v5 =>
  (getO x v5).bind fun v6 =>
  (some (IntKind.u32.wrap v6)).bind fun v7 =>
  (shlO .u32 v7 8).bind fun v8 =>
  (some (bits .or .u32 v3 v8)).bind fun v9 =>
  (some (IntKind.i64.wrap (at_ + 2))).bind fun v10 =>
  (ixO v10 x.length).bind fun v11 =>
  (getO x v11).bind fun v12 =>
  (some (IntKind.u32.wrap v12)).bind fun v13 =>
  (shlO .u32 v13 16).bind fun v14 =>
  (some (bits .or .u32 v9 v14)).bind fun v15 =>
  (some (IntKind.i64.wrap (at_ + 3))).bind fun v16 =>
  (ixO v16 x.length).bind fun v17 =>
  (getO x v17).bind fun v18 =>
  (some (IntKind.u32.wrap v18)).bind fun v19 =>
  (shlO .u32 v19 24).bind fun v20 =>
  (some (bits .or .u32 v15 v20)).bind fun v21 =>
  some (v21)

def wherryref08_turns (i : Int) : Option Int :=
  (quoO .i64 i 16).bind fun v1 =>
  (some (IntKind.i64.wrap (v1 * 4))).bind fun v2 =>
  (remO i 4).bind fun v3 =>
  (some (IntKind.i64.wrap (v2 + v3))).bind fun v4 =>
  (ixO v4 [7, 12, 17, 22, 5, 9, 14, 20, 4, 11, 16, 23, 6, 10, 15, 21].length).bind fun v5 =>
  (getO [7, 12, 17, 22, 5, 9, 14, 20, 4, 11, 16, 23, 6, 10, 15, 21] v5).bind fun v6 =>
  some (v6)

def wherryref08_Sum (b : (List Int)) : Option (List Int) :=
  (wherrykeep_Twin b).bind fun v1 =>
  (appO 1 v1 [128]).bind fun v2 =>
  bindS (S := ((List Int))) (A := (List Int))
    (loopF (S := ((List Int))) (O := ((List Int)) ⊕ (List Int)) (fun (s8 : (List Int)) =>
      (remO (s8.length : Int) 64).bind fun v3 =>
      cond ((v3 != 56))
        ((appO 1 s8 [0]).bind fun v5 =>
        some (.inl v5))
        (some (.inr (.inl s8))))
      BIG v2)
    (fun (s10 : (List Int)) =>
      bindS (S := ((List Int))) (A := (List Int))
        (loopF (S := ((List Int) × Int)) (O := ((List Int)) ⊕ (List Int)) (fun ((s30, s31) : (List Int) × Int) =>
          cond ((decide (s31 < 8)))
            ((some (IntKind.i64.wrap (8 * (b.length : Int)))).bind fun v19 =>
            (some (IntKind.u64.wrap v19)).bind fun v20 =>
            (some (IntKind.i64.wrap (8 * s31))).bind fun v21 =>
            (some (IntKind.u64.wrap v21)).bind fun v22 =>
            (shrO .u64 v20 v22).bind fun v23 =>
            (some (IntKind.u8.wrap v23)).bind fun v24 =>
            (appO 1 s30 [v24]).bind fun v25 =>
            (some (IntKind.i64.wrap (s31 + 1))).bind fun v26 =>
            some (.inl (v25, v26)))
            (some (.inr (.inl s30))))
          BIG (s10, 0))
        (fun (s33 : (List Int)) =>
          (wherryref08_sines ).bind fun v41 =>
          bindS (S := ((List Int))) (A := (List Int))
            (loopF (S := ((List Int) × Int)) (O := ((List Int)) ⊕ (List Int)) (fun ((s376, s377) : (List Int) × Int) =>
              cond ((decide (s377 < (s33.length : Int))))
                ((ixO 0 s376.length).bind fun v43 =>
                (getO s376 v43).bind fun v44 =>
                (ixO 1 s376.length).bind fun v45 =>
                (getO s376 v45).bind fun v46 =>
                (ixO 2 s376.length).bind fun v47 =>
                (getO s376 v47).bind fun v48 =>
                (ixO 3 s376.length).bind fun v49 =>
                (getO s376 v49).bind fun v50 =>
                bindS (S := (Int × Int × Int × Int)) (A := (((List Int) × Int) ⊕ (((List Int)) ⊕ (List Int))))
                  (loopF (S := (Int × Int × Int × Int × Int)) (O := (Int × Int × Int × Int) ⊕ (((List Int) × Int) ⊕ (((List Int)) ⊕ (List Int)))) (fun ((s580, s581, s582, s583, s584) : Int × Int × Int × Int × Int) =>
                    cond ((decide (s584 < 64)))
                      (bindS (S := Int × Int) (A := ((Int × Int × Int × Int × Int) ⊕ ((Int × Int × Int × Int) ⊕ (((List Int) × Int) ⊕ (((List Int)) ⊕ (List Int))))))
                        ((quoO .i64 s584 16).bind fun v52 =>
                        bindS (S := Int × Int) (A := ((Int × Int) ⊕ ((Int × Int × Int × Int × Int) ⊕ ((Int × Int × Int × Int) ⊕ (((List Int) × Int) ⊕ (((List Int)) ⊕ (List Int)))))))
                          (cond ((v52 == 0))
                            ((some (bits .and .u32 s581 s582)).bind fun v54 =>
                            (some (bits .xor .u32 4294967295 s581)).bind fun v55 =>
                            (some (bits .and .u32 v55 s583)).bind fun v56 =>
                            (some (bits .or .u32 v54 v56)).bind fun v57 =>
                            some (.inl (v57, s584)))
                            (cond ((v52 == 1))
                              ((some (bits .and .u32 s583 s581)).bind fun v59 =>
                              (some (bits .xor .u32 4294967295 s583)).bind fun v60 =>
                              (some (bits .and .u32 v60 s582)).bind fun v61 =>
                              (some (bits .or .u32 v59 v61)).bind fun v62 =>
                              (some (IntKind.i64.wrap (5 * s584))).bind fun v63 =>
                              (some (IntKind.i64.wrap (v63 + 1))).bind fun v64 =>
                              (remO v64 16).bind fun v65 =>
                              some (.inl (v62, v65)))
                              (cond ((v52 == 2))
                                ((some (bits .xor .u32 s581 s582)).bind fun v67 =>
                                (some (bits .xor .u32 v67 s583)).bind fun v68 =>
                                (some (IntKind.i64.wrap (3 * s584))).bind fun v69 =>
                                (some (IntKind.i64.wrap (v69 + 5))).bind fun v70 =>
                                (remO v70 16).bind fun v71 =>
                                some (.inl (v68, v71)))
                                ((some (bits .xor .u32 4294967295 s583)).bind fun v72 =>
                                (some (bits .or .u32 s581 v72)).bind fun v73 =>
                                (some (bits .xor .u32 s582 v73)).bind fun v74 =>
                                (some (IntKind.i64.wrap (7 * s584))).bind fun v75 =>
                                (remO v75 16).bind fun v76 =>
                                some (.inl (v74, v76))))))
                          (fun ((s643, s644) : Int × Int) =>
                            some (.inl (s643, s644))) some)
                        (fun ((s635, s636) : Int × Int) =>
                          (some (IntKind.u32.wrap (s635 + s580))).bind fun v101 =>
                          (ixO s584 v41.length).bind fun v102 =>
                          (getO v41 v102).bind fun v103 =>
                          (some (IntKind.u32.wrap (v101 + v103))).bind fun v104 =>
                          (some (IntKind.i64.wrap (4 * s636))).bind fun v105 =>
                          (some (IntKind.i64.wrap (s377 + v105))).bind fun v106 =>
                          (wherryref08_word s33 v106).bind fun v107 =>
                          (some (IntKind.u32.wrap (v104 + v107))).bind fun v108 =>
                          (wherryref08_turns s584).bind fun v109 =>
                          (shlO .u32 v108 v109).bind fun v110 =>
                          (some (IntKind.u64.wrap (32 - v109))).bind fun v111 =>
                          (shrO .u32 v108 v111).bind fun v112 =>
                          (some (bits .or .u32 v110 v112)).bind fun v113 =>
                          (some (IntKind.u32.wrap (s581 + v113))).bind fun v114 =>
                          (some (IntKind.i64.wrap (s584 + 1))).bind fun v115 =>
                          some (.inl (s583, v114, s581, s582, v115))) some)
                      (some (.inr (.inl (s580, s581, s582, s583)))))
                    BIG (v44, v46, v48, v50, 0))
                  (fun ((s613, s614, s615, s616) : Int × Int × Int × Int) =>
                    (ixO 0 s376.length).bind fun v220 =>
                    (getO s376 v220).bind fun v221 =>
                    (some (IntKind.u32.wrap (v221 + s613))).bind fun v222 =>
                    (ixO 1 s376.length).bind fun v223 =>
                    (getO s376 v223).bind fun v224 =>
                    (some (IntKind.u32.wrap (v224 + s614))).bind fun v225 =>
                    (ixO 2 s376.length).bind fun v226 =>
                    (getO s376 v226).bind fun v227 =>
                    (some (IntKind.u32.wrap (v227 + s615))).bind fun v228 =>
                    (ixO 3 s376.length).bind fun v229 =>
                    (getO s376 v229).bind fun v230 =>
                    (some (IntKind.u32.wrap (v230 + s616))).bind fun v231 =>
                    (ixO 0 s376.length).bind fun v232 =>
                    (some (s376.set v232 v222)).bind fun v233 =>
                    (ixO 1 v233.length).bind fun v234 =>
                    (some (v233.set v234 v225)).bind fun v235 =>
                    (ixO 2 v235.length).bind fun v236 =>
                    (some (v235.set v236 v228)).bind fun v237 =>
                    (ixO 3 v237.length).bind fun v238 =>
                    (some (v237.set v238 v231)).bind fun v239 =>
                    (some (IntKind.i64.wrap (s377 + 64))).bind fun v240 =>
                    some (.inl (v239, v240))) some)
                (some (.inr (.inl s376))))
              BIG ([1732584193, 4023233417, 2562383102, 271733878], 0))
            (fun (s511 : (List Int)) =>
              bindS (S := ((List Int))) (A := (List Int))
                (loopF (S := ((List Int) × Int)) (O := ((List Int)) ⊕ (List Int)) (fun ((s666, s667) : (List Int) × Int) =>
                  cond ((decide (s667 < 16)))
                    ((quoO .i64 s667 4).bind fun v652 =>
                    (ixO v652 s511.length).bind fun v653 =>
                    (getO s511 v653).bind fun v654 =>
                    (remO s667 4).bind fun v655 =>
                    (some (IntKind.i64.wrap (8 * v655))).bind fun v656 =>
                    (some (IntKind.u64.wrap v656)).bind fun v657 =>
                    (shrO .u32 v654 v657).bind fun v658 =>
                    (some (IntKind.u8.wrap v658)).bind fun v659 =>
                    (ixO s667 16).bind fun v660 =>
                    (setO s666 v660 v659).bind fun v661 =>
                    (some (IntKind.i64.wrap (s667 + 1))).bind fun v662 =>
                    some (.inl (v661, v662)))
                    (some (.inr (.inl s666))))
                  BIG (((List.replicate 16 (0 : Int)), 0)))
                (fun (s669 : (List Int)) =>
                  (lnO 16 s669).bind fun v677 =>
                  (lnO 16 ((List.replicate 16 (0 : Int)))).bind fun v678 =>
                  (lnO 16 s669).bind fun v679 =>
                  (lnO 16 s669).bind fun v680 =>
                  some (s669)) some) some) some) some

def wherryref08_Keyed (key : (List Int)) (text : (List Int)) : Option (List Int) :=
  (wherrykeep_Twin key).bind fun v1 =>
  bindS (S := (List Int)) (A := (List Int))
    (cond ((decide (64 < (v1.length : Int))))
      ((wherryref08_Sum v1).bind fun v3 =>
      (lnO 16 ((List.replicate 16 (0 : Int)))).bind fun v4 =>
      (lnO 16 v3).bind fun v5 =>
      (lnO 16 v3).bind fun v6 =>
      (wherrykeep_Twin v3).bind fun v7 =>
      some (.inl v7))
      (some (.inl v1)))
    (fun (s8 : (List Int)) =>
      bindS (S := ((List Int))) (A := (List Int))
        (loopF (S := ((List Int))) (O := ((List Int)) ⊕ (List Int)) (fun (s17 : (List Int)) =>
          cond ((decide ((s17.length : Int) < 64)))
            ((appO 1 s17 [0]).bind fun v14 =>
            some (.inl v14))
            (some (.inr (.inl s17))))
          BIG s8)
        (fun (s19 : (List Int)) =>
          bindS (S := ((List Int) × (List Int))) (A := (List Int))
            (loopF (S := ((List Int) × (List Int) × Int)) (O := ((List Int) × (List Int)) ⊕ (List Int)) (fun ((s41, s42, s43) : (List Int) × (List Int) × Int) =>
              cond ((decide (s43 < 64)))
                ((ixO s43 s19.length).bind fun v28 =>
                (getO s19 v28).bind fun v29 =>
                (some (bits .xor .u8 v29 54)).bind fun v30 =>
                (appO 1 s41 [v30]).bind fun v31 =>
                (ixO s43 s19.length).bind fun v32 =>
                (getO s19 v32).bind fun v33 =>
                (some (bits .xor .u8 v33 92)).bind fun v34 =>
                (appO 1 s42 [v34]).bind fun v35 =>
                (some (IntKind.i64.wrap (s43 + 1))).bind fun v36 =>
                some (.inl (v31, v35, v36)))
                (some (.inr (.inl (s41, s42)))))
              BIG ([], [], 0))
            (fun ((s45, s46) : (List Int) × (List Int)) =>
              (appO 1 s45 text).bind fun v54 =>
              (wherryref08_Sum v54).bind fun v55 =>
              (lnO 16 ((List.replicate 16 (0 : Int)))).bind fun v56 =>
              (lnO 16 v55).bind fun v57 =>
              (lnO 16 v55).bind fun v58 =>
              (appO 1 s46 v55).bind fun v59 =>
              (wherryref08_Sum v59).bind fun v60 =>
              (lnO 16 ((List.replicate 16 (0 : Int)))).bind fun v61 =>
              (lnO 16 v60).bind fun v62 =>
              (lnO 16 v60).bind fun v63 =>
              some (v60)) some) some) some

def wherryref08_Hex (b : (List Int)) : Option ByteArray :=
  bindS (S := (ByteArray)) (A := ByteArray)
    (loopF (S := (ByteArray × Int)) (O := (ByteArray) ⊕ ByteArray) (fun ((s24, s25) : ByteArray × Int) =>
      cond ((decide (s25 < (b.length : Int))))
        ((ixO s25 b.length).bind fun v2 =>
        (getO b v2).bind fun v3 =>
        (shrO .u8 v3 4).bind fun v4 =>
        (ixO s25 b.length).bind fun v5 =>
        (getO b v5).bind fun v6 =>
        (shrO .u8 v6 4).bind fun v7 =>
        (some (IntKind.u8.wrap (v7 + 1))).bind fun v8 =>
        (subO (⟨#[48, 49, 50, 51, 52, 53, 54, 55, 56, 57, 97, 98, 99, 100, 101, 102]⟩ : ByteArray) v4 v8).bind fun v9 =>
        (catO s24 v9).bind fun v10 =>
        (ixO s25 b.length).bind fun v11 =>
        (getO b v11).bind fun v12 =>
        (some (bits .and .u8 v12 15)).bind fun v13 =>
        (ixO s25 b.length).bind fun v14 =>
        (getO b v14).bind fun v15 =>
        (some (bits .and .u8 v15 15)).bind fun v16 =>
        (some (IntKind.u8.wrap (v16 + 1))).bind fun v17 =>
        (subO (⟨#[48, 49, 50, 51, 52, 53, 54, 55, 56, 57, 97, 98, 99, 100, 101, 102]⟩ : ByteArray) v13 v17).bind fun v18 =>
        (catO v10 v18).bind fun v19 =>
        (some (IntKind.i64.wrap (s25 + 1))).bind fun v20 =>
        some (.inl (v19, v20)))
        (some (.inr (.inl s24))))
      BIG (((⟨#[]⟩ : ByteArray), 0)))
    (fun (s27 : ByteArray) =>
      some (s27)) some

def wherryref08_Answer (user : ByteArray) (secret : ByteArray) (challenge : ByteArray) : Option ByteArray :=
  (some (sbytes secret)).bind fun v1 =>
  (some (sbytes challenge)).bind fun v2 =>
  (wherryref08_Keyed v1 v2).bind fun v3 =>
  (lnO 16 ((List.replicate 16 (0 : Int)))).bind fun v4 =>
  (lnO 16 v3).bind fun v5 =>
  (catO user (⟨#[32]⟩ : ByteArray)).bind fun v6 =>
  (lnO 16 v3).bind fun v7 =>
  (wherryref08_Hex v3).bind fun v8 =>
  (catO v6 v8).bind fun v9 =>
  (some (sbytes v9)).bind fun v10 =>
  (wherryref08_Encode v10).bind fun v11 =>
  some (v11)

def cram_Hex (b : (List Int)) : Option ByteArray :=
  bindS (S := ((List Int))) (A := ByteArray)
    (loopF (S := ((List Int) × Int)) (O := ((List Int)) ⊕ ByteArray) (fun ((s14, s15) : (List Int) × Int) =>
      cond ((decide (s15 < (b.length : Int))))
        ((ixO s15 b.length).bind fun v2 =>
        (getO b v2).bind fun v3 =>
        (shrO .u8 v3 4).bind fun v4 =>
        (chrO (⟨#[48, 49, 50, 51, 52, 53, 54, 55, 56, 57, 97, 98, 99, 100, 101, 102]⟩ : ByteArray) v4).bind fun v5 =>
        (appO 1 s14 [v5]).bind fun v6 =>
        (some (bits .and .u8 v3 15)).bind fun v7 =>
        (chrO (⟨#[48, 49, 50, 51, 52, 53, 54, 55, 56, 57, 97, 98, 99, 100, 101, 102]⟩ : ByteArray) v7).bind fun v8 =>
        (appO 1 v6 [v8]).bind fun v9 =>
        (some (IntKind.i64.wrap (s15 + 1))).bind fun v10 =>
        some (.inl (v9, v10)))
        (some (.inr (.inl s14))))
      BIG ((([] : List Int), 0)))
    (fun (s17 : (List Int)) =>
      (strO s17).bind fun v25 =>
      some (v25)) some

def wherrykeep_Bytes (a : (List Int)) (b : (List Int)) : Option Bool :=
  cond (((a.length : Int) != (b.length : Int)))
    (some (false))
    (bindS (S := (Unit)) (A := Bool)
      (loopF (S := (Int)) (O := (Unit) ⊕ Bool) (fun (s12 : Int) =>
        cond ((decide (s12 < (a.length : Int))))
          ((ixO s12 a.length).bind fun v3 =>
          (getO a v3).bind fun v4 =>
          (ixO s12 b.length).bind fun v5 =>
          (getO b v5).bind fun v6 =>
          cond ((v4 != v6))
            (some (.inr (.inr (false))))
            ((some (IntKind.i64.wrap (s12 + 1))).bind fun v8 =>
            some (.inl v8)))
          (some (.inr (.inl ()))))
        BIG 0)
      (fun (() : Unit) =>
        some (true)) some)

def digest_sines : List Int := (3614090360 :: 3905402710 :: 606105819 :: 3250441966 :: 4118548399 :: 1200080426 :: 2821735955 :: 4249261313 :: 1770035416 :: 2336552879 :: 4294925233 :: 2304563134 :: 1804603682 :: 4254626195 :: 2792965006 :: 1236535329 :: 4129170786 :: 3225465664 :: 643717713 :: 3921069994 :: 3593408605 :: 38016083 :: 3634488961 :: 3889429448 :: 568446438 :: 3275163606 :: 4107603335 :: 1163531501 :: 2850285829 :: 4243563512 :: 1735328473 :: 2368359562 :: 4294588738 :: 2272392833 :: 1839030562 :: 4259657740 :: 2763975236 :: 1272893353 :: 4139469664 :: 3200236656 :: 681279174 :: 3936430074 :: 3572445317 :: 76029189 :: 3654602809 :: 3873151461 :: 530742520 :: 3299628645 :: 4096336452 :: 1126891415 :: 2878612391 :: 4237533241 :: 1700485571 :: 2399980690 :: 4293915773 :: 2240044497 :: 1873313359 :: 4264355552 :: 2734768916 :: 1309151649 :: 4149444226 :: 3174756917 :: 718787259 :: 3951481745 :: [])

def digest_step (i : Int) (q : Int) (p_r : Int) (t : Int) : Option (Int × Int) :=
  (quoO .i64 i 16).bind fun v1 =>
  cond ((v1 == 0))
    ((some (bits .and .u32 q p_r)).bind fun v3 =>
    (some (bits .xor .u32 4294967295 q)).bind fun v4 =>
    (some (bits .and .u32 v4 t)).bind fun v5 =>
    (some (bits .or .u32 v3 v5)).bind fun v6 =>
    some ((v6, i)))
    (cond ((v1 == 1))
      ((some (bits .and .u32 q t)).bind fun v8 =>
      (some (bits .andNot .u32 p_r t)).bind fun v9 =>
      (some (bits .or .u32 v8 v9)).bind fun v10 =>
      (some (IntKind.i64.wrap (5 * i))).bind fun v11 =>
      (some (IntKind.i64.wrap (v11 + 1))).bind fun v12 =>
      (remO v12 16).bind fun v13 =>
      some ((v10, v13)))
      (cond ((v1 == 2))
        ((some (bits .xor .u32 q p_r)).bind fun v15 =>
        (some (bits .xor .u32 v15 t)).bind fun v16 =>
        (some (IntKind.i64.wrap (3 * i))).bind fun v17 =>
        (some (IntKind.i64.wrap (v17 + 5))).bind fun v18 =>
        (remO v18 16).bind fun v19 =>
        some ((v16, v19)))
        ((some (bits .xor .u32 4294967295 t)).bind fun v20 =>
        (some (bits .or .u32 q v20)).bind fun v21 =>
        (some (bits .xor .u32 p_r v21)).bind fun v22 =>
        (some (IntKind.i64.wrap (7 * i))).bind fun v23 =>
        (remO v23 16).bind fun v24 =>
        some ((v22, v24)))))

def digest_turns : List Int := (7 :: 12 :: 17 :: 22 :: 5 :: 9 :: 14 :: 20 :: 4 :: 11 :: 16 :: 23 :: 6 :: 10 :: 15 :: 21 :: [])

def digest_state_block (s : (List Int)) (b : (List Int)) : Option (List Int) :=
  bindS (S := ((List Int))) (A := (List Int))
    (loopF (S := ((List Int) × Int)) (O := ((List Int)) ⊕ (List Int)) (fun ((s18, s19) : (List Int) × Int) =>
      cond ((decide (s19 < (b.length : Int))))
        ((ixO s19 b.length).bind fun v2 =>
        (getO b v2).bind fun v3 =>
        (quoO .i64 s19 4).bind fun v4 =>
        (ixO v4 16).bind fun v5 =>
        (getO s18 v5).bind fun v6 =>
        (some (IntKind.u32.wrap v3)).bind fun v7 =>
        (remO s19 4).bind fun v8 =>
        (some (IntKind.i64.wrap (8 * v8))).bind fun v9 =>
        (shlO .u32 v7 v9).bind fun v10 =>
        (some (bits .or .u32 v6 v10)).bind fun v11 =>
        (ixO v4 16).bind fun v12 =>
        (setO s18 v12 v11).bind fun v13 =>
        (some (IntKind.i64.wrap (s19 + 1))).bind fun v14 =>
        some (.inl (v13, v14)))
        (some (.inr (.inl s18))))
      BIG (((List.replicate 16 (0 : Int)), 0)))
    (fun (s21 : (List Int)) =>
      (ixO 0 4).bind fun v29 =>
      (getO s v29).bind fun v30 =>
      (ixO 1 4).bind fun v31 =>
      (getO s v31).bind fun v32 =>
      (ixO 2 4).bind fun v33 =>
      (getO s v33).bind fun v34 =>
      (ixO 3 4).bind fun v35 =>
      (getO s v35).bind fun v36 =>
      bindS (S := (Int × Int × Int × Int)) (A := (List Int))
        (loopF (S := (Int × Int × Int × Int × Int)) (O := (Int × Int × Int × Int) ⊕ (List Int)) (fun ((s63, s64, s65, s66, s67) : Int × Int × Int × Int × Int) =>
          cond ((decide (s67 < 64)))
            ((ixO s67 64).bind fun v38 =>
            (getO digest_sines v38).bind fun v39 =>
            (digest_step s67 s64 s65 s66).bind fun v40 =>
            (some (IntKind.u32.wrap (s63 + v39))).bind fun v41 =>
            (ixO v40.2 16).bind fun v42 =>
            (getO s21 v42).bind fun v43 =>
            (some (IntKind.u32.wrap (v41 + v43))).bind fun v44 =>
            (some (IntKind.u32.wrap (v40.1 + v44))).bind fun v45 =>
            (quoO .i64 s67 16).bind fun v46 =>
            (remO s67 4).bind fun v47 =>
            (ixO v46 4).bind fun v48 =>
            (ixO v47 4).bind fun v49 =>
            (getO digest_turns (((0 + v48 * 4) + v49 * 1))).bind fun v50 =>
            (shlO .u32 v45 v50).bind fun v51 =>
            (some (IntKind.i64.wrap (32 - v50))).bind fun v52 =>
            (shrO .u32 v45 v52).bind fun v53 =>
            (some (bits .or .u32 v51 v53)).bind fun v54 =>
            (some (IntKind.u32.wrap (s64 + v54))).bind fun v55 =>
            (some (IntKind.i64.wrap (s67 + 1))).bind fun v56 =>
            some (.inl (s66, v55, s64, s65, v56)))
            (some (.inr (.inl (s63, s64, s65, s66)))))
          BIG (v30, v32, v34, v36, 0))
        (fun ((s69, s70, s71, s72) : Int × Int × Int × Int) =>
          (ixO 0 4).bind fun v80 =>
          (getO s v80).bind fun v81 =>
          (some (IntKind.u32.wrap (v81 + s69))).bind fun v82 =>
          (ixO 1 4).bind fun v83 =>
          (getO s v83).bind fun v84 =>
          (some (IntKind.u32.wrap (v84 + s70))).bind fun v85 =>
          (ixO 2 4).bind fun v86 =>
          (getO s v86).bind fun v87 =>
          (some (IntKind.u32.wrap (v87 + s71))).bind fun v88 =>
          (ixO 3 4).bind fun v89 =>
          (getO s v89).bind fun v90 =>
          (some (IntKind.u32.wrap (v90 + s72))).bind fun v91 =>
          (lnO 4 ((List.replicate 4 (0 : Int)))).bind fun v92 =>
          (lnO 4 ([v82, v85, v88, v91] : List Int)).bind fun v93 =>
          (lnO 4 ([v82, v85, v88, v91] : List Int)).bind fun v94 =>
          some (([v82, v85, v88, v91] : List Int))) some) some

def digest_padded (rest : (List Int)) (n : Int) : Option (List Int) :=
  bindS (S := Int) (A := (List Int))
    ((some (IntKind.i64.wrap ((rest.length : Int) + 1))).bind fun v1 =>
    (some (IntKind.i64.wrap (v1 + 8))).bind fun v2 =>
    cond ((decide (64 < v2)))
      (some (.inl 128))
      (some (.inl 64)))
    (fun (s4 : Int) =>
      (mkO 1 s4 (0 : Int)).bind fun v9 =>
      (some (copyL v9 rest)).bind fun v10 =>
      (ixO (rest.length : Int) v10.length).bind fun v11 =>
      (some (v10.set v11 128)).bind fun v12 =>
      (some (IntKind.u64.wrap n)).bind fun v13 =>
      (shlO .u64 v13 3).bind fun v14 =>
      bindS (S := ((List Int))) (A := (List Int))
        (loopF (S := ((List Int) × Int)) (O := ((List Int)) ⊕ (List Int)) (fun ((s27, s28) : (List Int) × Int) =>
          cond ((decide (s28 < 8)))
            ((some (IntKind.i64.wrap (s4 - 8))).bind fun v16 =>
            (some (IntKind.i64.wrap (v16 + s28))).bind fun v17 =>
            (some (IntKind.i64.wrap (8 * s28))).bind fun v18 =>
            (shrO .u64 v14 v18).bind fun v19 =>
            (some (IntKind.u8.wrap v19)).bind fun v20 =>
            (ixO v17 s27.length).bind fun v21 =>
            (some (s27.set v21 v20)).bind fun v22 =>
            (some (IntKind.i64.wrap (s28 + 1))).bind fun v23 =>
            some (.inl (v22, v23)))
            (some (.inr (.inl s27))))
          BIG (v12, 0))
        (fun (s30 : (List Int)) =>
          some (s30)) some) some

def digest_Sum (b : (List Int)) : Option (List Int) :=
  (lnO 4 ((List.replicate 4 (0 : Int)))).bind fun v1 =>
  (lnO 4 ([1732584193, 4023233417, 2562383102, 271733878] : List Int)).bind fun v2 =>
  (quoO .i64 (b.length : Int) 64).bind fun v3 =>
  (some (IntKind.i64.wrap (v3 * 64))).bind fun v4 =>
  bindS (S := ((List Int))) (A := (List Int))
    (loopF (S := ((List Int) × Int)) (O := ((List Int)) ⊕ (List Int)) (fun ((s16, s17) : (List Int) × Int) =>
      cond ((decide (s17 < v4)))
        ((lnO 4 s16).bind fun v6 =>
        (some (IntKind.i64.wrap (s17 + 64))).bind fun v7 =>
        (sliO b s17 v7).bind fun v8 =>
        (digest_state_block s16 v8).bind fun v9 =>
        (lnO 4 s16).bind fun v10 =>
        (lnO 4 v9).bind fun v11 =>
        (some (IntKind.i64.wrap (s17 + 64))).bind fun v12 =>
        some (.inl (v9, v12)))
        (some (.inr (.inl s16))))
      BIG ((([1732584193, 4023233417, 2562383102, 271733878] : List Int), 0)))
    (fun (s19 : (List Int)) =>
      (sliO b v4 (b.length : Int)).bind fun v27 =>
      (digest_padded v27 (b.length : Int)).bind fun v28 =>
      bindS (S := ((List Int))) (A := (List Int))
        (loopF (S := ((List Int) × (List Int) × Int)) (O := ((List Int)) ⊕ (List Int)) (fun ((s41, s42, s43) : (List Int) × (List Int) × Int) =>
          cond ((decide (s43 < (s42.length : Int))))
            ((lnO 4 s41).bind fun v30 =>
            (some (IntKind.i64.wrap (s43 + 64))).bind fun v31 =>
            (sliO s42 s43 v31).bind fun v32 =>
            (digest_state_block s41 v32).bind fun v33 =>
            (lnO 4 s41).bind fun v34 =>
            (lnO 4 v33).bind fun v35 =>
            (some (IntKind.i64.wrap (s43 + 64))).bind fun v36 =>
            some (.inl (v33, s42, v36)))
            (some (.inr (.inl s41))))
          BIG (s19, v28, 0))
        (fun (s45 : (List Int)) =>
          bindS (S := ((List Int))) (A := (List Int))
            (loopF (S := ((List Int) × Int)) (O := ((List Int)) ⊕ (List Int)) (fun ((s67, s68) : (List Int) × Int) =>
              cond ((decide (s68 < 16)))
                ((quoO .i64 s68 4).bind fun v54 =>
                (ixO v54 4).bind fun v55 =>
                (getO s45 v55).bind fun v56 =>
                (remO s68 4).bind fun v57 =>
                (some (IntKind.i64.wrap (8 * v57))).bind fun v58 =>
                (shrO .u32 v56 v58).bind fun v59 =>
                (some (IntKind.u8.wrap v59)).bind fun v60 =>
                (ixO s68 16).bind fun v61 =>
                (setO s67 v61 v60).bind fun v62 =>
                (some (IntKind.i64.wrap (s68 + 1))).bind fun v63 =>
                some (.inl (v62, v63)))
                (some (.inr (.inl s67))))
              BIG (((List.replicate 16 (0 : Int)), 0)))
            (fun (s70 : (List Int)) =>
              (lnO 16 s70).bind fun v78 =>
              (lnO 16 ((List.replicate 16 (0 : Int)))).bind fun v79 =>
              (lnO 16 s70).bind fun v80 =>
              (lnO 16 s70).bind fun v81 =>
              some (s70)) some) some) some

def digest_Keyed (key : (List Int)) (text : (List Int)) : Option (List Int) :=
  bindS (S := (List Int)) (A := (List Int))
    (cond ((decide (64 < (key.length : Int))))
      ((digest_Sum key).bind fun v2 =>
      (lnO 16 ((List.replicate 16 (0 : Int)))).bind fun v3 =>
      (lnO 16 v2).bind fun v4 =>
      (lnO 16 v2).bind fun v5 =>
      (lnO 64 ((List.replicate 64 (0 : Int)))).bind fun v6 =>
      some (.inl (copyL ((List.replicate 64 (0 : Int))) v2)))
      ((lnO 64 ((List.replicate 64 (0 : Int)))).bind fun v7 =>
      some (.inl (copyL ((List.replicate 64 (0 : Int))) key))))
    (fun (s8 : (List Int)) =>
      (some (IntKind.i64.wrap (64 + (text.length : Int)))).bind fun v13 =>
      (mkcO 1 v13).bind fun v14 =>
      (mkcO 1 128).bind fun v15 =>
      (lnO 64 s8).bind fun v16 =>
      bindS (S := ((List Int) × (List Int))) (A := (List Int))
        (loopF (S := ((List Int) × (List Int) × Int)) (O := ((List Int) × (List Int)) ⊕ (List Int)) (fun ((s29, s30, s31) : (List Int) × (List Int) × Int) =>
          cond ((decide (s31 < 64)))
            ((ixO s31 64).bind fun v18 =>
            (getO s8 v18).bind fun v19 =>
            (some (bits .xor .u8 v19 54)).bind fun v20 =>
            (appO 1 s29 [v20]).bind fun v21 =>
            (some (bits .xor .u8 v19 92)).bind fun v22 =>
            (appO 1 s30 [v22]).bind fun v23 =>
            (some (IntKind.i64.wrap (s31 + 1))).bind fun v24 =>
            some (.inl (v21, v23, v24)))
            (some (.inr (.inl (s29, s30)))))
          BIG ((([] : List Int), ([] : List Int), 0)))
        (fun ((s33, s34) : (List Int) × (List Int)) =>
          (appO 1 s33 text).bind fun v42 =>
          (digest_Sum v42).bind fun v43 =>
          (lnO 16 ((List.replicate 16 (0 : Int)))).bind fun v44 =>
          (lnO 16 v43).bind fun v45 =>
          (lnO 16 v43).bind fun v46 =>
          (appO 1 s34 v43).bind fun v47 =>
          (digest_Sum v47).bind fun v48 =>
          (lnO 16 ((List.replicate 16 (0 : Int)))).bind fun v49 =>
          (lnO 16 v48).bind fun v50 =>
          (lnO 16 v48).bind fun v51 =>
          some (v48)) some) some

def cram_Answer (user : ByteArray) (secret : ByteArray) (challenge : ByteArray) : Option ByteArray :=
  (some (sbytes secret)).bind fun v1 =>
  (some (sbytes challenge)).bind fun v2 =>
  (digest_Keyed v1 v2).bind fun v3 =>
  (lnO 16 ((List.replicate 16 (0 : Int)))).bind fun v4 =>
  (lnO 16 v3).bind fun v5 =>
  (catO user (⟨#[32]⟩ : ByteArray)).bind fun v6 =>
  (lnO 16 v3).bind fun v7 =>
  (cram_Hex v3).bind fun v8 =>
  (catO v6 v8).bind fun v9 =>
  (some (sbytes v9)).bind fun v10 =>
  (cram_Encode v10).bind fun v11 =>
  some (v11)

def cram_Verify (user : ByteArray) (secret : ByteArray) (challenge : ByteArray) (line : ByteArray) : Option Bool :=
  (cram_Answer user secret challenge).bind fun v1 =>
  some ((line.toList == v1.toList))

def wherrylaw10_wakes : Option Bool :=
  bindS (S := Bool) (A := Bool)
    ((cram_Answer (⟨#[116, 105, 109]⟩ : ByteArray) (⟨#[116, 97, 110, 115, 116, 97, 97, 102, 116, 97, 110, 115, 116, 97, 97, 102]⟩ : ByteArray) (⟨#[60, 49, 56, 57, 54, 46, 54, 57, 55, 49, 55, 48, 57, 53, 50, 64, 112, 111, 115, 116, 111, 102, 102, 105, 99, 101, 46, 114, 101, 115, 116, 111, 110, 46, 109, 99, 105, 46, 110, 101, 116, 62]⟩ : ByteArray)).bind fun v1 =>
    cond ((v1.toList == (⟨#[100, 71, 108, 116, 73, 71, 73, 53, 77, 84, 78, 104, 78, 106, 65, 121, 89, 122, 100, 108, 90, 71, 69, 51, 89, 84, 81, 53, 78, 87, 73, 48, 90, 84, 90, 108, 78, 122, 77, 122, 78, 71, 81, 122, 79, 68, 107, 119]⟩ : ByteArray).toList))
      ((cram_Encode [97]).bind fun v2 =>
      cond ((v2.toList == (⟨#[89, 81, 61, 61]⟩ : ByteArray).toList))
        ((cram_Hex [171]).bind fun v3 =>
        some (.inl ((v3.toList == (⟨#[97, 98]⟩ : ByteArray).toList))))
        (some (.inl false)))
      (some (.inl false)))
    (fun (s4 : Bool) =>
      some (s4)) some

def wherrylaw10_CramExact (b : (List Int)) (s : ByteArray) (user : ByteArray) (secret : ByteArray) (challenge : ByteArray) (line : ByteArray) : Option Bool :=
  bindS (S := Bool) (A := Bool)
    (cond ((decide (300 < (b.length : Int))))
      (some (.inl true))
      (cond ((decide (400 < (s.size : Int))))
        (some (.inl true))
        ((some (IntKind.i64.wrap ((user.size : Int) + (secret.size : Int)))).bind fun v1 =>
        (some (IntKind.i64.wrap (v1 + (challenge.size : Int)))).bind fun v2 =>
        (some (IntKind.i64.wrap (v2 + (line.size : Int)))).bind fun v3 =>
        some (.inl ((decide (800 < v3)))))))
    (fun (s4 : Bool) =>
      cond (s4)
        (some (true))
        ((wherrykeep_Twin b).bind fun v9 =>
        (cram_Decode s).bind fun v10 =>
        (wherryref08_Decode s).bind fun v11 =>
        (wherryref08_Answer user secret challenge).bind fun v12 =>
        bindS (S := Bool) (A := Bool)
          ((cram_Encode v9).bind fun v13 =>
          (wherryref08_Encode b).bind fun v14 =>
          cond ((v13.toList == v14.toList))
            ((cram_Hex v9).bind fun v15 =>
            (wherryref08_Hex b).bind fun v16 =>
            cond ((v15.toList == v16.toList))
              ((some (v11.2 == (v10.2 == 0))).bind fun v17 =>
              cond ((v11.2 == (v10.2 == 0)))
                (cond (v11.2)
                  ((wherrykeep_Bytes v10.1 v11.1).bind fun v18 =>
                  cond (v18)
                    ((cram_Answer user secret challenge).bind fun v19 =>
                    cond ((v19.toList == v12.toList))
                      ((cram_Verify user secret challenge line).bind fun v20 =>
                      (some (v20 == (line.toList == v12.toList))).bind fun v21 =>
                      cond ((v20 == (line.toList == v12.toList)))
                        ((wherrykeep_Bytes v9 b).bind fun v22 =>
                        cond (v22)
                          ((wherrylaw10_wakes ).bind fun v23 =>
                          some (.inl v23))
                          (some (.inl false)))
                        (some (.inl false)))
                      (some (.inl false)))
                    (some (.inl false)))
                  (cond ((v10.2 == 5))
                    ((wherrykeep_Bytes v10.1 v11.1).bind fun v24 =>
                    cond (v24)
                      ((cram_Answer user secret challenge).bind fun v25 =>
                      cond ((v25.toList == v12.toList))
                        ((cram_Verify user secret challenge line).bind fun v26 =>
                        (some (v26 == (line.toList == v12.toList))).bind fun v27 =>
                        cond ((v26 == (line.toList == v12.toList)))
                          ((wherrykeep_Bytes v9 b).bind fun v28 =>
                          cond (v28)
                            ((wherrylaw10_wakes ).bind fun v29 =>
                            some (.inl v29))
                            (some (.inl false)))
                          (some (.inl false)))
                        (some (.inl false)))
                      (some (.inl false)))
                    (some (.inl false))))
                (some (.inl false)))
              (some (.inl false)))
            (some (.inl false)))
          (fun (s30 : Bool) =>
            some (s30)) some)) some

def wherrylaw10_CramProves (user : ByteArray) (secret : ByteArray) (challenge : ByteArray) (other : ByteArray) (at_ : Int) : Option Bool :=
  (some (IntKind.i64.wrap ((user.size : Int) + (secret.size : Int)))).bind fun v1 =>
  (some (IntKind.i64.wrap (v1 + (challenge.size : Int)))).bind fun v2 =>
  (some (IntKind.i64.wrap (v2 + (other.size : Int)))).bind fun v3 =>
  cond ((decide (800 < v3)))
    (some (true))
    ((cram_Answer user secret challenge).bind fun v5 =>
    bindS (S := Bool) (A := Bool)
      (cond (((v5.size : Int) == 0))
        (some (.inl true))
        ((cram_Verify user secret challenge v5).bind fun v6 =>
        cond ((!v6))
          (some (.inl true))
          ((catO v5 (⟨#[61]⟩ : ByteArray)).bind fun v7 =>
          (cram_Verify user secret challenge v7).bind fun v8 =>
          some (.inl v8))))
      (fun (s9 : Bool) =>
        cond (s9)
          (some (false))
          ((some (IntKind.u64.wrap at_)).bind fun v14 =>
          (some (IntKind.u64.wrap (v5.size : Int))).bind fun v15 =>
          (remO v14 v15).bind fun v16 =>
          (some (IntKind.i64.wrap v16)).bind fun v17 =>
          (some (sbytes v5)).bind fun v18 =>
          (ixO v17 v18.length).bind fun v19 =>
          (getO v18 v19).bind fun v20 =>
          (some (bits .xor .u8 v20 1)).bind fun v21 =>
          (ixO v17 v18.length).bind fun v22 =>
          (some (v18.set v22 v21)).bind fun v23 =>
          bindS (S := Bool) (A := Bool)
            ((some (bstr v23)).bind fun v24 =>
            (cram_Verify user secret challenge v24).bind fun v25 =>
            cond (v25)
              (some (.inl true))
              (cond ((!(user.toList == other.toList)))
                ((cram_Verify other secret challenge v5).bind fun v26 =>
                some (.inl v26))
                (some (.inl false))))
            (fun (s27 : Bool) =>
              cond (s27)
                (some (false))
                ((some (sbytes secret)).bind fun v32 =>
                (some (sbytes challenge)).bind fun v33 =>
                (digest_Keyed v32 v33).bind fun v34 =>
                (some (sbytes secret)).bind fun v35 =>
                (some (sbytes other)).bind fun v36 =>
                (digest_Keyed v35 v36).bind fun v37 =>
                (lnO 16 ((List.replicate 16 (0 : Int)))).bind fun v38 =>
                (lnO 16 v34).bind fun v39 =>
                (lnO 16 ((List.replicate 16 (0 : Int)))).bind fun v40 =>
                (lnO 16 v37).bind fun v41 =>
                bindS (S := Bool) (A := Bool)
                  ((cram_Verify user secret other v5).bind fun v42 =>
                  (lnO 16 v34).bind fun v43 =>
                  (lnO 16 v37).bind fun v44 =>
                  (lnO 16 v34).bind fun v45 =>
                  (lnO 16 v37).bind fun v46 =>
                  (some (v42 == (v34 == v37))).bind fun v47 =>
                  cond ((v42 == (v34 == v37)))
                    ((wherrylaw10_wakes ).bind fun v48 =>
                    some (.inl v48))
                    (some (.inl false)))
                  (fun (s49 : Bool) =>
                    some (s49)) some)) some)) some)

def wherrylaw10_CramBad (how : Int) (b : (List Int)) : Option Bool :=
  cond ((decide (60 < (b.length : Int))))
    (some (true))
    ((wherrykeep_Twin b).bind fun v2 =>
    (appO 1 v2 [1, 2, 3]).bind fun v3 =>
    (cram_Encode v3).bind fun v4 =>
    (some (IntKind.u64.wrap how)).bind fun v5 =>
    (remO v5 10).bind fun v6 =>
    (some (IntKind.i64.wrap v6)).bind fun v7 =>
    (ixO v7 ([(⟨#[89, 81, 61]⟩ : ByteArray), (⟨#[89, 82, 61, 61]⟩ : ByteArray), (⟨#[89, 87, 70, 61]⟩ : ByteArray), (⟨#[89, 61, 61, 61]⟩ : ByteArray), (⟨#[89, 32, 81, 61]⟩ : ByteArray), (⟨#[61, 89, 81, 61]⟩ : ByteArray), (⟨#[89, 81, 61, 61, 89, 81, 61, 61]⟩ : ByteArray), (⟨#[89, 95, 81, 61]⟩ : ByteArray), (⟨#[61, 61, 61, 61]⟩ : ByteArray), (⟨#[89, 81, 61, 10]⟩ : ByteArray)]).length).bind fun v8 =>
    (getO ([(⟨#[89, 81, 61]⟩ : ByteArray), (⟨#[89, 82, 61, 61]⟩ : ByteArray), (⟨#[89, 87, 70, 61]⟩ : ByteArray), (⟨#[89, 61, 61, 61]⟩ : ByteArray), (⟨#[89, 32, 81, 61]⟩ : ByteArray), (⟨#[61, 89, 81, 61]⟩ : ByteArray), (⟨#[89, 81, 61, 61, 89, 81, 61, 61]⟩ : ByteArray), (⟨#[89, 95, 81, 61]⟩ : ByteArray), (⟨#[61, 61, 61, 61]⟩ : ByteArray), (⟨#[89, 81, 61, 10]⟩ : ByteArray)]) v8).bind fun v9 =>
    (cram_Decode v9).bind fun v10 =>
    (catO v4 (⟨#[65]⟩ : ByteArray)).bind fun v11 =>
    (cram_Decode v11).bind fun v12 =>
    (cram_Decode (⟨#[]⟩ : ByteArray)).bind fun v13 =>
    bindS (S := Bool) (A := Bool)
      (cond ((v10.2 == 5))
        (cond (((v10.1.length : Int) == 0))
          (cond ((v12.2 == 5))
            (cond (((v12.1.length : Int) == 0))
              (cond ((v13.2 == 0))
                (cond (((v13.1.length : Int) == 0))
                  ((wherrylaw10_wakes ).bind fun v14 =>
                  some (.inl v14))
                  (some (.inl false)))
                (some (.inl false)))
              (some (.inl false)))
            (some (.inl false)))
          (some (.inl false)))
        (some (.inl false)))
      (fun (s15 : Bool) =>
        some (s15)) some)

def wherrylaw10_digit (c : Int) : Option Int :=
  bindS (S := Bool) (A := Int)
    (cond ((decide (48 ≤ c)))
      (some (.inl ((decide (c ≤ 57)))))
      (some (.inl false)))
    (fun (s1 : Bool) =>
      cond (s1)
        ((some (IntKind.u8.wrap (c - 48))).bind fun v6 =>
        (some (IntKind.i64.wrap v6)).bind fun v7 =>
        some (v7))
        (bindS (S := Bool) (A := Int)
          (cond ((decide (97 ≤ c)))
            (some (.inl ((decide (c ≤ 102)))))
            (some (.inl false)))
          (fun (s8 : Bool) =>
            cond (s8)
              ((some (IntKind.u8.wrap (c - 97))).bind fun v13 =>
              (some (IntKind.i64.wrap v13)).bind fun v14 =>
              (some (IntKind.i64.wrap (v14 + 10))).bind fun v15 =>
              some (v15))
              (some ((-100)))) some)) some

def wherrylaw10_CramHexes (b : (List Int)) : Option Bool :=
  cond ((decide (300 < (b.length : Int))))
    (some (true))
    ((cram_Hex b).bind fun v2 =>
    (cram_Encode b).bind fun v3 =>
    (some (IntKind.i64.wrap (2 * (b.length : Int)))).bind fun v4 =>
    cond (((v2.size : Int) != v4))
      (some (false))
      (bindS (S := (Unit)) (A := Bool)
        (loopF (S := (Int)) (O := (Unit) ⊕ Bool) (fun (s24 : Int) =>
          cond ((decide (s24 < (b.length : Int))))
            ((some (IntKind.i64.wrap (2 * s24))).bind fun v7 =>
            (chrO v2 v7).bind fun v8 =>
            (wherrylaw10_digit v8).bind fun v9 =>
            (some (IntKind.i64.wrap (v9 * 16))).bind fun v10 =>
            (some (IntKind.i64.wrap (2 * s24))).bind fun v11 =>
            (some (IntKind.i64.wrap (v11 + 1))).bind fun v12 =>
            (chrO v2 v12).bind fun v13 =>
            (wherrylaw10_digit v13).bind fun v14 =>
            (some (IntKind.i64.wrap (v10 + v14))).bind fun v15 =>
            (ixO s24 b.length).bind fun v16 =>
            (getO b v16).bind fun v17 =>
            (some (IntKind.i64.wrap v17)).bind fun v18 =>
            cond ((v15 != v18))
              (some (.inr (.inr (false))))
              ((some (IntKind.i64.wrap (s24 + 1))).bind fun v20 =>
              some (.inl v20)))
            (some (.inr (.inl ()))))
          BIG 0)
        (fun (() : Unit) =>
          bindS (S := (Int)) (A := Bool)
            (loopF (S := (Int)) (O := (Int) ⊕ Bool) (fun (s50 : Int) =>
              bindS (S := Bool) (A := ((Int) ⊕ ((Int) ⊕ Bool)))
                (cond ((decide (s50 < (v3.size : Int))))
                  ((some (IntKind.i64.wrap ((v3.size : Int) - 1))).bind fun v35 =>
                  (some (IntKind.i64.wrap (v35 - s50))).bind fun v36 =>
                  (chrO v3 v36).bind fun v37 =>
                  some (.inl (v37 == 61)))
                  (some (.inl false)))
                (fun (s63 : Bool) =>
                  cond (s63)
                    ((some (IntKind.i64.wrap (s50 + 1))).bind fun v43 =>
                    some (.inl v43))
                    (some (.inr (.inl s50)))) some)
              BIG 0)
            (fun (s56 : Int) =>
              bindS (S := Bool) (A := Bool)
                ((remO (b.length : Int) 3).bind fun v68 =>
                (some (IntKind.i64.wrap (3 - v68))).bind fun v69 =>
                (remO v69 3).bind fun v70 =>
                cond ((s56 == v70))
                  ((wherrylaw10_wakes ).bind fun v71 =>
                  some (.inl v71))
                  (some (.inl false)))
                (fun (s72 : Bool) =>
                  some (s72)) some) some) some))

def wherrylaw10_CramBack (b : (List Int)) (s : ByteArray) : Option Bool :=
  bindS (S := Bool) (A := Bool)
    (cond ((decide (300 < (b.length : Int))))
      (some (.inl true))
      (some (.inl ((decide (400 < (s.size : Int)))))))
    (fun (s1 : Bool) =>
      cond (s1)
        (some (true))
        ((cram_Encode b).bind fun v6 =>
        (cram_Decode v6).bind fun v7 =>
        bindS (S := Bool) (A := Bool)
          (cond ((v7.2 != 0))
            (some (.inl true))
            ((wherrykeep_Bytes v7.1 b).bind fun v8 =>
            cond ((!v8))
              (some (.inl true))
              ((some (IntKind.i64.wrap ((b.length : Int) + 2))).bind fun v9 =>
              (quoO .i64 v9 3).bind fun v10 =>
              (some (IntKind.i64.wrap (v10 * 4))).bind fun v11 =>
              some (.inl (((v6.size : Int) != v11))))))
          (fun (s12 : Bool) =>
            cond (s12)
              (some (false))
              ((cram_Decode s).bind fun v17 =>
              bindS (S := Bool) (A := Bool)
                (cond ((v17.2 == 0))
                  ((cram_Encode v17.1).bind fun v18 =>
                  cond ((v18.toList == s.toList))
                    ((wherrylaw10_wakes ).bind fun v19 =>
                    some (.inl v19))
                    (cond ((v17.2 == 5))
                      (cond (((v17.1.length : Int) == 0))
                        ((wherrylaw10_wakes ).bind fun v20 =>
                        some (.inl v20))
                        (some (.inl false)))
                      (some (.inl false))))
                  (cond ((v17.2 == 5))
                    (cond (((v17.1.length : Int) == 0))
                      ((wherrylaw10_wakes ).bind fun v21 =>
                      some (.inl v21))
                      (some (.inl false)))
                    (some (.inl false))))
                (fun (s22 : Bool) =>
                  some (s22)) some)) some)) some

end Go.Abs.Sh
