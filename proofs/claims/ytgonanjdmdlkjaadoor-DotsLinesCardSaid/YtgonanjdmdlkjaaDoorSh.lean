/-
  The program told in Lean: plain functions; none where Go would panic or a slice outgrow its room.
-/
import Derived.Test.YtgonanjdmdlkjaaDoorAN
set_option linter.unusedVariables false
namespace Go.Abs.Sh

def Row_int_u8.ienc (x : List Int) : List IC := [.row 1 (List.map IC.v (List.map (Value.int .u8) x))]
theorem Row_int_u8.ilen (x : List Int) : (Row_int_u8.ienc x).length = 1 := rfl

def dots_lines (b : (List Int)) : Option (List Int) :=
  some (b)

def bytes_Cut_sh (s : (List Int)) (sep : (List Int)) : Option ((List Int) × (List Int) × Bool) :=
  (bytes_Index s sep).bind fun v1 =>
  cond ((decide (0 ≤ v1)))
    ((sliO s 0 v1).bind fun v3 =>
    (some (IntKind.i64.wrap (v1 + (sep.length : Int)))).bind fun v4 =>
    (sliO s v4 (s.length : Int)).bind fun v5 =>
    some ((v3, v5, true)))
    (some ((s, [], false)))

def dots_lines_1 {S : Type} (Y : (List Int) → S → Option (S × Bool)) (c0 : (List Int)) (st : S) : Option S :=
  bindS (S := (Unit)) (A := S)
    (loopF (S := ((List Int) × S)) (O := (Unit) ⊕ S) (fun ((s17, s18) : (List Int) × S) =>
      (bytes_Cut_sh s17 [13, 10]).bind fun v1 =>
      bindS (S := S × Bool) (A := (((List Int) × S) ⊕ ((Unit) ⊕ S)))
        (cond ((!v1.2.2))
          (some (.inl (s18, true)))
          ((Y v1.1 s18).bind fun v2 =>
          some (.inl ((v2.1, (!v2.2))))))
        (fun ((s31, s32) : S × Bool) =>
          cond (s32)
            (some (.inr (.inr (s31))))
            (some (.inl (v1.2.1, s31)))) some)
      BIG (c0, st))
    (fun (() : Unit) =>
      none) some

def dots_Lines (b : (List Int)) : Option (List (List Int)) :=
  (dots_lines b).bind fun v1 =>
  bindS (S := ((List (List Int)))) (A := (Unit))
    (rangeS (S := ((List (List Int)))) (O := (Unit)) (fun Y st => Sh.dots_lines_1 Y v1 st) (fun (x : (List Int)) (s7 : (List (List Int))) =>
      (appO 1 ([] : List Int) x).bind fun v2 =>
      (appO 24 s7 [v2]).bind fun v3 =>
      some (.inl v3))
      [])
    (fun (s7 : (List (List Int))) =>
      some (s7))
    (fun (() : Unit) =>
      none)

set_option maxRecDepth 100000 in
def utf8_first : List Int := (240 :: 240 :: 240 :: 240 :: 240 :: 240 :: 240 :: 240 :: 240 :: 240 :: 240 :: 240 :: 240 :: 240 :: 240 :: 240 :: 240 :: 240 :: 240 :: 240 :: 240 :: 240 :: 240 :: 240 :: 240 :: 240 :: 240 :: 240 :: 240 :: 240 :: 240 :: 240 :: 240 :: 240 :: 240 :: 240 :: 240 :: 240 :: 240 :: 240 :: 240 :: 240 :: 240 :: 240 :: 240 :: 240 :: 240 :: 240 :: 240 :: 240 :: 240 :: 240 :: 240 :: 240 :: 240 :: 240 :: 240 :: 240 :: 240 :: 240 :: 240 :: 240 :: 240 :: 240 :: 240 :: 240 :: 240 :: 240 :: 240 :: 240 :: 240 :: 240 :: 240 :: 240 :: 240 :: 240 :: 240 :: 240 :: 240 :: 240 :: 240 :: 240 :: 240 :: 240 :: 240 :: 240 :: 240 :: 240 :: 240 :: 240 :: 240 :: 240 :: 240 :: 240 :: 240 :: 240 :: 240 :: 240 :: 240 :: 240 :: 240 :: 240 :: 240 :: 240 :: 240 :: 240 :: 240 :: 240 :: 240 :: 240 :: 240 :: 240 :: 240 :: 240 :: 240 :: 240 :: 240 :: 240 :: 240 :: 240 :: 240 :: 240 :: 240 :: 240 :: 240 :: 240 :: 240 :: 240 :: 241 :: 241 :: 241 :: 241 :: 241 :: 241 :: 241 :: 241 :: 241 :: 241 :: 241 :: 241 :: 241 :: 241 :: 241 :: 241 :: 241 :: 241 :: 241 :: 241 :: 241 :: 241 :: 241 :: 241 :: 241 :: 241 :: 241 :: 241 :: 241 :: 241 :: 241 :: 241 :: 241 :: 241 :: 241 :: 241 :: 241 :: 241 :: 241 :: 241 :: 241 :: 241 :: 241 :: 241 :: 241 :: 241 :: 241 :: 241 :: 241 :: 241 :: 241 :: 241 :: 241 :: 241 :: 241 :: 241 :: 241 :: 241 :: 241 :: 241 :: 241 :: 241 :: 241 :: 241 :: 241 :: 241 :: 2 :: 2 :: 2 :: 2 :: 2 :: 2 :: 2 :: 2 :: 2 :: 2 :: 2 :: 2 :: 2 :: 2 :: 2 :: 2 :: 2 :: 2 :: 2 :: 2 :: 2 :: 2 :: 2 :: 2 :: 2 :: 2 :: 2 :: 2 :: 2 :: 2 :: 19 :: 3 :: 3 :: 3 :: 3 :: 3 :: 3 :: 3 :: 3 :: 3 :: 3 :: 3 :: 3 :: 35 :: 3 :: 3 :: 52 :: 4 :: 4 :: 4 :: 68 :: 241 :: 241 :: 241 :: 241 :: 241 :: 241 :: 241 :: 241 :: 241 :: 241 :: 241 :: [])

set_option maxRecDepth 100000 in
def utf8_accept : List Int := (128 :: 191 :: 160 :: 191 :: 128 :: 159 :: 144 :: 191 :: 128 :: 143 :: 0 :: 0 :: 0 :: 0 :: 0 :: 0 :: 0 :: 0 :: 0 :: 0 :: 0 :: 0 :: 0 :: 0 :: 0 :: 0 :: 0 :: 0 :: 0 :: 0 :: 0 :: 0 :: [])

def bytes_ContainsAny (b : (List Int)) (chars : ByteArray) : Option Bool :=
  (bytes_IndexAny b chars).bind fun v1 =>
  some ((decide (0 ≤ v1)))

def dots_Check (b : (List Int)) : Option Int :=
  (dots_lines b).bind fun v1 =>
  bindS (S := (Int)) (A := (Int))
    (rangeS (S := (Int)) (O := (Int)) (fun Y st => Sh.dots_lines_1 Y v1 st) (fun (x : (List Int)) (s8 : Int) =>
      (bytes_ContainsAny x (⟨#[13, 10]⟩ : ByteArray)).bind fun v2 =>
      cond (v2)
        (some (.inr s8))
        ((some (IntKind.i64.wrap ((x.length : Int) + 2))).bind fun v4 =>
        (some (IntKind.i64.wrap (s8 + v4))).bind fun v5 =>
        some (.inl v5)))
      0)
    (fun (s8 : Int) =>
      cond ((s8 != (b.length : Int)))
        (some (5))
        (some (0)))
    (fun (s10 : Int) =>
      some (5))

def bytes_Equal (a : (List Int)) (b : (List Int)) : Option Bool :=
  (some (bstr a)).bind fun v1 =>
  (some (bstr b)).bind fun v2 =>
  some ((v1.toList == v2.toList))

def bytes_HasPrefix (s : (List Int)) (prefix_ : (List Int)) : Option Bool :=
  bindS (S := Bool) (A := Bool)
    (cond ((decide ((prefix_.length : Int) ≤ (s.length : Int))))
      ((sliO s 0 (prefix_.length : Int)).bind fun v1 =>
      (bytes_Equal v1 prefix_).bind fun v2 =>
      some (.inl v2))
      (some (.inl false)))
    (fun (s3 : Bool) =>
      some (s3)) some

def dots_Stuff (b : (List Int)) : Option ((List Int) × Int) :=
  (dots_Check b).bind fun v1 =>
  cond ((v1 != 0))
    (some (([], v1)))
    ((dots_lines b).bind fun v3 =>
    bindS (S := ((List Int))) (A := (Unit))
      (rangeS (S := ((List Int))) (O := (Unit)) (fun Y st => Sh.dots_lines_1 Y v3 st) (fun (x : (List Int)) (s21 : (List Int)) =>
        bindS (S := (List Int)) (A := (((List Int)) ⊕ (Unit)))
          ((bytes_HasPrefix x [46]).bind fun v4 =>
          cond (v4)
            ((appO 1 s21 (sbytes (⟨#[46]⟩ : ByteArray))).bind fun v6 =>
            some (.inl v6))
            (some (.inl s21)))
          (fun (s29 : (List Int)) =>
            (appO 1 s29 x).bind fun v12 =>
            (appO 1 v12 (sbytes (⟨#[13, 10]⟩ : ByteArray))).bind fun v13 =>
            some (.inl v13)) some)
        [])
      (fun (s21 : (List Int)) =>
        (appO 1 s21 (sbytes (⟨#[46, 13, 10]⟩ : ByteArray))).bind fun v34 =>
        some ((v34, 0)))
      (fun (() : Unit) =>
        none))

def wherrykeep_Bytes (a : (List Int)) (b : (List Int)) : Option Bool :=
  cond (((a.length : Int) != (b.length : Int)))
    (some (false))
    (bindS (S := (Unit)) (A := Bool)
      (loopF (S := (Int)) (O := (Unit) ⊕ Bool) (fun (s12 : Int) =>
        cond ((decide (s12 < (a.length : Int))))
          ((ixO s12 a.length).bind fun v3 =>
          (getO a v3).bind fun v4 =>
          (ixO s12 b.length).bind fun v5 =>
          (getO b v5).bind fun v6 =>
          cond ((v4 != v6))
            (some (.inr (.inr (false))))
            ((some (IntKind.i64.wrap (s12 + 1))).bind fun v8 =>
            some (.inl v8)))
          (some (.inr (.inl ()))))
        BIG 0)
      (fun (() : Unit) =>
        some (true)) some)

def dots_lastLine (b : (List Int)) : Option (Int × Bool) :=
  (dots_lines b).bind fun v1 =>
  bindS (S := (Int)) (A := (Int))
    (rangeS (S := (Int)) (O := (Int)) (fun Y st => Sh.dots_lines_1 Y v1 st) (fun (x : (List Int)) (s8 : Int) =>
      (some (bstr x)).bind fun v2 =>
      cond ((v2.toList == (⟨#[46]⟩ : ByteArray).toList))
        (some (.inr s8))
        ((some (IntKind.i64.wrap ((x.length : Int) + 2))).bind fun v4 =>
        (some (IntKind.i64.wrap (s8 + v4))).bind fun v5 =>
        some (.inl v5)))
      0)
    (fun (s8 : Int) =>
      some ((0, false)))
    (fun (s10 : Int) =>
      some ((s10, true)))

def bytes_TrimPrefix_sh (s : (List Int)) (prefix_ : (List Int)) : Option (List Int) :=
  (bytes_HasPrefix s prefix_).bind fun v1 =>
  cond (v1)
    ((sliO s (prefix_.length : Int) (s.length : Int)).bind fun v3 =>
    some (v3))
    (some (s))

def dots_Strip (b : (List Int)) : Option ((List Int) × Int × Int) :=
  (dots_lastLine b).bind fun v1 =>
  cond ((!v1.2))
    (some (([], 0, 9)))
    ((sliO b 0 v1.1).bind fun v3 =>
    (dots_Check v3).bind fun v4 =>
    cond ((v4 != 0))
      (some (([], 0, v4)))
      ((sliO b 0 v1.1).bind fun v6 =>
      (dots_lines v6).bind fun v7 =>
      bindS (S := ((List Int))) (A := (Unit))
        (rangeS (S := ((List Int))) (O := (Unit)) (fun Y st => Sh.dots_lines_1 Y v7 st) (fun (x : (List Int)) (s12 : (List Int)) =>
          (bytes_TrimPrefix_sh x [46]).bind fun v8 =>
          (appO 1 s12 v8).bind fun v9 =>
          (appO 1 v9 (sbytes (⟨#[13, 10]⟩ : ByteArray))).bind fun v10 =>
          some (.inl v10))
          [])
        (fun (s12 : (List Int)) =>
          (some (IntKind.i64.wrap (v1.1 + 3))).bind fun v13 =>
          some ((s12, v13, 0)))
        (fun (() : Unit) =>
          none)))

def wherrylaw14_wakes : Option Bool :=
  (dots_Stuff [46, 13, 10]).bind fun v1 =>
  (dots_Strip v1.1).bind fun v2 =>
  bindS (S := Bool) (A := Bool)
    (cond ((v1.2 == 0))
      (cond ((v2.2.2 == 0))
        ((some (bstr v1.1)).bind fun v3 =>
        cond ((v3.toList == (⟨#[46, 46, 13, 10, 46, 13, 10]⟩ : ByteArray).toList))
          ((wherrykeep_Bytes v2.1 [46, 13, 10]).bind fun v4 =>
          cond (v4)
            (cond ((v2.2.1 == 7))
              ((dots_Check [97, 10]).bind fun v5 =>
              cond ((v5 == 5))
                ((dots_Lines [97, 13, 10, 98, 13, 10, 99]).bind fun v6 =>
                some (.inl (((v6.length : Int) == 2))))
                (some (.inl false)))
              (some (.inl false)))
            (some (.inl false)))
          (some (.inl false)))
        (some (.inl false)))
      (some (.inl false)))
    (fun (s7 : Bool) =>
      some (s7)) some

def wherrylaw14_DotsLines (l : (List (List Int))) : Option Bool :=
  cond ((decide (40 < (l.length : Int))))
    (some (true))
    (bindS (S := ((List Int) × (List Int))) (A := Bool)
      (loopF (S := ((List Int) × (List Int) × Int)) (O := ((List Int) × (List Int)) ⊕ Bool) (fun ((s130, s131, s132) : (List Int) × (List Int) × Int) =>
        cond ((decide (s132 < (l.length : Int))))
          ((ixO s132 l.length).bind fun v3 =>
          (getO l v3).bind fun v4 =>
          cond ((decide (60 < (v4.length : Int))))
            (some (.inr (.inr (true))))
            (bindS (S := (Unit)) (A := (((List Int) × (List Int) × Int) ⊕ (((List Int) × (List Int)) ⊕ Bool)))
              (loopF (S := (Int)) (O := (Unit) ⊕ (((List Int) × (List Int) × Int) ⊕ (((List Int) × (List Int)) ⊕ Bool))) (fun (s204 : Int) =>
                (ixO s132 l.length).bind fun v6 =>
                (getO l v6).bind fun v7 =>
                cond ((decide (s204 < (v7.length : Int))))
                  (bindS (S := Bool) (A := ((Int) ⊕ ((Unit) ⊕ (((List Int) × (List Int) × Int) ⊕ (((List Int) × (List Int)) ⊕ Bool)))))
                    ((ixO s132 l.length).bind fun v9 =>
                    (getO l v9).bind fun v10 =>
                    (ixO s204 v10.length).bind fun v11 =>
                    (getO v10 v11).bind fun v12 =>
                    cond ((v12 == 13))
                      (some (.inl true))
                      ((ixO s132 l.length).bind fun v13 =>
                      (getO l v13).bind fun v14 =>
                      (ixO s204 v14.length).bind fun v15 =>
                      (getO v14 v15).bind fun v16 =>
                      some (.inl (v16 == 10))))
                    (fun (s218 : Bool) =>
                      cond (s218)
                        (some (.inr (.inr (.inr (.inr (true))))))
                        ((some (IntKind.i64.wrap (s204 + 1))).bind fun v22 =>
                        some (.inl v22))) some)
                  (some (.inr (.inl ()))))
                BIG 0)
              (fun (() : Unit) =>
                (ixO s132 l.length).bind fun v49 =>
                (getO l v49).bind fun v50 =>
                (appO 1 s130 v50).bind fun v51 =>
                (appO 1 v51 [13, 10]).bind fun v52 =>
                bindS (S := (List Int)) (A := (((List Int) × (List Int) × Int) ⊕ (((List Int) × (List Int)) ⊕ Bool)))
                  (bindS (S := Bool) (A := (((List Int)) ⊕ (((List Int) × (List Int) × Int) ⊕ (((List Int) × (List Int)) ⊕ Bool))))
                    ((ixO s132 l.length).bind fun v53 =>
                    (getO l v53).bind fun v54 =>
                    cond ((decide (0 < (v54.length : Int))))
                      ((ixO s132 l.length).bind fun v55 =>
                      (getO l v55).bind fun v56 =>
                      (ixO 0 v56.length).bind fun v57 =>
                      (getO v56 v57).bind fun v58 =>
                      some (.inl (v58 == 46)))
                      (some (.inl false)))
                    (fun (s232 : Bool) =>
                      cond (s232)
                        ((appO 1 s131 [46]).bind fun v64 =>
                        some (.inl v64))
                        (some (.inl s131))) some)
                  (fun (s228 : (List Int)) =>
                    (ixO s132 l.length).bind fun v74 =>
                    (getO l v74).bind fun v75 =>
                    (appO 1 s228 v75).bind fun v76 =>
                    (appO 1 v76 [13, 10]).bind fun v77 =>
                    (some (IntKind.i64.wrap (s132 + 1))).bind fun v78 =>
                    some (.inl (v52, v77, v78))) some) some))
          (some (.inr (.inl (s130, s131)))))
        BIG ([], [], 0))
      (fun ((s181, s182) : (List Int) × (List Int)) =>
        (dots_Lines s181).bind fun v237 =>
        (dots_Stuff s181).bind fun v238 =>
        bindS (S := Bool) (A := Bool)
          ((dots_Check s181).bind fun v239 =>
          cond ((v239 != 0))
            (some (.inl true))
            (cond ((v238.2 != 0))
              (some (.inl true))
              (cond (((v237.length : Int) != (l.length : Int)))
                (some (.inl true))
                ((appO 1 s182 [46, 13, 10]).bind fun v240 =>
                (wherrykeep_Bytes v238.1 v240).bind fun v241 =>
                some (.inl (!v241))))))
          (fun (s242 : Bool) =>
            cond (s242)
              (some (false))
              (bindS (S := (Unit)) (A := Bool)
                (loopF (S := (Int)) (O := (Unit) ⊕ Bool) (fun (s258 : Int) =>
                  cond ((decide (s258 < (l.length : Int))))
                    ((ixO s258 v237.length).bind fun v248 =>
                    (getO v237 v248).bind fun v249 =>
                    (ixO s258 l.length).bind fun v250 =>
                    (getO l v250).bind fun v251 =>
                    (wherrykeep_Bytes v249 v251).bind fun v252 =>
                    cond ((!v252))
                      (some (.inr (.inr (false))))
                      ((some (IntKind.i64.wrap (s258 + 1))).bind fun v254 =>
                      some (.inl v254)))
                    (some (.inr (.inl ()))))
                  BIG 0)
                (fun (() : Unit) =>
                  (wherrylaw14_wakes ).bind fun v269 =>
                  some (v269)) some)) some) some)

def wherrykeep_Twin (l : (List Int)) : Option (List Int) :=
  (appO 1 ([] : List Int) l).bind fun v1 =>
  some (v1)

def wherrylaw14_DotsBare (a : (List Int)) (b : (List Int)) (how : Int) : Option Bool :=
  bindS (S := Bool) (A := Bool)
    (cond ((decide (2000 < (a.length : Int))))
      (some (.inl true))
      (some (.inl ((decide (2000 < (b.length : Int)))))))
    (fun (s1 : Bool) =>
      cond (s1)
        (some (true))
        (bindS (S := (Unit)) (A := Bool)
          (loopF (S := (Int)) (O := (Unit) ⊕ Bool) (fun (s24 : Int) =>
            cond ((decide (s24 < (a.length : Int))))
              (bindS (S := Bool) (A := ((Int) ⊕ ((Unit) ⊕ Bool)))
                ((ixO s24 a.length).bind fun v7 =>
                (getO a v7).bind fun v8 =>
                cond ((v8 == 13))
                  (some (.inl true))
                  ((ixO s24 a.length).bind fun v9 =>
                  (getO a v9).bind fun v10 =>
                  some (.inl (v10 == 10))))
                (fun (s38 : Bool) =>
                  cond (s38)
                    (some (.inr (.inr (true))))
                    ((some (IntKind.i64.wrap (s24 + 1))).bind fun v16 =>
                    some (.inl v16))) some)
              (some (.inr (.inl ()))))
            BIG 0)
          (fun (() : Unit) =>
            bindS (S := (Unit)) (A := Bool)
              (loopF (S := (Int)) (O := (Unit) ⊕ Bool) (fun (s61 : Int) =>
                cond ((decide (s61 < (b.length : Int))))
                  (bindS (S := Bool) (A := ((Int) ⊕ ((Unit) ⊕ Bool)))
                    ((ixO s61 b.length).bind fun v44 =>
                    (getO b v44).bind fun v45 =>
                    cond ((v45 == 13))
                      (some (.inl true))
                      ((ixO s61 b.length).bind fun v46 =>
                      (getO b v46).bind fun v47 =>
                      some (.inl (v47 == 10))))
                    (fun (s75 : Bool) =>
                      cond (s75)
                        (some (.inr (.inr (true))))
                        ((some (IntKind.i64.wrap (s61 + 1))).bind fun v53 =>
                        some (.inl v53))) some)
                  (some (.inr (.inl ()))))
                BIG 0)
              (fun (() : Unit) =>
                (wherrykeep_Twin a).bind fun v80 =>
                bindS (S := (List Int)) (A := Bool)
                  ((some (IntKind.u64.wrap how)).bind fun v81 =>
                  (remO v81 4).bind fun v82 =>
                  bindS (S := (List Int)) (A := (((List Int)) ⊕ Bool))
                    (cond ((v82 == 0))
                      ((appO 1 v80 [13]).bind fun v84 =>
                      (appO 1 v84 b).bind fun v85 =>
                      (appO 1 v85 [13, 10]).bind fun v86 =>
                      cond (((b.length : Int) == 0))
                        ((wherrylaw14_wakes ).bind fun v88 =>
                        some (.inr (.inr (v88))))
                        (some (.inl v86)))
                      (cond ((v82 == 1))
                        ((appO 1 v80 [10]).bind fun v90 =>
                        (appO 1 v90 b).bind fun v91 =>
                        (appO 1 v91 [13, 10]).bind fun v92 =>
                        some (.inl v92))
                        (cond ((v82 == 2))
                          ((appO 1 v80 [13, 10]).bind fun v94 =>
                          (appO 1 v94 b).bind fun v95 =>
                          (appO 1 v95 [120]).bind fun v96 =>
                          some (.inl v96))
                          ((appO 1 v80 [10, 13]).bind fun v97 =>
                          (appO 1 v97 b).bind fun v98 =>
                          (appO 1 v98 [13, 10]).bind fun v99 =>
                          some (.inl v99)))))
                    (fun (s116 : (List Int)) =>
                      some (.inl s116)) some)
                  (fun (s108 : (List Int)) =>
                    (dots_Stuff s108).bind fun v124 =>
                    bindS (S := Bool) (A := Bool)
                      ((dots_Check s108).bind fun v125 =>
                      cond ((v125 == 5))
                        (cond ((v124.2 == 5))
                          (cond (((v124.1.length : Int) == 0))
                            ((wherrylaw14_wakes ).bind fun v126 =>
                            some (.inl v126))
                            (some (.inl false)))
                          (some (.inl false)))
                        (some (.inl false)))
                      (fun (s127 : Bool) =>
                        some (s127)) some) some) some) some)) some

def wherryref11_Body (b : (List Int)) : Option Bool :=
  bindS (S := (Unit)) (A := Bool)
    (loopF (S := (Int)) (O := (Unit) ⊕ Bool) (fun (s31 : Int) =>
      cond ((decide (s31 < (b.length : Int))))
        (bindS (S := Bool) (A := ((Int) ⊕ ((Unit) ⊕ Bool)))
          ((ixO s31 b.length).bind fun v2 =>
          (getO b v2).bind fun v3 =>
          cond ((v3 == 13))
            ((some (IntKind.i64.wrap (s31 + 1))).bind fun v4 =>
            cond ((decide ((b.length : Int) ≤ v4)))
              (some (.inl true))
              ((some (IntKind.i64.wrap (s31 + 1))).bind fun v5 =>
              (ixO v5 b.length).bind fun v6 =>
              (getO b v6).bind fun v7 =>
              cond ((v7 != 10))
                (some (.inl true))
                ((ixO s31 b.length).bind fun v8 =>
                (getO b v8).bind fun v9 =>
                cond ((v9 == 10))
                  (cond ((s31 == 0))
                    (some (.inl true))
                    ((some (IntKind.i64.wrap (s31 - 1))).bind fun v10 =>
                    (ixO v10 b.length).bind fun v11 =>
                    (getO b v11).bind fun v12 =>
                    some (.inl (v12 != 13))))
                  (some (.inl false)))))
            ((ixO s31 b.length).bind fun v13 =>
            (getO b v13).bind fun v14 =>
            cond ((v14 == 10))
              (cond ((s31 == 0))
                (some (.inl true))
                ((some (IntKind.i64.wrap (s31 - 1))).bind fun v15 =>
                (ixO v15 b.length).bind fun v16 =>
                (getO b v16).bind fun v17 =>
                some (.inl (v17 != 13))))
              (some (.inl false))))
          (fun (s45 : Bool) =>
            cond (s45)
              (some (.inr (.inr (false))))
              ((some (IntKind.i64.wrap (s31 + 1))).bind fun v23 =>
              some (.inl v23))) some)
        (some (.inr (.inl ()))))
      BIG 0)
    (fun (() : Unit) =>
      bindS (S := Bool) (A := Bool)
        (cond (((b.length : Int) == 0))
          (some (.inl true))
          ((some (IntKind.i64.wrap ((b.length : Int) - 1))).bind fun v50 =>
          (ixO v50 b.length).bind fun v51 =>
          (getO b v51).bind fun v52 =>
          some (.inl (v52 == 10))))
        (fun (s53 : Bool) =>
          some (s53)) some) some

def wherrylaw14_DotsBack (b : (List Int)) (more : (List Int)) : Option Bool :=
  bindS (S := Bool) (A := Bool)
    (cond ((decide (2000 < (b.length : Int))))
      (some (.inl true))
      (some (.inl ((decide (2000 < (more.length : Int)))))))
    (fun (s1 : Bool) =>
      cond (s1)
        (some (true))
        ((dots_Stuff b).bind fun v6 =>
        cond ((v6.2 != 0))
          (bindS (S := Bool) (A := Bool)
            (cond ((v6.2 == 5))
              ((dots_Check b).bind fun v8 =>
              cond ((v8 == 5))
                ((wherrylaw14_wakes ).bind fun v9 =>
                some (.inl v9))
                (some (.inl false)))
              (some (.inl false)))
            (fun (s10 : Bool) =>
              some (s10)) some)
          ((wherrykeep_Twin v6.1).bind fun v14 =>
          (appO 1 v14 more).bind fun v15 =>
          (dots_Strip v15).bind fun v16 =>
          (dots_Lines v6.1).bind fun v17 =>
          bindS (S := (Unit)) (A := Bool)
            (loopF (S := (Int)) (O := (Unit) ⊕ Bool) (fun (s28 : Int) =>
              (some (IntKind.i64.wrap ((v17.length : Int) - 1))).bind fun v18 =>
              cond ((decide (s28 < v18)))
                ((ixO s28 v17.length).bind fun v20 =>
                (getO v17 v20).bind fun v21 =>
                (some (bstr v21)).bind fun v22 =>
                cond ((v22.toList == (⟨#[46]⟩ : ByteArray).toList))
                  (some (.inr (.inr (false))))
                  ((some (IntKind.i64.wrap (s28 + 1))).bind fun v24 =>
                  some (.inl v24)))
                (some (.inr (.inl ()))))
              BIG 0)
            (fun (() : Unit) =>
              bindS (S := Bool) (A := Bool)
                (cond ((v16.2.2 == 0))
                  (cond ((v16.2.1 == (v6.1.length : Int)))
                    ((wherrykeep_Bytes v16.1 b).bind fun v39 =>
                    cond (v39)
                      (cond ((decide (0 < (v17.length : Int))))
                        ((some (IntKind.i64.wrap ((v17.length : Int) - 1))).bind fun v40 =>
                        (ixO v40 v17.length).bind fun v41 =>
                        (getO v17 v41).bind fun v42 =>
                        (some (bstr v42)).bind fun v43 =>
                        cond ((v43.toList == (⟨#[46]⟩ : ByteArray).toList))
                          ((wherrylaw14_wakes ).bind fun v44 =>
                          some (.inl v44))
                          (some (.inl false)))
                        (some (.inl false)))
                      (some (.inl false)))
                    (some (.inl false)))
                  (some (.inl false)))
                (fun (s45 : Bool) =>
                  some (s45)) some) some))) some

def wherrylaw14_DotsTwo (a : (List Int)) (b : (List Int)) : Option Bool :=
  bindS (S := Bool) (A := Bool)
    (cond ((decide (2000 < (a.length : Int))))
      (some (.inl true))
      (some (.inl ((decide (2000 < (b.length : Int)))))))
    (fun (s1 : Bool) =>
      cond (s1)
        (some (true))
        ((dots_Stuff a).bind fun v6 =>
        (dots_Stuff b).bind fun v7 =>
        bindS (S := Bool) (A := Bool)
          (cond ((v6.2 != 0))
            (some (.inl true))
            (some (.inl (v7.2 != 0))))
          (fun (s8 : Bool) =>
            cond (s8)
              ((wherrylaw14_wakes ).bind fun v13 =>
              some (v13))
              ((wherrykeep_Twin v6.1).bind fun v14 =>
              (appO 1 v14 v7.1).bind fun v15 =>
              (dots_Strip v15).bind fun v16 =>
              bindS (S := Bool) (A := Bool)
                (cond ((v16.2.2 != 0))
                  (some (.inl true))
                  (cond ((decide (v16.2.1 < 0)))
                    (some (.inl true))
                    (some (.inl ((decide ((v15.length : Int) < v16.2.1)))))))
                (fun (s17 : Bool) =>
                  cond (s17)
                    (some (false))
                    ((sliO v15 v16.2.1 (v15.length : Int)).bind fun v22 =>
                    (dots_Strip v22).bind fun v23 =>
                    bindS (S := Bool) (A := Bool)
                      (cond ((v23.2.2 == 0))
                        ((some (IntKind.i64.wrap (v16.2.1 + v23.2.1))).bind fun v24 =>
                        cond ((v24 == (v15.length : Int)))
                          ((wherrykeep_Bytes v16.1 a).bind fun v25 =>
                          cond (v25)
                            ((wherrykeep_Bytes v23.1 b).bind fun v26 =>
                            cond (v26)
                              ((wherrylaw14_wakes ).bind fun v27 =>
                              some (.inl v27))
                              (some (.inl false)))
                            (some (.inl false)))
                          (some (.inl false)))
                        (some (.inl false)))
                      (fun (s28 : Bool) =>
                        some (s28)) some)) some)) some)) some

def wherrylaw14_DotsOpen (b : (List Int)) : Option Bool :=
  bindS (S := Bool) (A := Bool)
    (cond ((decide (2000 < (b.length : Int))))
      (some (.inl true))
      ((wherryref11_Body b).bind fun v1 =>
      some (.inl (!v1))))
    (fun (s2 : Bool) =>
      cond (s2)
        (some (true))
        ((dots_Stuff b).bind fun v7 =>
        bindS (S := Bool) (A := Bool)
          (cond ((v7.2 != 0))
            (some (.inl true))
            (some (.inl ((decide ((v7.1.length : Int) < 3))))))
          (fun (s8 : Bool) =>
            cond (s8)
              (some (false))
              ((some (IntKind.i64.wrap ((v7.1.length : Int) - 1))).bind fun v13 =>
              (sliO v7.1 0 v13).bind fun v14 =>
              (dots_Strip v14).bind fun v15 =>
              (dots_Lines b).bind fun v16 =>
              bindS (S := ((List Int))) (A := Bool)
                (loopF (S := ((List Int) × Int)) (O := ((List Int)) ⊕ Bool) (fun ((s26, s27) : (List Int) × Int) =>
                  cond ((decide (s27 < (v16.length : Int))))
                    ((ixO s27 v16.length).bind fun v18 =>
                    (getO v16 v18).bind fun v19 =>
                    (appO 1 s26 v19).bind fun v20 =>
                    (appO 1 v20 [13, 10]).bind fun v21 =>
                    (some (IntKind.i64.wrap (s27 + 1))).bind fun v22 =>
                    some (.inl (v21, v22)))
                    (some (.inr (.inl s26))))
                  BIG ([], 0))
                (fun (s29 : (List Int)) =>
                  bindS (S := Bool) (A := Bool)
                    (cond ((v15.2.2 == 9))
                      ((wherrykeep_Bytes s29 b).bind fun v37 =>
                      cond (v37)
                        ((wherrylaw14_wakes ).bind fun v38 =>
                        some (.inl v38))
                        (some (.inl false)))
                      (some (.inl false)))
                    (fun (s39 : Bool) =>
                      some (s39)) some) some)) some)) some

def wherrylaw14_DotsJoin (a : (List Int)) (b : (List Int)) : Option Bool :=
  bindS (S := Bool) (A := Bool)
    (cond ((decide (2000 < (a.length : Int))))
      (some (.inl true))
      (cond ((decide (2000 < (b.length : Int))))
        (some (.inl true))
        ((wherryref11_Body a).bind fun v1 =>
        cond ((!v1))
          (some (.inl true))
          ((wherryref11_Body b).bind fun v2 =>
          some (.inl (!v2))))))
    (fun (s3 : Bool) =>
      cond (s3)
        (some (true))
        ((wherrykeep_Twin a).bind fun v8 =>
        (appO 1 v8 b).bind fun v9 =>
        (dots_Stuff a).bind fun v10 =>
        (dots_Stuff b).bind fun v11 =>
        (dots_Stuff v9).bind fun v12 =>
        bindS (S := Bool) (A := Bool)
          (cond ((v10.2 != 0))
            (some (.inl true))
            (cond ((v11.2 != 0))
              (some (.inl true))
              (cond ((v12.2 != 0))
                (some (.inl true))
                (some (.inl ((decide ((v10.1.length : Int) < 3))))))))
          (fun (s13 : Bool) =>
            cond (s13)
              (some (false))
              (bindS (S := Bool) (A := Bool)
                ((dots_Check v9).bind fun v18 =>
                cond ((v18 == 0))
                  ((some (IntKind.i64.wrap ((v10.1.length : Int) - 3))).bind fun v19 =>
                  (sliO v10.1 0 v19).bind fun v20 =>
                  (wherrykeep_Twin v20).bind fun v21 =>
                  (appO 1 v21 v11.1).bind fun v22 =>
                  (wherrykeep_Bytes v12.1 v22).bind fun v23 =>
                  cond (v23)
                    ((wherrylaw14_wakes ).bind fun v24 =>
                    some (.inl v24))
                    (some (.inl false)))
                  (some (.inl false)))
                (fun (s25 : Bool) =>
                  some (s25)) some)) some)) some

end Go.Abs.Sh
