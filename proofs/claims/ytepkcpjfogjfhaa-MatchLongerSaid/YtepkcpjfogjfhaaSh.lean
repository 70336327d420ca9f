/-
 The program told in Lean: plain functions; none where Go would panic or a slice outgrow its room.
-/
import Derived.Test.YtepkcpjfogjfhaaAN
set_option linter.unusedVariables false
namespace Go.Abs.Sh

structure T_Tok where
 Byte : Int
 Len : Int
 Dist : Int
 deriving DecidableEq, Inhabited
def T_Tok.enc (x : T_Tok) : List Value := [.int .u8 x.Byte, .int .i64 x.Len, .int .i64 x.Dist]
theorem T_Tok.len (x : T_Tok) : (T_Tok.enc x).length = 3 := rfl
def T_Tok.wf (x : T_Tok) : Prop := wfI .u8 x.Byte ∧ wfI .i64 x.Len ∧ wfI .i64 x.Dist
def T_Tok.wz (x : T_Tok) : Prop := (wfI .u8) x.Byte ∧ (wfI .i64) x.Len ∧ (wfI .i64) x.Dist

structure T_match_index where
 b : (List Int)
 last : (List ((List Int) × Int))
 back : (List Int)
 from_ : Int
 deriving DecidableEq, Inhabited

def wherryref01_in (n : Int) (lo : Int) (hi : Int) : Option Bool :=
 bindS (S := Bool) (A := Bool)
  (cond ((decide (lo ≤ n)))
   (some (.inl ((decide (n ≤ hi)))))
   (some (.inl false)))
  (fun (s1 : Bool) =>
   some (s1)) some

def wherryref01_Best (b : (List Int)) (at_ : Int) : Option (Int × Int) :=
 bindS (S := Bool) (A := (Int × Int))
  (cond ((decide (4096 < (b.length : Int))))
   (some (.inl true))
   ((some (IntKind.i64.wrap ((b.length : Int) - 1))).bind fun v1 =>
   (wherryref01_in at_ 0 v1).bind fun v2 =>
   some (.inl (!v2))))
  (fun (s3 : Bool) =>
   cond (s3)
    (some ((0, 0)))
    (bindS (S := (Int × Int)) (A := (Int × Int))
     (loopF (S := (Int × Int × Int)) (O := (Int × Int) ⊕ (Int × Int)) (fun ((s161, s162, s163) : Int × Int × Int) =>
      bindS (S := Bool) (A := ((Int × Int × Int) ⊕ ((Int × Int) ⊕ (Int × Int))))
       (cond ((decide (s163 ≤ at_)))
        (some (.inl ((decide (s163 ≤ 2048)))))
        (some (.inl false)))
       (fun (s242 : Bool) =>
        cond (s242)
         (bindS (S := Int × Int) (A := ((Int × Int × Int) ⊕ ((Int × Int) ⊕ (Int × Int))))
          (bindS (S := (Int)) (A := ((Int × Int) ⊕ ((Int × Int × Int) ⊕ ((Int × Int) ⊕ (Int × Int)))))
           (loopF (S := (Int)) (O := (Int) ⊕ ((Int × Int) ⊕ ((Int × Int × Int) ⊕ ((Int × Int) ⊕ (Int × Int))))) (fun (s293 : Int) =>
            bindS (S := Bool) (A := ((Int) ⊕ ((Int) ⊕ ((Int × Int) ⊕ ((Int × Int × Int) ⊕ ((Int × Int) ⊕ (Int × Int)))))))
             (cond ((decide (s293 < 258)))
              ((some (IntKind.i64.wrap (at_ + s293))).bind fun v13 =>
              cond ((decide (v13 < (b.length : Int))))
               ((some (IntKind.i64.wrap (at_ + s293))).bind fun v14 =>
               (ixO v14 b.length).bind fun v15 =>
               (getO b v15).bind fun v16 =>
               (some (IntKind.i64.wrap (at_ + s293))).bind fun v17 =>
               (some (IntKind.i64.wrap (v17 - s163))).bind fun v18 =>
               (ixO v18 b.length).bind fun v19 =>
               (getO b v19).bind fun v20 =>
               some (.inl (v16 == v20)))
               (some (.inl false)))
              (some (.inl false)))
             (fun (s306 : Bool) =>
              cond (s306)
               ((some (IntKind.i64.wrap (s293 + 1))).bind fun v26 =>
               some (.inl v26))
               (some (.inr (.inl s293)))) some)
            BIG 0)
           (fun (s299 : Int) =>
            cond ((decide (s161 < s299)))
             (some (.inl (s299, s163)))
             (some (.inl (s161, s162)))) some)
          (fun ((s277, s278) : Int × Int) =>
           (some (IntKind.i64.wrap (s163 + 1))).bind fun v87 =>
           some (.inl (s277, s278, v87))) some)
         (some (.inr (.inl (s161, s162))))) some)
      BIG (0, 0, 1))
     (fun ((s234, s235) : Int × Int) =>
      cond ((decide (s234 < 3)))
       (some ((0, 0)))
       (some ((s234, s235)))) some)) some

def wherryref01_tokens (b : (List Int)) : Option (List T_Tok) :=
 bindS (S := ((List T_Tok))) (A := (List T_Tok))
  (loopF (S := ((List T_Tok) × Int)) (O := ((List T_Tok)) ⊕ (List T_Tok)) (fun ((s26, s27) : (List T_Tok) × Int) =>
   cond ((decide (s27 < (b.length : Int))))
    (bindS (S := (List T_Tok) × Int) (A := (((List T_Tok) × Int) ⊕ (((List T_Tok)) ⊕ (List T_Tok))))
     ((wherryref01_Best b s27).bind fun v2 =>
     cond ((v2.1 == 0))
      ((ixO s27 b.length).bind fun v4 =>
      (getO b v4).bind fun v5 =>
      (appO 24 s26 [(T_Tok.mk v5 0 0)]).bind fun v6 =>
      (some (IntKind.i64.wrap (s27 + 1))).bind fun v7 =>
      some (.inl (v6, v7)))
      ((appO 24 s26 [(T_Tok.mk 0 v2.1 v2.2)]).bind fun v8 =>
      (some (IntKind.i64.wrap (s27 + v2.1))).bind fun v9 =>
      some (.inl (v8, v9))))
     (fun ((s45, s46) : (List T_Tok) × Int) =>
      some (.inl (s45, s46))) some)
    (some (.inr (.inl s26))))
   BIG ([], 0))
  (fun (s36 : (List T_Tok)) =>
   some (s36)) some

def wherryref01_Tokens (b : (List Int)) : Option ((List T_Tok) × Int) :=
 cond ((decide (4096 < (b.length : Int))))
  (some (([], 2)))
  ((wherryref01_tokens b).bind fun v2 =>
  some ((v2, 0)))

def wherrylaw04_wherryToks (b : (List Int)) : Option (List T_Tok) :=
 (wherryref01_Tokens b).bind fun v1 =>
 some (v1.1)

def wherrykeep_TwinToks (l : (List T_Tok)) : Option (List T_Tok) :=
 (appO 24 ([] : List T_Tok) l).bind fun v1 =>
 some (v1)

def match_validMatch (t : T_Tok) : Option Bool :=
 bindS (S := Bool) (A := Bool)
  (cond ((t.Byte == 0))
   (cond ((decide (3 ≤ t.Len)))
    (cond ((decide (t.Len ≤ 258)))
     (cond ((decide (1 ≤ t.Dist)))
      (some (.inl ((decide (t.Dist ≤ 2048)))))
      (some (.inl false)))
     (some (.inl false)))
    (some (.inl false)))
   (some (.inl false)))
  (fun (s1 : Bool) =>
   some (s1)) some

def match_Check (l : (List T_Tok)) : Option Int :=
 bindS (S := (Int)) (A := Int)
  (loopF (S := (Int × Int)) (O := (Int) ⊕ Int) (fun ((s115, s116) : Int × Int) =>
   cond ((decide (s116 < (l.length : Int))))
    (bindS (S := Int) (A := ((Int × Int) ⊕ ((Int) ⊕ Int)))
     ((ixO s116 l.length).bind fun v2 =>
     (getO l v2).bind fun v3 =>
     bindS (S := Int) (A := (Int ⊕ ((Int × Int) ⊕ ((Int) ⊕ Int))))
      (bindS (S := Bool) (A := (Int ⊕ (Int ⊕ ((Int × Int) ⊕ ((Int) ⊕ Int)))))
       (cond ((v3.Len == 0))
        (some (.inl (v3.Dist == 0)))
        (some (.inl false)))
       (fun (s220 : Bool) =>
        cond (s220)
         ((some (IntKind.i64.wrap (s115 + 1))).bind fun v9 =>
         some (.inl v9))
         (bindS (S := Bool) (A := (Int ⊕ (Int ⊕ ((Int × Int) ⊕ ((Int) ⊕ Int)))))
          ((match_validMatch v3).bind fun v10 =>
          cond (v10)
           (some (.inl ((decide (v3.Dist ≤ s115)))))
           (some (.inl false)))
          (fun (s225 : Bool) =>
           cond (s225)
            ((some (IntKind.i64.wrap (s115 + v3.Len))).bind fun v16 =>
            some (.inl v16))
            (some (.inr (.inr (.inr (.inr (1))))))) some)) some)
      (fun (s216 : Int) =>
       some (.inl s216)) some)
     (fun (s202 : Int) =>
      (some (IntKind.i64.wrap (s116 + 1))).bind fun v59 =>
      some (.inl (s202, v59))) some)
    (some (.inr (.inl s115))))
   BIG (0, 0))
  (fun (s170 : Int) =>
   cond ((decide (4096 < s170)))
    (some (2))
    (some (0))) some

def match_Expand (l : (List T_Tok)) : Option ((List Int) × Int) :=
 (match_Check l).bind fun v1 =>
 cond ((v1 != 0))
  (some (([], v1)))
  (bindS (S := ((List Int))) (A := ((List Int) × Int))
   (loopF (S := ((List Int) × Int)) (O := ((List Int)) ⊕ ((List Int) × Int)) (fun ((s58, s59) : (List Int) × Int) =>
    cond ((decide (s59 < (l.length : Int))))
     ((ixO s59 l.length).bind fun v4 =>
     (getO l v4).bind fun v5 =>
     bindS (S := (List Int)) (A := (((List Int) × Int) ⊕ (((List Int)) ⊕ ((List Int) × Int))))
      (cond ((v5.Len == 0))
       ((appO 1 s58 [v5.Byte]).bind fun v7 =>
       some (.inl v7))
       (some (.inl s58)))
      (fun (s91 : (List Int)) =>
       bindS (S := ((List Int))) (A := (((List Int) × Int) ⊕ (((List Int)) ⊕ ((List Int) × Int))))
        (loopF (S := ((List Int) × Int)) (O := ((List Int)) ⊕ (((List Int) × Int) ⊕ (((List Int)) ⊕ ((List Int) × Int)))) (fun ((s100, s101) : (List Int) × Int) =>
         cond ((decide (s101 < v5.Len)))
          ((some (IntKind.i64.wrap ((s100.length : Int) - v5.Dist))).bind fun v14 =>
          (ixO v14 s100.length).bind fun v15 =>
          (getO s100 v15).bind fun v16 =>
          (appO 1 s100 [v16]).bind fun v17 =>
          (some (IntKind.i64.wrap (s101 + 1))).bind fun v18 =>
          some (.inl (v17, v18)))
          (some (.inr (.inl s100))))
         BIG (s91, 0))
        (fun (s103 : (List Int)) =>
         (some (IntKind.i64.wrap (s59 + 1))).bind fun v33 =>
         some (.inl (s103, v33))) some) some)
     (some (.inr (.inl s58))))
    BIG ([], 0))
   (fun (s82 : (List Int)) =>
    some ((s82, 0))) some)

def match_newIndex_sh (b : (List Int)) (from_ : Int) : Option (Option T_match_index) :=
 some (some (T_match_index.mk b [] [] from_))

def match_index_startAt (x : T_match_index) (at_ : Int) : Option ((List Int) × Bool × T_match_index) :=
 (some (IntKind.i64.wrap (at_ + 3))).bind fun v1 =>
 cond ((decide ((x.b.length : Int) < v1)))
  ((lnO 3 ((List.replicate 3 (0 : Int)))).bind fun v3 =>
  (lnO 3 (([(0 : Int), (0 : Int), (0 : Int)] : List Int))).bind fun v4 =>
  (lnO 3 (([(0 : Int), (0 : Int), (0 : Int)] : List Int))).bind fun v5 =>
  some ((([(0 : Int), (0 : Int), (0 : Int)] : List Int), false, x)))
  ((some (IntKind.i64.wrap (at_ + 3))).bind fun v6 =>
  (sliO x.b at_ v6).bind fun v7 =>
  (arrO 3 v7).bind fun v8 =>
  (lnO 3 ((List.replicate 3 (0 : Int)))).bind fun v9 =>
  (lnO 3 v8).bind fun v10 =>
  (lnO 3 v8).bind fun v11 =>
  some ((v8, true, x)))

def match_index_common (x : T_match_index) (p : Int) (at_ : Int) : Option (Int × T_match_index) :=
 (some (IntKind.i64.wrap ((x.b.length : Int) - at_))).bind fun v1 =>
 (some (if v1 < 258 then v1 else 258)).bind fun v2 =>
 bindS (S := (Int)) (A := (Int × T_match_index))
  (loopF (S := (Int)) (O := (Int) ⊕ (Int × T_match_index)) (fun (s21 : Int) =>
   bindS (S := Bool) (A := ((Int) ⊕ ((Int) ⊕ (Int × T_match_index))))
    (cond ((decide (s21 < v2)))
     ((some (IntKind.i64.wrap (p + s21))).bind fun v3 =>
     (ixO v3 x.b.length).bind fun v4 =>
     (getO x.b v4).bind fun v5 =>
     (some (IntKind.i64.wrap (at_ + s21))).bind fun v6 =>
     (ixO v6 x.b.length).bind fun v7 =>
     (getO x.b v7).bind fun v8 =>
     some (.inl (v5 == v8)))
     (some (.inl false)))
    (fun (s34 : Bool) =>
     cond (s34)
      ((some (IntKind.i64.wrap (s21 + 1))).bind fun v14 =>
      some (.inl v14))
      (some (.inr (.inl s21)))) some)
   BIG 3)
  (fun (s27 : Int) =>
   some ((s27, x))) some

def match_index_best (x : T_match_index) (at_ : Int) : Option (Int × Int × T_match_index) :=
 (match_index_startAt x at_).bind fun v1 =>
 (lnO 3 ((List.replicate 3 (0 : Int)))).bind fun v2 =>
 (lnO 3 v1.1).bind fun v3 =>
 cond ((!v1.2.1))
  (some ((0, 0, v1.2.2)))
  (bindS (S := (List Int) × (List ((List Int) × Int)) × (List Int) × Int × Int × Int) (A := (Int × Int × T_match_index))
   ((lnO 3 v1.1).bind fun v5 =>
   (mgetO 3 v1.2.2.last v1.1).bind fun v6 =>
   (some (IntKind.i64.wrap (v6 - 1))).bind fun v7 =>
   bindS (S := ((List Int) × (List ((List Int) × Int)) × (List Int) × Int × Int × Int)) (A := (((List Int) × (List ((List Int) × Int)) × (List Int) × Int × Int × Int) ⊕ (Int × Int × T_match_index)))
    (loopF (S := ((List Int) × (List ((List Int) × Int)) × (List Int) × Int × Int × Int × Int)) (O := ((List Int) × (List ((List Int) × Int)) × (List Int) × Int × Int × Int) ⊕ (((List Int) × (List ((List Int) × Int)) × (List Int) × Int × Int × Int) ⊕ (Int × Int × T_match_index))) (fun ((s159, s160, s161, s162, s163, s164, s165) : (List Int) × (List ((List Int) × Int)) × (List Int) × Int × Int × Int × Int) =>
     bindS (S := Bool) (A := (((List Int) × (List ((List Int) × Int)) × (List Int) × Int × Int × Int × Int) ⊕ (((List Int) × (List ((List Int) × Int)) × (List Int) × Int × Int × Int) ⊕ (((List Int) × (List ((List Int) × Int)) × (List Int) × Int × Int × Int) ⊕ (Int × Int × T_match_index)))))
      (cond ((decide (s162 ≤ s165)))
       ((some (IntKind.i64.wrap (at_ - s165))).bind fun v8 =>
       some (.inl ((decide (v8 ≤ 2048)))))
       (some (.inl false)))
      (fun (s195 : Bool) =>
       cond (s195)
        (bindS (S := Int × Int × (List Int) × (List ((List Int) × Int)) × (List Int) × Int) (A := (((List Int) × (List ((List Int) × Int)) × (List Int) × Int × Int × Int × Int) ⊕ (((List Int) × (List ((List Int) × Int)) × (List Int) × Int × Int × Int) ⊕ (((List Int) × (List ((List Int) × Int)) × (List Int) × Int × Int × Int) ⊕ (Int × Int × T_match_index)))))
         ((match_index_common (T_match_index.mk s159 s160 s161 s162) s165 at_).bind fun v14 =>
         cond ((decide (s163 < v14.1)))
          ((some (IntKind.i64.wrap (at_ - s165))).bind fun v16 =>
          some (.inl (v14.1, v16, v14.2.b, v14.2.last, v14.2.back, v14.2.from_)))
          (some (.inl (s163, s164, v14.2.b, v14.2.last, v14.2.back, v14.2.from_))))
         (fun ((s201, s202, s203, s204, s205, s206) : Int × Int × (List Int) × (List ((List Int) × Int)) × (List Int) × Int) =>
          cond ((s201 == 258))
           (some (.inr (.inl (s203, s204, s205, s206, s201, s202))))
           ((some (IntKind.i64.wrap (s165 - s206))).bind fun v28 =>
           (ixO v28 s205.length).bind fun v29 =>
           (getO s205 v29).bind fun v30 =>
           (some (IntKind.i64.wrap (v30 - 1))).bind fun v31 =>
           some (.inl (s203, s204, s205, s206, s201, s202, v31)))) some)
        (some (.inr (.inl (s159, s160, s161, s162, s163, s164))))) some)
     BIG (v1.2.2.b, v1.2.2.last, v1.2.2.back, v1.2.2.from_, 0, 0, v7))
    (fun ((s183, s184, s185, s186, s187, s188) : (List Int) × (List ((List Int) × Int)) × (List Int) × Int × Int × Int) =>
     some (.inl (s183, s184, s185, s186, s187, s188))) some)
   (fun ((s109, s110, s111, s112, s113, s114) : (List Int) × (List ((List Int) × Int)) × (List Int) × Int × Int × Int) =>
    some ((s113, s114, (T_match_index.mk s109 s110 s111 s112)))) some)

def match_index_add (x : T_match_index) (at_ : Int) : Option T_match_index :=
 (match_index_startAt x at_).bind fun v1 =>
 (lnO 3 ((List.replicate 3 (0 : Int)))).bind fun v2 =>
 (lnO 3 v1.1).bind fun v3 =>
 cond ((!v1.2.1))
  (some (v1.2.2))
  ((lnO 3 v1.1).bind fun v5 =>
  (mgetO 3 v1.2.2.last v1.1).bind fun v6 =>
  (appO 8 v1.2.2.back [v6]).bind fun v7 =>
  (lnO 3 v1.1).bind fun v8 =>
  (some (IntKind.i64.wrap (at_ + 1))).bind fun v9 =>
  (mputO 3 v1.2.2.last v1.1 v9).bind fun v10 =>
  some ((T_match_index.mk v1.2.2.b v10 v7 v1.2.2.from_)))

def match_Tokens (b : (List Int)) : Option ((List T_Tok) × Int) :=
 cond ((decide (4096 < (b.length : Int))))
  (some (([], 2)))
  ((match_newIndex_sh b 0).bind fun v2 =>
  obS v2 (fun (v3 : T_match_index) =>
   bindS (S := ((List T_Tok))) (A := ((List T_Tok) × Int))
    (loopF (S := ((List T_Tok) × (List Int) × (List ((List Int) × Int)) × (List Int) × Int × Int)) (O := ((List T_Tok)) ⊕ ((List T_Tok) × Int)) (fun ((s88, s89, s90, s91, s92, s93) : (List T_Tok) × (List Int) × (List ((List Int) × Int)) × (List Int) × Int × Int) =>
     cond ((decide (s93 < (b.length : Int))))
      ((match_index_best (T_match_index.mk s89 s90 s91 s92) s93).bind fun v6 =>
      bindS (S := Int × Int) (A := (((List T_Tok) × (List Int) × (List ((List Int) × Int)) × (List Int) × Int × Int) ⊕ (((List T_Tok)) ⊕ ((List T_Tok) × Int))))
       (cond ((v6.1 == 0))
        ((ixO s93 b.length).bind fun v8 =>
        (getO b v8).bind fun v9 =>
        some (.inl (v9, 1)))
        (some (.inl (0, v6.1))))
       (fun ((s138, s139) : Int × Int) =>
        (appO 24 s88 [(T_Tok.mk s138 v6.1 v6.2.1)]).bind fun v16 =>
        bindS (S := ((List Int) × (List ((List Int) × Int)) × (List Int) × Int × Int)) (A := (((List T_Tok) × (List Int) × (List ((List Int) × Int)) × (List Int) × Int × Int) ⊕ (((List T_Tok)) ⊕ ((List T_Tok) × Int))))
         (loopF (S := ((List Int) × (List ((List Int) × Int)) × (List Int) × Int × Int × Int)) (O := ((List Int) × (List ((List Int) × Int)) × (List Int) × Int × Int) ⊕ (((List T_Tok) × (List Int) × (List ((List Int) × Int)) × (List Int) × Int × Int) ⊕ (((List T_Tok)) ⊕ ((List T_Tok) × Int)))) (fun ((s152, s153, s154, s155, s156, s157) : (List Int) × (List ((List Int) × Int)) × (List Int) × Int × Int × Int) =>
          cond ((decide (0 < s157)))
           ((match_index_add (T_match_index.mk s152 s153 s154 s155) s156).bind fun v18 =>
           (some (IntKind.i64.wrap (s156 + 1))).bind fun v19 =>
           (some (IntKind.i64.wrap (s157 - 1))).bind fun v20 =>
           some (.inl (v18.b, v18.last, v18.back, v18.from_, v19, v20)))
           (some (.inr (.inl (s152, s153, s154, s155, s156)))))
          BIG (v6.2.2.b, v6.2.2.last, v6.2.2.back, v6.2.2.from_, s93, s139))
         (fun ((s159, s160, s161, s162, s163) : (List Int) × (List ((List Int) × Int)) × (List Int) × Int × Int) =>
          some (.inl (v16, s159, s160, s161, s162, s163))) some) some)
      (some (.inr (.inl s88))))
     BIG ([], v3.b, v3.last, v3.back, v3.from_, 0))
    (fun (s129 : (List T_Tok)) =>
     some ((s129, 0))) some)
   (bindS (S := (Unit)) (A := ((List T_Tok) × Int))
    (loopF (S := (Unit)) (O := (Unit) ⊕ ((List T_Tok) × Int)) (fun (() : Unit) =>
     cond ((decide (0 < (b.length : Int))))
      (none)
      (some (.inr (.inl ()))))
     BIG ())
    (fun (() : Unit) =>
     some (([], 0))) some))

def match_Best (b : (List Int)) (at_ : Int) : Option (Int × Int) :=
 bindS (S := Bool) (A := (Int × Int))
  (cond ((decide (at_ < 0)))
   (some (.inl true))
   (cond ((decide ((b.length : Int) ≤ at_)))
    (some (.inl true))
    (some (.inl ((decide (4096 < (b.length : Int))))))))
  (fun (s1 : Bool) =>
   cond (s1)
    (some ((0, 0)))
    ((some (IntKind.i64.wrap (at_ - 2048))).bind fun v6 =>
    (some (if v6 > 0 then v6 else 0)).bind fun v7 =>
    (match_newIndex_sh b v7).bind fun v8 =>
    obS v8 (fun (v9 : T_match_index) =>
     bindS (S := ((List Int) × (List ((List Int) × Int)) × (List Int) × Int)) (A := (Int × Int))
      (loopF (S := ((List Int) × (List ((List Int) × Int)) × (List Int) × Int × Int)) (O := ((List Int) × (List ((List Int) × Int)) × (List Int) × Int) ⊕ (Int × Int)) (fun ((s20, s21, s22, s23, s24) : (List Int) × (List ((List Int) × Int)) × (List Int) × Int × Int) =>
       cond ((decide (s24 < at_)))
        ((match_index_add (T_match_index.mk s20 s21 s22 s23) s24).bind fun v12 =>
        (some (IntKind.i64.wrap (s24 + 1))).bind fun v13 =>
        some (.inl (v12.b, v12.last, v12.back, v12.from_, v13)))
        (some (.inr (.inl (s20, s21, s22, s23)))))
       BIG (v9.b, v9.last, v9.back, v9.from_, v9.from_))
      (fun ((s26, s27, s28, s29) : (List Int) × (List ((List Int) × Int)) × (List Int) × Int) =>
       (match_index_best (T_match_index.mk s26 s27 s28 s29) at_).bind fun v37 =>
       some ((v37.1, v37.2.1))) some)
     (none))) some

def wherrykeep_Toks (a : (List T_Tok)) (b : (List T_Tok)) : Option Bool :=
 cond (((a.length : Int) != (b.length : Int)))
  (some (false))
  (bindS (S := (Unit)) (A := Bool)
   (loopF (S := (Int)) (O := (Unit) ⊕ Bool) (fun (s28 : Int) =>
    cond ((decide (s28 < (a.length : Int))))
     (bindS (S := Bool) (A := ((Int) ⊕ ((Unit) ⊕ Bool)))
      ((ixO s28 a.length).bind fun v3 =>
      (getO a v3).bind fun v4 =>
      (ixO s28 b.length).bind fun v5 =>
      (getO b v5).bind fun v6 =>
      cond ((v4.Byte != v6.Byte))
       (some (.inl true))
       ((ixO s28 a.length).bind fun v7 =>
       (getO a v7).bind fun v8 =>
       (ixO s28 b.length).bind fun v9 =>
       (getO b v9).bind fun v10 =>
       cond ((v8.Len != v10.Len))
        (some (.inl true))
        ((ixO s28 a.length).bind fun v11 =>
        (getO a v11).bind fun v12 =>
        (ixO s28 b.length).bind fun v13 =>
        (getO b v13).bind fun v14 =>
        some (.inl (v12.Dist != v14.Dist)))))
      (fun (s42 : Bool) =>
       cond (s42)
        (some (.inr (.inr (false))))
        ((some (IntKind.i64.wrap (s28 + 1))).bind fun v20 =>
        some (.inl v20))) some)
     (some (.inr (.inl ()))))
    BIG 0)
   (fun (() : Unit) =>
    some (true)) some)

def wherrykeep_Bytes (a : (List Int)) (b : (List Int)) : Option Bool :=
 cond (((a.length : Int) != (b.length : Int)))
  (some (false))
  (bindS (S := (Unit)) (A := Bool)
   (loopF (S := (Int)) (O := (Unit) ⊕ Bool) (fun (s12 : Int) =>
    cond ((decide (s12 < (a.length : Int))))
     ((ixO s12 a.length).bind fun v3 =>
     (getO a v3).bind fun v4 =>
     (ixO s12 b.length).bind fun v5 =>
     (getO b v5).bind fun v6 =>
     cond ((v4 != v6))
      (some (.inr (.inr (false))))
      ((some (IntKind.i64.wrap (s12 + 1))).bind fun v8 =>
      some (.inl v8)))
     (some (.inr (.inl ()))))
    BIG 0)
   (fun (() : Unit) =>
    some (true)) some)

def wherrylaw04_wakes : Option Bool :=
 (match_Tokens [97, 97, 97, 97, 97]).bind fun v1 =>
 (match_Expand v1.1).bind fun v2 =>
 (match_Best [97, 97, 97, 97, 97] 1).bind fun v3 =>
 bindS (S := Bool) (A := Bool)
  (cond ((v1.2 == 0))
   (cond ((v2.2 == 0))
    ((wherrykeep_Toks v1.1 [(T_Tok.mk 97 0 0), (T_Tok.mk 0 4 1)]).bind fun v4 =>
    cond (v4)
     ((wherrykeep_Bytes v2.1 [97, 97, 97, 97, 97]).bind fun v5 =>
     cond (v5)
      (cond ((v3.1 == 4))
       (some (.inl (v3.2 == 1)))
       (some (.inl false)))
      (some (.inl false)))
     (some (.inl false)))
    (some (.inl false)))
   (some (.inl false)))
  (fun (s6 : Bool) =>
   some (s6)) some

def wherrylaw04_MatchBent (b : (List Int)) (at_ : Int) (what : Int) : Option Bool :=
 bindS (S := Bool) (A := Bool)
  (cond ((decide (1200 < (b.length : Int))))
   (some (.inl true))
   (some (.inl (((b.length : Int) == 0)))))
  (fun (s1 : Bool) =>
   cond (s1)
    (some (true))
    ((wherrylaw04_wherryToks b).bind fun v6 =>
    (some (IntKind.u64.wrap at_)).bind fun v7 =>
    (some (IntKind.u64.wrap (v6.length : Int))).bind fun v8 =>
    (remO v7 v8).bind fun v9 =>
    (some (IntKind.i64.wrap v9)).bind fun v10 =>
    bindS (S := (Int)) (A := Bool)
     (loopF (S := (Int × Int)) (O := (Int) ⊕ Bool) (fun ((s20, s21) : Int × Int) =>
      cond ((decide (s21 < v10)))
       ((ixO s21 v6.length).bind fun v12 =>
       (getO v6 v12).bind fun v13 =>
       (some (if v13.Len > 1 then v13.Len else 1)).bind fun v14 =>
       (some (IntKind.i64.wrap (s20 + v14))).bind fun v15 =>
       (some (IntKind.i64.wrap (s21 + 1))).bind fun v16 =>
       some (.inl (v15, v16)))
       (some (.inr (.inl s20))))
      BIG (0, 0))
     (fun (s23 : Int) =>
      (wherrykeep_TwinToks v6).bind fun v31 =>
      bindS (S := (List T_Tok)) (A := Bool)
       ((some (IntKind.u64.wrap what)).bind fun v32 =>
       (remO v32 4).bind fun v33 =>
       bindS (S := (List T_Tok)) (A := (((List T_Tok)) ⊕ Bool))
        (cond ((v33 == 0))
         ((some (IntKind.i64.wrap (s23 + 1))).bind fun v35 =>
         (ixO v10 v31.length).bind fun v36 =>
         (getO v31 v36).bind fun v37 =>
         (some (v31.set v36 (T_Tok.mk 0 3 v35))).bind fun v38 =>
         some (.inl v38))
         (cond ((v33 == 1))
          ((ixO v10 v31.length).bind fun v40 =>
          (getO v31 v40).bind fun v41 =>
          (some (v31.set v40 (T_Tok.mk 0 2 1))).bind fun v42 =>
          some (.inl v42))
          (cond ((v33 == 2))
           ((ixO v10 v31.length).bind fun v44 =>
           (getO v31 v44).bind fun v45 =>
           (some (v31.set v44 (T_Tok.mk 0 259 1))).bind fun v46 =>
           some (.inl v46))
           ((ixO v10 v31.length).bind fun v47 =>
           (getO v31 v47).bind fun v48 =>
           (some (v31.set v47 (T_Tok.mk 1 3 1))).bind fun v49 =>
           some (.inl v49)))))
        (fun (s64 : (List T_Tok)) =>
         some (.inl s64)) some)
       (fun (s57 : (List T_Tok)) =>
        (match_Expand s57).bind fun v71 =>
        bindS (S := Bool) (A := Bool)
         ((match_Check v6).bind fun v72 =>
         cond ((v72 == 0))
          ((match_Check s57).bind fun v73 =>
          cond ((v73 == 1))
           (cond ((v71.2 == 1))
            (cond (((v71.1.length : Int) == 0))
             ((wherrylaw04_wakes ).bind fun v74 =>
             some (.inl v74))
             (some (.inl false)))
            (some (.inl false)))
           (some (.inl false)))
          (some (.inl false)))
         (fun (s75 : Bool) =>
          some (s75)) some) some) some)) some

def wherrykeep_Twin (l : (List Int)) : Option (List Int) :=
 (appO 1 ([] : List Int) l).bind fun v1 =>
 some (v1)

def wherrylaw04_MatchLonger (b : (List Int)) : Option Bool :=
 bindS (S := Bool) (A := Bool)
  (cond ((decide (600 < (b.length : Int))))
   (some (.inl true))
   (some (.inl ((decide ((b.length : Int) < 3))))))
  (fun (s1 : Bool) =>
   cond (s1)
    (some (true))
    ((wherrykeep_Twin b).bind fun v6 =>
    (appO 1 v6 b).bind fun v7 =>
    (match_Tokens v7).bind fun v8 =>
    (match_Tokens b).bind fun v9 =>
    bindS (S := Bool) (A := Bool)
     (cond ((v8.2 != 0))
      (some (.inl true))
      (some (.inl (v9.2 != 0))))
     (fun (s10 : Bool) =>
      cond (s10)
       (some (false))
       (bindS (S := Bool) (A := Bool)
        ((quoO .i64 (b.length : Int) 258).bind fun v15 =>
        (some (IntKind.i64.wrap ((v9.1.length : Int) + v15))).bind fun v16 =>
        (some (IntKind.i64.wrap (v16 + 3))).bind fun v17 =>
        cond ((decide ((v8.1.length : Int) ≤ v17)))
         ((wherrylaw04_wakes ).bind fun v18 =>
         some (.inl v18))
         (some (.inl false)))
        (fun (s19 : Bool) =>
         some (s19)) some)) some)) some

def wherryref01_CheckToks (l : (List T_Tok)) : Option Int :=
 bindS (S := (Bool)) (A := Int)
  (loopF (S := (Int × Bool × Int)) (O := (Bool) ⊕ Int) (fun ((s78, s79, s80) : Int × Bool × Int) =>
   cond ((decide (s80 < (l.length : Int))))
    (bindS (S := Int) (A := ((Int × Bool × Int) ⊕ ((Bool) ⊕ Int)))
     (bindS (S := Bool) (A := (Int ⊕ ((Int × Bool × Int) ⊕ ((Bool) ⊕ Int))))
      ((ixO s80 l.length).bind fun v2 =>
      (getO l v2).bind fun v3 =>
      cond ((v3.Len == 0))
       ((ixO s80 l.length).bind fun v4 =>
       (getO l v4).bind fun v5 =>
       some (.inl (v5.Dist == 0)))
       (some (.inl false)))
      (fun (s132 : Bool) =>
       cond (s132)
        ((some (IntKind.i64.wrap (s78 + 1))).bind fun v11 =>
        some (.inl v11))
        (bindS (S := Bool) (A := (Int ⊕ ((Int × Bool × Int) ⊕ ((Bool) ⊕ Int))))
         ((ixO s80 l.length).bind fun v12 =>
         (getO l v12).bind fun v13 =>
         cond ((v13.Byte != 0))
          (some (.inl true))
          ((ixO s80 l.length).bind fun v14 =>
          (getO l v14).bind fun v15 =>
          (wherryref01_in v15.Len 3 258).bind fun v16 =>
          cond ((!v16))
           (some (.inl true))
           ((ixO s80 l.length).bind fun v17 =>
           (getO l v17).bind fun v18 =>
           (wherryref01_in v18.Dist 1 2048).bind fun v19 =>
           cond ((!v19))
            (some (.inl true))
            ((ixO s80 l.length).bind fun v20 =>
            (getO l v20).bind fun v21 =>
            some (.inl ((decide (s78 < v21.Dist))))))))
         (fun (s137 : Bool) =>
          cond (s137)
           (some (.inr (.inr (.inr (1)))))
           ((ixO s80 l.length).bind fun v27 =>
           (getO l v27).bind fun v28 =>
           (some (IntKind.i64.wrap (s78 + v28.Len))).bind fun v29 =>
           some (.inl v29))) some)) some)
     (fun (s128 : Int) =>
      bindS (S := Bool) (A := ((Int × Bool × Int) ⊕ ((Bool) ⊕ Int)))
       (cond (s79)
        (some (.inl true))
        (some (.inl ((decide (4096 < s128))))))
       (fun (s142 : Bool) =>
        (some (if 8192 < s128 then 8192 else s128)).bind fun v44 =>
        (some (IntKind.i64.wrap (s80 + 1))).bind fun v45 =>
        some (.inl (v44, s142, v45))) some) some)
    (some (.inr (.inl s79))))
   BIG (0, false, 0))
  (fun (s110 : Bool) =>
   cond (s110)
    (some (2))
    (some (0))) some

def wherryref01_Expand (l : (List T_Tok)) : Option ((List Int) × Int) :=
 (wherryref01_CheckToks l).bind fun v1 =>
 cond ((v1 != 0))
  (some (([], v1)))
  (bindS (S := ((List Int))) (A := ((List Int) × Int))
   (loopF (S := ((List Int) × Int)) (O := ((List Int)) ⊕ ((List Int) × Int)) (fun ((s64, s65) : (List Int) × Int) =>
    cond ((decide (s65 < (l.length : Int))))
     (bindS (S := (List Int)) (A := (((List Int) × Int) ⊕ (((List Int)) ⊕ ((List Int) × Int))))
      ((ixO s65 l.length).bind fun v4 =>
      (getO l v4).bind fun v5 =>
      cond ((v5.Len == 0))
       ((ixO s65 l.length).bind fun v7 =>
       (getO l v7).bind fun v8 =>
       (appO 1 s64 [v8.Byte]).bind fun v9 =>
       some (.inl v9))
       (some (.inl s64)))
      (fun (s97 : (List Int)) =>
       bindS (S := ((List Int))) (A := (((List Int) × Int) ⊕ (((List Int)) ⊕ ((List Int) × Int))))
        (loopF (S := ((List Int) × Int)) (O := ((List Int)) ⊕ (((List Int) × Int) ⊕ (((List Int)) ⊕ ((List Int) × Int)))) (fun ((s106, s107) : (List Int) × Int) =>
         (ixO s65 l.length).bind fun v15 =>
         (getO l v15).bind fun v16 =>
         cond ((decide (s107 < v16.Len)))
          ((ixO s65 l.length).bind fun v18 =>
          (getO l v18).bind fun v19 =>
          (some (IntKind.i64.wrap ((s106.length : Int) - v19.Dist))).bind fun v20 =>
          (ixO v20 s106.length).bind fun v21 =>
          (getO s106 v21).bind fun v22 =>
          (appO 1 s106 [v22]).bind fun v23 =>
          (some (IntKind.i64.wrap (s107 + 1))).bind fun v24 =>
          some (.inl (v23, v24)))
          (some (.inr (.inl s106))))
         BIG (s97, 0))
        (fun (s109 : (List Int)) =>
         (some (IntKind.i64.wrap (s65 + 1))).bind fun v39 =>
         some (.inl (s109, v39))) some) some)
     (some (.inr (.inl s64))))
    BIG ([], 0))
   (fun (s88 : (List Int)) =>
    some ((s88, 0))) some)

def wherrykeep_Over (b : (List Int)) : Option Unit :=
 bindS (S := (Unit)) (A := Unit)
  (loopF (S := ((List Int) × Int)) (O := (Unit) ⊕ Unit) (fun ((s11, s12) : (List Int) × Int) =>
   cond ((decide (s12 < (s11.length : Int))))
    ((ixO s12 s11.length).bind fun v2 =>
    (getO s11 v2).bind fun v3 =>
    (some (IntKind.u8.wrap (v3 + 91))).bind fun v4 =>
    (ixO s12 s11.length).bind fun v5 =>
    (some (s11.set v5 v4)).bind fun v6 =>
    (some (IntKind.i64.wrap (s12 + 1))).bind fun v7 =>
    some (.inl (v6, v7)))
    (some (.inr (.inl ()))))
   BIG (b, 0))
  (fun (() : Unit) =>
   some (())) some

def wherrylaw04_MatchExact (b : (List Int)) (at_ : Int) (l : (List T_Tok)) : Option Bool :=
 bindS (S := Bool) (A := Bool)
  (cond ((decide (1200 < (b.length : Int))))
   (some (.inl true))
   (some (.inl ((decide (600 < (l.length : Int)))))))
  (fun (s1 : Bool) =>
   cond (s1)
    (some (true))
    ((wherrykeep_Twin b).bind fun v6 =>
    (wherrykeep_TwinToks l).bind fun v7 =>
    (match_Tokens v6).bind fun v8 =>
    (wherryref01_Tokens b).bind fun v9 =>
    (match_Best v6 at_).bind fun v10 =>
    (wherryref01_Best b at_).bind fun v11 =>
    (match_Expand v7).bind fun v12 =>
    (wherryref01_Expand l).bind fun v13 =>
    bindS (S := Bool) (A := Bool)
     (cond ((v8.2 != v9.2))
      (some (.inl true))
      ((wherrykeep_Toks v8.1 v9.1).bind fun v14 =>
      cond ((!v14))
       (some (.inl true))
       (cond ((v10.1 != v11.1))
        (some (.inl true))
        (cond ((v10.2 != v11.2))
         (some (.inl true))
         (cond ((v12.2 != v13.2))
          (some (.inl true))
          ((wherrykeep_Bytes v12.1 v13.1).bind fun v15 =>
          cond ((!v15))
           (some (.inl true))
           ((match_Check v7).bind fun v16 =>
           (wherryref01_CheckToks l).bind fun v17 =>
           some (.inl (v16 != v17)))))))))
     (fun (s18 : Bool) =>
      cond (s18)
       (some (false))
       ((wherrykeep_Over v12.1).bind fun v23 =>
       bindS (S := Bool) (A := Bool)
        ((wherrykeep_Bytes v6 b).bind fun v24 =>
        cond (v24)
         ((wherrykeep_Toks v7 l).bind fun v25 =>
         cond (v25)
          ((wherrylaw04_wakes ).bind fun v26 =>
          some (.inl v26))
          (some (.inl false)))
         (some (.inl false)))
        (fun (s27 : Bool) =>
         some (s27)) some)) some)) some

def wherrylaw04_MatchOne (c : Int) (n : Int) : Option Bool :=
 (some (IntKind.u64.wrap n)).bind fun v1 =>
 (remO v1 1200).bind fun v2 =>
 (some (IntKind.i64.wrap v2)).bind fun v3 =>
 bindS (S := ((List Int))) (A := Bool)
  (loopF (S := ((List Int) × Int)) (O := ((List Int)) ⊕ Bool) (fun ((s10, s11) : (List Int) × Int) =>
   cond ((decide (s11 < v3)))
    ((appO 1 s10 [c]).bind fun v5 =>
    (some (IntKind.i64.wrap (s11 + 1))).bind fun v6 =>
    some (.inl (v5, v6)))
    (some (.inr (.inl s10))))
   BIG ([], 0))
  (fun (s13 : (List Int)) =>
   bindS (S := (List T_Tok) × Int) (A := Bool)
    (cond ((decide (0 < v3)))
     ((appO 24 ([] : List T_Tok) [(T_Tok.mk c 0 0)]).bind fun v22 =>
     (some (IntKind.i64.wrap (v3 - 1))).bind fun v23 =>
     some (.inl (v22, v23)))
     (some (.inl ([], v3))))
    (fun ((s24, s25) : (List T_Tok) × Int) =>
     bindS (S := ((List T_Tok) × Int)) (A := Bool)
      (loopF (S := ((List T_Tok) × Int)) (O := ((List T_Tok) × Int) ⊕ Bool) (fun ((s37, s38) : (List T_Tok) × Int) =>
       cond ((decide (3 ≤ s38)))
        ((some (if 258 < s38 then 258 else s38)).bind fun v31 =>
        (appO 24 s37 [(T_Tok.mk 0 v31 1)]).bind fun v32 =>
        (some (IntKind.i64.wrap (s38 - v31))).bind fun v33 =>
        some (.inl (v32, v33)))
        (some (.inr (.inl (s37, s38)))))
       BIG (s24, s25))
      (fun ((s40, s41) : (List T_Tok) × Int) =>
       bindS (S := ((List T_Tok))) (A := Bool)
        (loopF (S := ((List T_Tok) × Int)) (O := ((List T_Tok)) ⊕ Bool) (fun ((s55, s56) : (List T_Tok) × Int) =>
         cond ((decide (0 < s56)))
          ((appO 24 s55 [(T_Tok.mk c 0 0)]).bind fun v50 =>
          (some (IntKind.i64.wrap (s56 - 1))).bind fun v51 =>
          some (.inl (v50, v51)))
          (some (.inr (.inl s55))))
         BIG (s40, s41))
        (fun (s58 : (List T_Tok)) =>
         (match_Tokens s13).bind fun v66 =>
         bindS (S := Bool) (A := Bool)
          (cond ((v66.2 == 0))
           ((wherrykeep_Toks v66.1 s58).bind fun v67 =>
           cond (v67)
            ((wherrylaw04_wakes ).bind fun v68 =>
            some (.inl v68))
            (some (.inl false)))
           (some (.inl false)))
          (fun (s69 : Bool) =>
           some (s69)) some) some) some) some) some

def wherrylaw04_same (b : (List Int)) (at_ : Int) (d : Int) : Option Int :=
 bindS (S := (Int)) (A := Int)
  (loopF (S := (Int)) (O := (Int) ⊕ Int) (fun (s21 : Int) =>
   bindS (S := Bool) (A := ((Int) ⊕ ((Int) ⊕ Int)))
    (cond ((decide (s21 < 258)))
     ((some (IntKind.i64.wrap (at_ + s21))).bind fun v1 =>
     cond ((decide (v1 < (b.length : Int))))
      ((some (IntKind.i64.wrap (at_ + s21))).bind fun v2 =>
      (ixO v2 b.length).bind fun v3 =>
      (getO b v3).bind fun v4 =>
      (some (IntKind.i64.wrap (at_ + s21))).bind fun v5 =>
      (some (IntKind.i64.wrap (v5 - d))).bind fun v6 =>
      (ixO v6 b.length).bind fun v7 =>
      (getO b v7).bind fun v8 =>
      some (.inl (v4 == v8)))
      (some (.inl false)))
     (some (.inl false)))
    (fun (s34 : Bool) =>
     cond (s34)
      ((some (IntKind.i64.wrap (s21 + 1))).bind fun v14 =>
      some (.inl v14))
      (some (.inr (.inl s21)))) some)
   BIG 0)
  (fun (s27 : Int) =>
   some (s27)) some

def wherrylaw04_MatchBest (b : (List Int)) (at_ : Int) (other : Int) : Option Bool :=
 bindS (S := Bool) (A := Bool)
  (cond ((decide (1200 < (b.length : Int))))
   (some (.inl true))
   (some (.inl (((b.length : Int) == 0)))))
  (fun (s1 : Bool) =>
   cond (s1)
    (some (true))
    ((some (IntKind.u64.wrap at_)).bind fun v6 =>
    (some (IntKind.u64.wrap (b.length : Int))).bind fun v7 =>
    (remO v6 v7).bind fun v8 =>
    (some (IntKind.i64.wrap v8)).bind fun v9 =>
    (match_Best b v9).bind fun v10 =>
    bindS (S := Unit) (A := Bool)
     (cond ((v10.1 == 0))
      (cond ((v10.2 != 0))
       (some (.inr (false)))
       (some (.inl ())))
      (bindS (S := Bool) (A := (Unit ⊕ Bool))
       (cond ((decide (v10.1 < 3)))
        (some (.inl true))
        (cond ((decide (258 < v10.1)))
         (some (.inl true))
         (cond ((decide (v10.2 < 1)))
          (some (.inl true))
          (cond ((decide (v9 < v10.2)))
           (some (.inl true))
           (cond ((decide (2048 < v10.2)))
            (some (.inl true))
            ((some (IntKind.i64.wrap (v9 + v10.1))).bind fun v13 =>
            cond ((decide ((b.length : Int) < v13)))
             (some (.inl true))
             ((wherrylaw04_same b v9 v10.2).bind fun v14 =>
             some (.inl ((decide (v14 < v10.1)))))))))))
       (fun (s25 : Bool) =>
        cond (s25)
         (some (.inr (false)))
         (some (.inl ()))) some))
     (fun (() : Unit) =>
      cond ((v9 == 0))
       (bindS (S := Bool) (A := Bool)
        (cond ((v10.1 == 0))
         ((wherrylaw04_wakes ).bind fun v31 =>
         some (.inl v31))
         (some (.inl false)))
        (fun (s32 : Bool) =>
         some (s32)) some)
       ((some (IntKind.u64.wrap other)).bind fun v36 =>
       (some (IntKind.u64.wrap v9)).bind fun v37 =>
       (remO v36 v37).bind fun v38 =>
       (some (IntKind.i64.wrap v38)).bind fun v39 =>
       (some (IntKind.i64.wrap (1 + v39))).bind fun v40 =>
       (wherrylaw04_same b v9 v40).bind fun v41 =>
       bindS (S := Bool) (A := Bool)
        (cond ((decide (v41 < 3)))
         ((wherrylaw04_wakes ).bind fun v42 =>
         some (.inl v42))
         (cond ((decide (v41 < v10.1)))
          ((wherrylaw04_wakes ).bind fun v43 =>
          some (.inl v43))
          (cond ((v41 == v10.1))
           (cond ((decide (v10.2 ≤ v40)))
            ((wherrylaw04_wakes ).bind fun v44 =>
            some (.inl v44))
            (some (.inl false)))
           (some (.inl false)))))
        (fun (s45 : Bool) =>
         some (s45)) some)) some)) some

def wherrylaw04_MatchApart (from_ : Int) (n : Int) : Option Bool :=
 (some (IntKind.u64.wrap from_)).bind fun v1 =>
 (remO v1 256).bind fun v2 =>
 (some (IntKind.i64.wrap v2)).bind fun v3 =>
 (some (IntKind.u64.wrap n)).bind fun v4 =>
 (remO v4 257).bind fun v5 =>
 (some (IntKind.i64.wrap v5)).bind fun v6 =>
 bindS (S := ((List Int))) (A := Bool)
  (loopF (S := ((List Int) × Int)) (O := ((List Int)) ⊕ Bool) (fun ((s15, s16) : (List Int) × Int) =>
   cond ((decide (s16 < v6)))
    ((some (IntKind.i64.wrap (v3 + s16))).bind fun v8 =>
    (some (IntKind.u8.wrap v8)).bind fun v9 =>
    (appO 1 s15 [v9]).bind fun v10 =>
    (some (IntKind.i64.wrap (s16 + 1))).bind fun v11 =>
    some (.inl (v10, v11)))
    (some (.inr (.inl s15))))
   BIG ([], 0))
  (fun (s18 : (List Int)) =>
   (match_Tokens s18).bind fun v26 =>
   bindS (S := Bool) (A := Bool)
    (cond ((v26.2 != 0))
     (some (.inl true))
     (some (.inl (((v26.1.length : Int) != v6)))))
    (fun (s27 : Bool) =>
     cond (s27)
      (some (false))
      (bindS (S := (Unit)) (A := Bool)
       (loopF (S := (Int)) (O := (Unit) ⊕ Bool) (fun (s52 : Int) =>
        cond ((decide (s52 < v6)))
         (bindS (S := Bool) (A := ((Int) ⊕ ((Unit) ⊕ Bool)))
          ((ixO s52 v26.1.length).bind fun v33 =>
          (getO v26.1 v33).bind fun v34 =>
          cond ((v34.Len != 0))
           (some (.inl true))
           ((ixO s52 v26.1.length).bind fun v35 =>
           (getO v26.1 v35).bind fun v36 =>
           (ixO s52 s18.length).bind fun v37 =>
           (getO s18 v37).bind fun v38 =>
           some (.inl (v36.Byte != v38))))
          (fun (s66 : Bool) =>
           cond (s66)
            (some (.inr (.inr (false))))
            ((some (IntKind.i64.wrap (s52 + 1))).bind fun v44 =>
            some (.inl v44))) some)
         (some (.inr (.inl ()))))
        BIG 0)
       (fun (() : Unit) =>
        (wherrylaw04_wakes ).bind fun v71 =>
        some (v71)) some)) some) some

def wherrylaw04_MatchFar (more : Int) : Option Bool :=
 (some (IntKind.u64.wrap more)).bind fun v1 =>
 (remO v1 4).bind fun v2 =>
 (some (IntKind.i64.wrap v2)).bind fun v3 =>
 bindS (S := ((List Int))) (A := Bool)
  (loopF (S := ((List Int))) (O := ((List Int)) ⊕ Bool) (fun (s9 : (List Int)) =>
   (some (IntKind.i64.wrap (2047 + v3))).bind fun v4 =>
   cond ((decide ((s9.length : Int) < v4)))
    ((appO 1 s9 [0]).bind fun v6 =>
    some (.inl v6))
    (some (.inr (.inl s9))))
   BIG [1, 2, 3])
  (fun (s11 : (List Int)) =>
   (appO 1 s11 [1, 2, 3]).bind fun v19 =>
   (match_Best v19 (s11.length : Int)).bind fun v20 =>
   cond ((decide (2048 < (s11.length : Int))))
    (bindS (S := Bool) (A := Bool)
     (cond ((v20.1 == 0))
      (cond ((v20.2 == 0))
       ((wherrylaw04_wakes ).bind fun v22 =>
       some (.inl v22))
       (some (.inl false)))
      (some (.inl false)))
     (fun (s23 : Bool) =>
      some (s23)) some)
    (bindS (S := Bool) (A := Bool)
     (cond ((v20.1 == 3))
      (cond ((v20.2 == (s11.length : Int)))
       ((wherrylaw04_wakes ).bind fun v27 =>
       some (.inl v27))
       (some (.inl false)))
      (some (.inl false)))
     (fun (s28 : Bool) =>
      some (s28)) some)) some

def wherrylaw04_MatchExpands (a : (List Int)) (b : (List Int)) : Option Bool :=
 bindS (S := Bool) (A := Bool)
  (cond ((decide (1200 < (a.length : Int))))
   (some (.inl true))
   (some (.inl ((decide (1200 < (b.length : Int)))))))
  (fun (s1 : Bool) =>
   cond (s1)
    (some (true))
    ((wherrylaw04_wherryToks a).bind fun v6 =>
    (wherrylaw04_wherryToks b).bind fun v7 =>
    (appO 24 v6 v7).bind fun v8 =>
    (match_Expand v8).bind fun v9 =>
    bindS (S := Bool) (A := Bool)
     (cond ((v9.2 == 0))
      ((match_Check v8).bind fun v10 =>
      cond ((v10 == 0))
       ((wherrykeep_Twin a).bind fun v11 =>
       (appO 1 v11 b).bind fun v12 =>
       (wherrykeep_Bytes v9.1 v12).bind fun v13 =>
       cond (v13)
        ((wherrylaw04_wakes ).bind fun v14 =>
        some (.inl v14))
        (some (.inl false)))
       (some (.inl false)))
      (some (.inl false)))
     (fun (s15 : Bool) =>
      some (s15)) some)) some

def wherrylaw04_MatchBack (b : (List Int)) : Option Bool :=
 cond ((decide (1200 < (b.length : Int))))
  (some (true))
  ((match_Tokens b).bind fun v2 =>
  bindS (S := Bool) (A := Bool)
   (cond ((v2.2 != 0))
    (some (.inl true))
    ((match_Check v2.1).bind fun v3 =>
    some (.inl (v3 != 0))))
   (fun (s4 : Bool) =>
    cond (s4)
     (some (false))
     ((match_Expand v2.1).bind fun v9 =>
     bindS (S := (Int)) (A := Bool)
      (loopF (S := (Int × Int)) (O := (Int) ⊕ Bool) (fun ((s19, s20) : Int × Int) =>
       cond ((decide (s20 < (v2.1.length : Int))))
        ((ixO s20 v2.1.length).bind fun v11 =>
        (getO v2.1 v11).bind fun v12 =>
        (some (if v12.Len > 1 then v12.Len else 1)).bind fun v13 =>
        (some (IntKind.i64.wrap (s19 + v13))).bind fun v14 =>
        (some (IntKind.i64.wrap (s20 + 1))).bind fun v15 =>
        some (.inl (v14, v15)))
        (some (.inr (.inl s19))))
       BIG (0, 0))
      (fun (s22 : Int) =>
       bindS (S := Bool) (A := Bool)
        (cond ((v9.2 == 0))
         ((wherrykeep_Bytes v9.1 b).bind fun v30 =>
         cond (v30)
          (cond ((s22 == (b.length : Int)))
           ((wherrylaw04_wakes ).bind fun v31 =>
           some (.inl v31))
           (some (.inl false)))
          (some (.inl false)))
         (some (.inl false)))
        (fun (s32 : Bool) =>
         some (s32)) some) some)) some)

end Go.Abs.Sh
