/-
 The program told in Lean: plain functions; none where Go would panic or a slice outgrow its room.
-/
import Derived.Test.YthceldoojddpiaaDoorB3
set_option linter.unusedVariables false
namespace Go.Abs.Sh

structure T_pair where
 a0 : Int
 a1 : Int
 deriving DecidableEq, Inhabited
def T_pair.enc (x : T_pair) : List Value := [.int .i64 x.a0, .int .i64 x.a1]
theorem T_pair.len (x : T_pair) : (T_pair.enc x).length = 2 := rfl
def T_pair.wf (x : T_pair) : Prop := wfI .i64 x.a0 ∧ wfI .i64 x.a1
def T_pair.wz (x : T_pair) : Prop := (wfI .i64) x.a0 ∧ (wfI .i64) x.a1

structure T_Bits where
 B : (List Int)
 N : Int
 deriving DecidableEq, Inhabited
def T_Bits.ienc (x : T_Bits) : List IC := [.row 1 (List.map IC.v (List.map (Value.int .u8) x.B)), .v (.int .i64 x.N)]
theorem T_Bits.ilen (x : T_Bits) : (T_Bits.ienc x).length = 2 := rfl
def T_Bits.wf (x : T_Bits) : Prop := wfL (wfI .u8) x.B ∧ wfI .i64 x.N
def T_Bits.wz (x : T_Bits) : Prop := (wzL 1 (wfI .u8)) x.B ∧ (wfI .i64) x.N

structure T_grow_stream where
 b : (List Int)
 at_ : Int
 out : (List Int)
 most : Int
 blocks : Int
 deriving DecidableEq, Inhabited
def T_grow_stream.ienc (x : T_grow_stream) : List IC := [.row 1 (List.map IC.v (List.map (Value.int .u8) x.b)), .v (.int .i64 x.at_), .row 1 (List.map IC.v (List.map (Value.int .u8) x.out)), .v (.int .i64 x.most), .v (.int .i64 x.blocks)]
theorem T_grow_stream.ilen (x : T_grow_stream) : (T_grow_stream.ienc x).length = 5 := rfl
def T_grow_stream.wf (x : T_grow_stream) : Prop := wfL (wfI .u8) x.b ∧ wfI .i64 x.at_ ∧ wfL (wfI .u8) x.out ∧ wfI .i64 x.most ∧ wfI .i64 x.blocks
def T_grow_stream.wz (x : T_grow_stream) : Prop := (wzL 1 (wfI .u8)) x.b ∧ (wfI .i64) x.at_ ∧ (wzL 1 (wfI .u8)) x.out ∧ (wfI .i64) x.most ∧ (wfI .i64) x.blocks

structure T_sym_scale where
 least : Int
 singles : Int
 group : Int
 deriving DecidableEq, Inhabited
def T_sym_scale.enc (x : T_sym_scale) : List Value := [.int .i64 x.least, .int .i64 x.singles, .int .i64 x.group]
theorem T_sym_scale.len (x : T_sym_scale) : (T_sym_scale.enc x).length = 3 := rfl
def T_sym_scale.wf (x : T_sym_scale) : Prop := wfI .i64 x.least ∧ wfI .i64 x.singles ∧ wfI .i64 x.group
def T_sym_scale.wz (x : T_sym_scale) : Prop := (wfI .i64) x.least ∧ (wfI .i64) x.singles ∧ (wfI .i64) x.group

def bits_fits (v : Int) (n : Int) : Option Bool :=
 bindS (S := Bool) (A := Bool)
  (cond ((decide (0 ≤ n)))
   (cond ((decide (n ≤ 24)))
    (cond ((decide (0 ≤ v)))
     ((shlO .i64 1 n).bind fun v1 =>
     some (.inl ((decide (v < v1)))))
     (some (.inl false)))
    (some (.inl false)))
   (some (.inl false)))
  (fun (s2 : Bool) =>
   some (s2)) some

def bits_Turn (v : Int) (n : Int) : Option (Int × Int) :=
 (bits_fits v n).bind fun v1 =>
 cond ((!v1))
  (some ((0, 1)))
  ((some (IntKind.u32.wrap v)).bind fun v3 =>
  bindS (S := (Int)) (A := (Int × Int))
   (loopF (S := (Int × Int × Int)) (O := (Int) ⊕ (Int × Int)) (fun ((s14, s15, s16) : Int × Int × Int) =>
    cond ((decide (0 < s14)))
     ((shlO .u32 s15 1).bind fun v5 =>
     (some (bits .and .u32 s16 1)).bind fun v6 =>
     (some (bits .or .u32 v5 v6)).bind fun v7 =>
     (shrO .u32 s16 1).bind fun v8 =>
     (some (IntKind.i64.wrap (s14 - 1))).bind fun v9 =>
     some (.inl (v9, v7, v8)))
     (some (.inr (.inl s15))))
    BIG (n, 0, v3))
   (fun (s18 : Int) =>
    (some (IntKind.i64.wrap s18)).bind fun v26 =>
    some ((v26, 0))) some)

def bits_bytesFor (n : Int) : Option Int :=
 (some (IntKind.i64.wrap (n + 7))).bind fun v1 =>
 (quoO .i64 v1 8).bind fun v2 =>
 some (v2)

def bits_Check (s : T_Bits) : Option Int :=
 bindS (S := Bool) (A := Int)
  (cond ((decide (s.N < 0)))
   (some (.inl true))
   (cond ((decide (40000 < s.N)))
    (some (.inl true))
    ((bits_bytesFor s.N).bind fun v1 =>
    some (.inl (((s.B.length : Int) != v1))))))
  (fun (s2 : Bool) =>
   cond (s2)
    (some (1))
    ((remO s.N 8).bind fun v7 =>
    bindS (S := Bool) (A := Int)
     (cond ((v7 != 0))
      ((some (IntKind.i64.wrap ((s.B.length : Int) - 1))).bind fun v8 =>
      (ixO v8 s.B.length).bind fun v9 =>
      (getO s.B v9).bind fun v10 =>
      (shrO .u8 v10 v7).bind fun v11 =>
      some (.inl (v11 != 0)))
      (some (.inl false)))
     (fun (s12 : Bool) =>
      cond (s12)
       (some (1))
       (some (0))) some)) some

def bits_Put (s : T_Bits) (v : Int) (n : Int) : Option (T_Bits × Int) :=
 (bits_Check s).bind fun v1 =>
 cond ((v1 != 0))
  (some (((T_Bits.mk [] 0), v1)))
  ((bits_fits v n).bind fun v3 =>
  cond ((!v3))
   (some (((T_Bits.mk [] 0), 1)))
   ((some (IntKind.i64.wrap (s.N + n))).bind fun v5 =>
   cond ((decide (40000 < v5)))
    (some (((T_Bits.mk [] 0), 2)))
    ((some (IntKind.i64.wrap (s.N + n))).bind fun v7 =>
    (bits_bytesFor v7).bind fun v8 =>
    (mkO 1 v8 (0 : Int)).bind fun v9 =>
    (some (copyL v9 s.B)).bind fun v10 =>
    (some (IntKind.u32.wrap v)).bind fun v11 =>
    (remO s.N 8).bind fun v12 =>
    (shlO .u32 v11 v12).bind fun v13 =>
    (quoO .i64 s.N 8).bind fun v14 =>
    bindS (S := ((List Int))) (A := (T_Bits × Int))
     (loopF (S := ((List Int) × Int × Int)) (O := ((List Int)) ⊕ (T_Bits × Int)) (fun ((s28, s29, s30) : (List Int) × Int × Int) =>
      cond ((decide (s30 < (s28.length : Int))))
       ((ixO s30 s28.length).bind fun v16 =>
       (getO s28 v16).bind fun v17 =>
       (some (IntKind.u8.wrap s29)).bind fun v18 =>
       (some (bits .or .u8 v17 v18)).bind fun v19 =>
       (ixO s30 s28.length).bind fun v20 =>
       (some (s28.set v20 v19)).bind fun v21 =>
       (shrO .u32 s29 8).bind fun v22 =>
       (some (IntKind.i64.wrap (s30 + 1))).bind fun v23 =>
       some (.inl (v21, v22, v23)))
       (some (.inr (.inl s28))))
      BIG (v10, v13, v14))
     (fun (s32 : (List Int)) =>
      (some (IntKind.i64.wrap (s.N + n))).bind fun v40 =>
      some (((T_Bits.mk s32 v40), 0))) some)))

def bits_Get (b : (List Int)) (at_ : Int) (n : Int) : Option (Int × Int × Int) :=
 bindS (S := Bool) (A := (Int × Int × Int))
  (cond ((decide (n < 0)))
   (some (.inl true))
   (cond ((decide (24 < n)))
    (some (.inl true))
    (cond ((decide (at_ < 0)))
     (some (.inl true))
     ((some (IntKind.i64.wrap (8 * (b.length : Int)))).bind fun v1 =>
     some (.inl ((decide (v1 < at_))))))))
  (fun (s2 : Bool) =>
   cond (s2)
    (some ((0, 0, 1)))
    ((some (IntKind.i64.wrap (at_ + n))).bind fun v7 =>
    (some (IntKind.i64.wrap (8 * (b.length : Int)))).bind fun v8 =>
    cond ((decide (v8 < v7)))
     (some ((0, 0, 3)))
     ((quoO .i64 at_ 8).bind fun v10 =>
     bindS (S := (Int)) (A := (Int × Int × Int))
      (loopF (S := (Int × Int)) (O := (Int) ⊕ (Int × Int × Int)) (fun ((s25, s26) : Int × Int) =>
       (some (IntKind.i64.wrap (at_ + n))).bind fun v11 =>
       (bits_bytesFor v11).bind fun v12 =>
       cond ((decide (s26 < v12)))
        ((ixO s26 b.length).bind fun v14 =>
        (getO b v14).bind fun v15 =>
        (some (IntKind.u32.wrap v15)).bind fun v16 =>
        (some (IntKind.i64.wrap (s26 - v10))).bind fun v17 =>
        (some (IntKind.i64.wrap (8 * v17))).bind fun v18 =>
        (shlO .u32 v16 v18).bind fun v19 =>
        (some (bits .or .u32 s25 v19)).bind fun v20 =>
        (some (IntKind.i64.wrap (s26 + 1))).bind fun v21 =>
        some (.inl (v20, v21)))
        (some (.inr (.inl s25))))
       BIG (0, v10))
      (fun (s28 : Int) =>
       (shlO .u32 1 n).bind fun v36 =>
       (some (IntKind.u32.wrap (v36 - 1))).bind fun v37 =>
       (remO at_ 8).bind fun v38 =>
       (shrO .u32 s28 v38).bind fun v39 =>
       (some (bits .and .u32 v39 v37)).bind fun v40 =>
       (some (IntKind.i64.wrap v40)).bind fun v41 =>
       (some (IntKind.i64.wrap (at_ + n))).bind fun v42 =>
       some ((v41, v42, 0))) some))) some

def grow_stream_number (s : T_grow_stream) (n : Int) : Option (Int × Int × T_grow_stream) :=
 (bits_Get s.b s.at_ n).bind fun v1 =>
 cond ((v1.2.2 != 0))
  (some ((0, v1.2.2, s)))
  (some ((v1.1, 0, (T_grow_stream.mk s.b v1.2.1 s.out s.most s.blocks))))

def grow_stream_pad (s : T_grow_stream) : Option (Int × T_grow_stream) :=
 (remO s.at_ 8).bind fun v1 =>
 (some (IntKind.i64.wrap (8 - v1))).bind fun v2 =>
 (remO v2 8).bind fun v3 =>
 (grow_stream_number s v3).bind fun v4 =>
 cond ((v4.2.1 != 0))
  (some ((v4.2.1, v4.2.2)))
  (cond ((v4.1 != 0))
   (some ((3, v4.2.2)))
   (some ((0, v4.2.2))))

def grow_stream_literal (s : T_grow_stream) (x : Int) : Option (Int × T_grow_stream) :=
 (some (IntKind.i64.wrap ((s.out.length : Int) + 1))).bind fun v1 =>
 cond ((decide (s.most < v1)))
  (some ((2, s)))
  ((some (IntKind.u8.wrap x)).bind fun v3 =>
  (appO 1 s.out [v3]).bind fun v4 =>
  some ((0, (T_grow_stream.mk s.b s.at_ v4 s.most s.blocks))))

def grow_stream_stored (s : T_grow_stream) : Option (Int × T_grow_stream) :=
 (grow_stream_pad s).bind fun v1 =>
 cond ((v1.1 != 0))
  (some ((v1.1, v1.2)))
  ((grow_stream_number v1.2 16).bind fun v3 =>
  cond ((v3.2.1 != 0))
   (some ((v3.2.1, v3.2.2)))
   ((grow_stream_number v3.2.2 16).bind fun v5 =>
   cond ((v5.2.1 != 0))
    (some ((v5.2.1, v5.2.2)))
    ((some (bits .xor .i64 v3.1 v5.1)).bind fun v7 =>
    cond ((v7 != 65535))
     (some ((3, v5.2.2)))
     (bindS (S := ((List Int) × Int × (List Int) × Int × Int)) (A := (Int × T_grow_stream))
      (loopF (S := ((List Int) × Int × (List Int) × Int × Int × Int)) (O := ((List Int) × Int × (List Int) × Int × Int) ⊕ (Int × T_grow_stream)) (fun ((s24, s25, s26, s27, s28, s29) : (List Int) × Int × (List Int) × Int × Int × Int) =>
       cond ((decide (s29 < v3.1)))
        ((grow_stream_number (T_grow_stream.mk s24 s25 s26 s27 s28) 8).bind fun v10 =>
        cond ((v10.2.1 != 0))
         (some (.inr (.inr ((v10.2.1, v10.2.2)))))
         ((grow_stream_literal v10.2.2 v10.1).bind fun v12 =>
         cond ((v12.1 != 0))
          (some (.inr (.inr ((v12.1, v12.2)))))
          ((some (IntKind.i64.wrap (s29 + 1))).bind fun v14 =>
          some (.inl (v12.2.b, v12.2.at_, v12.2.out, v12.2.most, v12.2.blocks, v14)))))
        (some (.inr (.inl (s24, s25, s26, s27, s28)))))
       BIG (v5.2.2.b, v5.2.2.at_, v5.2.2.out, v5.2.2.most, v5.2.2.blocks, 0))
      (fun ((s33, s34, s35, s36, s37) : (List Int) × Int × (List Int) × Int × Int) =>
       some ((0, (T_grow_stream.mk s33 s34 s35 s36 s37)))) some))))

def sym_fixedLen (s : Int) : Option Int :=
 cond ((decide (s < 144)))
  (some (8))
  (cond ((decide (s < 256)))
   (some (9))
   (cond ((decide (s < 280)))
    (some (7))
    (some (8))))

def sym_Fixed : Option ((List Int) × (List Int)) :=
 bindS (S := ((List Int))) (A := ((List Int) × (List Int)))
  (loopF (S := ((List Int) × Int)) (O := ((List Int)) ⊕ ((List Int) × (List Int))) (fun ((s8, s9) : (List Int) × Int) =>
   cond ((decide (s9 < 288)))
    ((sym_fixedLen s9).bind fun v2 =>
    (appO 8 s8 [v2]).bind fun v3 =>
    (some (IntKind.i64.wrap (s9 + 1))).bind fun v4 =>
    some (.inl (v3, v4)))
    (some (.inr (.inl s8))))
   BIG ([], 0))
  (fun (s11 : (List Int)) =>
   bindS (S := ((List Int))) (A := ((List Int) × (List Int)))
    (loopF (S := ((List Int) × Int)) (O := ((List Int)) ⊕ ((List Int) × (List Int))) (fun ((s25, s26) : (List Int) × Int) =>
     cond ((decide (s26 < 32)))
      ((appO 8 s25 [5]).bind fun v20 =>
      (some (IntKind.i64.wrap (s26 + 1))).bind fun v21 =>
      some (.inl (v20, v21)))
      (some (.inr (.inl s25))))
     BIG ([], 0))
    (fun (s28 : (List Int)) =>
     some ((s11, s28))) some) some

def canon_valid (lengths : (List Int)) : Option Bool :=
 cond ((decide (300 < (lengths.length : Int))))
  (some (false))
  (bindS (S := (Unit)) (A := Bool)
   (loopF (S := (Int)) (O := (Unit) ⊕ Bool) (fun (s18 : Int) =>
    cond ((decide (s18 < (lengths.length : Int))))
     ((ixO s18 lengths.length).bind fun v3 =>
     (getO lengths v3).bind fun v4 =>
     bindS (S := Bool) (A := ((Int) ⊕ ((Unit) ⊕ Bool)))
      (cond ((decide (v4 < 0)))
       (some (.inl true))
       (some (.inl ((decide (15 < v4))))))
      (fun (s32 : Bool) =>
       cond (s32)
        (some (.inr (.inr (false))))
        ((some (IntKind.i64.wrap (s18 + 1))).bind fun v10 =>
        some (.inl v10))) some)
     (some (.inr (.inl ()))))
    BIG 0)
   (fun (() : Unit) =>
    some (true)) some)

def canon_count (lengths : (List Int)) : Option (List Int) :=
 bindS (S := ((List Int))) (A := (List Int))
  (loopF (S := ((List Int) × Int)) (O := ((List Int)) ⊕ (List Int)) (fun ((s25, s26) : (List Int) × Int) =>
   cond ((decide (s26 < (lengths.length : Int))))
    (bindS (S := (List Int)) (A := (((List Int) × Int) ⊕ (((List Int)) ⊕ (List Int))))
     ((ixO s26 lengths.length).bind fun v2 =>
     (getO lengths v2).bind fun v3 =>
     cond ((decide (0 < v3)))
      ((ixO v3 16).bind fun v5 =>
      (getO s25 v5).bind fun v6 =>
      (some (IntKind.i64.wrap (v6 + 1))).bind fun v7 =>
      (ixO v3 16).bind fun v8 =>
      (setO s25 v8 v7).bind fun v9 =>
      some (.inl v9))
      (some (.inl s25)))
     (fun (s43 : (List Int)) =>
      (some (IntKind.i64.wrap (s26 + 1))).bind fun v15 =>
      some (.inl (s43, v15))) some)
    (some (.inr (.inl s25))))
   BIG (((List.replicate 16 (0 : Int)), 0)))
  (fun (s34 : (List Int)) =>
   (lnO 16 s34).bind fun v48 =>
   (lnO 16 ((List.replicate 16 (0 : Int)))).bind fun v49 =>
   (lnO 16 s34).bind fun v50 =>
   (lnO 16 s34).bind fun v51 =>
   some (s34)) some

def canon_tally_weight (c : (List Int)) : Option Int :=
 (lnO 16 c).bind fun v1 =>
 bindS (S := (Int)) (A := Int)
  (loopF (S := (Int × Int)) (O := (Int) ⊕ Int) (fun ((s12, s13) : Int × Int) =>
   cond ((decide (s13 < 16)))
    ((ixO s13 16).bind fun v3 =>
    (getO c v3).bind fun v4 =>
    (some (IntKind.i64.wrap (15 - s13))).bind fun v5 =>
    (shlO .i64 v4 v5).bind fun v6 =>
    (some (IntKind.i64.wrap (s12 + v6))).bind fun v7 =>
    (some (IntKind.i64.wrap (s13 + 1))).bind fun v8 =>
    some (.inl (v7, v8)))
    (some (.inr (.inl s12))))
   BIG (0, 0))
  (fun (s15 : Int) =>
   some (s15)) some

def canon_forms (c : (List Int)) : Option Bool :=
 (lnO 16 ((List.replicate 16 (0 : Int)))).bind fun v1 =>
 (lnO 16 (([(0 : Int), 1, (0 : Int), (0 : Int), (0 : Int), (0 : Int), (0 : Int), (0 : Int), (0 : Int), (0 : Int), (0 : Int), (0 : Int), (0 : Int), (0 : Int), (0 : Int), (0 : Int)] : List Int))).bind fun v2 =>
 bindS (S := Bool) (A := Bool)
  ((lnO 16 c).bind fun v3 =>
  (lnO 16 c).bind fun v4 =>
  (lnO 16 (([(0 : Int), (0 : Int), (0 : Int), (0 : Int), (0 : Int), (0 : Int), (0 : Int), (0 : Int), (0 : Int), (0 : Int), (0 : Int), (0 : Int), (0 : Int), (0 : Int), (0 : Int), (0 : Int)] : List Int))).bind fun v5 =>
  cond ((c == (([(0 : Int), (0 : Int), (0 : Int), (0 : Int), (0 : Int), (0 : Int), (0 : Int), (0 : Int), (0 : Int), (0 : Int), (0 : Int), (0 : Int), (0 : Int), (0 : Int), (0 : Int), (0 : Int)] : List Int))))
   (some (.inl true))
   ((lnO 16 c).bind fun v6 =>
   (lnO 16 (([(0 : Int), 1, (0 : Int), (0 : Int), (0 : Int), (0 : Int), (0 : Int), (0 : Int), (0 : Int), (0 : Int), (0 : Int), (0 : Int), (0 : Int), (0 : Int), (0 : Int), (0 : Int)] : List Int))).bind fun v7 =>
   (lnO 16 c).bind fun v8 =>
   (lnO 16 (([(0 : Int), 1, (0 : Int), (0 : Int), (0 : Int), (0 : Int), (0 : Int), (0 : Int), (0 : Int), (0 : Int), (0 : Int), (0 : Int), (0 : Int), (0 : Int), (0 : Int), (0 : Int)] : List Int))).bind fun v9 =>
   cond ((c == (([(0 : Int), 1, (0 : Int), (0 : Int), (0 : Int), (0 : Int), (0 : Int), (0 : Int), (0 : Int), (0 : Int), (0 : Int), (0 : Int), (0 : Int), (0 : Int), (0 : Int), (0 : Int)] : List Int))))
    (some (.inl true))
    ((lnO 16 c).bind fun v10 =>
    (canon_tally_weight c).bind fun v11 =>
    some (.inl (v11 == 32768)))))
  (fun (s12 : Bool) =>
   some (s12)) some

def canon_Check (lengths : (List Int)) : Option Int :=
 (canon_valid lengths).bind fun v1 =>
 cond ((!v1))
  (some (1))
  ((canon_count lengths).bind fun v3 =>
  (canon_forms v3).bind fun v4 =>
  cond ((!v4))
   (some (4))
   (some (0)))

def canon_firsts (c : (List Int)) : Option (List Int) :=
 bindS (S := ((List Int))) (A := (List Int))
  (loopF (S := ((List Int) × Int)) (O := ((List Int)) ⊕ (List Int)) (fun ((s16, s17) : (List Int) × Int) =>
   cond ((decide (s17 ≤ 15)))
    ((some (IntKind.i64.wrap (s17 - 1))).bind fun v2 =>
    (ixO v2 16).bind fun v3 =>
    (getO s16 v3).bind fun v4 =>
    (some (IntKind.i64.wrap (s17 - 1))).bind fun v5 =>
    (ixO v5 16).bind fun v6 =>
    (getO c v6).bind fun v7 =>
    (some (IntKind.i64.wrap (v4 + v7))).bind fun v8 =>
    (some (IntKind.i64.wrap (2 * v8))).bind fun v9 =>
    (ixO s17 16).bind fun v10 =>
    (setO s16 v10 v9).bind fun v11 =>
    (some (IntKind.i64.wrap (s17 + 1))).bind fun v12 =>
    some (.inl (v11, v12)))
    (some (.inr (.inl s16))))
   BIG (((List.replicate 16 (0 : Int)), 2)))
  (fun (s19 : (List Int)) =>
   (lnO 16 s19).bind fun v27 =>
   (lnO 16 ((List.replicate 16 (0 : Int)))).bind fun v28 =>
   (lnO 16 s19).bind fun v29 =>
   (lnO 16 s19).bind fun v30 =>
   some (s19)) some

def canon_nth (lengths : (List Int)) (n : Int) (k : Int) : Option Int :=
 bindS (S := (Unit)) (A := Int)
  (loopF (S := (Int × Int)) (O := (Unit) ⊕ Int) (fun ((s25, s26) : Int × Int) =>
   cond ((decide (s26 < (lengths.length : Int))))
    (bindS (S := Int) (A := ((Int × Int) ⊕ ((Unit) ⊕ Int)))
     ((ixO s26 lengths.length).bind fun v2 =>
     (getO lengths v2).bind fun v3 =>
     cond ((v3 != n))
      (some (.inl s25))
      (cond ((s25 == 0))
       (some (.inr (.inr (.inr (s26)))))
       ((some (IntKind.i64.wrap (s25 - 1))).bind fun v6 =>
       some (.inl v6))))
     (fun (s45 : Int) =>
      (some (IntKind.i64.wrap (s26 + 1))).bind fun v13 =>
      some (.inl (s45, v13))) some)
    (some (.inr (.inl ()))))
   BIG (k, 0))
  (fun (() : Unit) =>
   some (0)) some

def canon_Read (lengths : (List Int)) (b : (List Int)) (at_ : Int) : Option (Int × Int × Int) :=
 (canon_Check lengths).bind fun v1 =>
 cond ((v1 != 0))
  (some ((0, 0, v1)))
  (bindS (S := Bool) (A := (Int × Int × Int))
   (cond ((decide (at_ < 0)))
    (some (.inl true))
    ((some (IntKind.i64.wrap (8 * (b.length : Int)))).bind fun v3 =>
    some (.inl ((decide (v3 < at_))))))
   (fun (s4 : Bool) =>
    cond (s4)
     (some ((0, 0, 1)))
     ((canon_count lengths).bind fun v9 =>
     (lnO 16 ((List.replicate 16 (0 : Int)))).bind fun v10 =>
     (lnO 16 v9).bind fun v11 =>
     (lnO 16 v9).bind fun v12 =>
     (canon_firsts v9).bind fun v13 =>
     (lnO 16 ((List.replicate 16 (0 : Int)))).bind fun v14 =>
     (lnO 16 v13).bind fun v15 =>
     bindS (S := (Unit)) (A := (Int × Int × Int))
      (loopF (S := (Int × Int × Int)) (O := (Unit) ⊕ (Int × Int × Int)) (fun ((s52, s53, s54) : Int × Int × Int) =>
       bindS (S := Bool) (A := ((Int × Int × Int) ⊕ ((Unit) ⊕ (Int × Int × Int))))
        (cond ((decide (s54 ≤ 15)))
         ((some (IntKind.i64.wrap (8 * (b.length : Int)))).bind fun v16 =>
         some (.inl ((decide (s52 < v16)))))
         (some (.inl false)))
        (fun (s67 : Bool) =>
         cond (s67)
          ((shlO .i64 s53 1).bind fun v22 =>
          (quoO .i64 s52 8).bind fun v23 =>
          (ixO v23 b.length).bind fun v24 =>
          (getO b v24).bind fun v25 =>
          (remO s52 8).bind fun v26 =>
          (shrO .u8 v25 v26).bind fun v27 =>
          (some (bits .and .u8 v27 1)).bind fun v28 =>
          (some (IntKind.i64.wrap v28)).bind fun v29 =>
          (some (bits .or .i64 v22 v29)).bind fun v30 =>
          (some (IntKind.i64.wrap (s52 + 1))).bind fun v31 =>
          (ixO s54 16).bind fun v32 =>
          (getO v13 v32).bind fun v33 =>
          (ixO s54 16).bind fun v34 =>
          (getO v9 v34).bind fun v35 =>
          (some (IntKind.i64.wrap (v33 + v35))).bind fun v36 =>
          cond ((decide (v30 < v36)))
           ((ixO s54 16).bind fun v38 =>
           (getO v13 v38).bind fun v39 =>
           (some (IntKind.i64.wrap (v30 - v39))).bind fun v40 =>
           (canon_nth lengths s54 v40).bind fun v41 =>
           some (.inr (.inr ((v41, v31, 0)))))
           ((some (IntKind.i64.wrap (s54 + 1))).bind fun v42 =>
           some (.inl (v31, v30, v42))))
          (some (.inr (.inl ())))) some)
       BIG (at_, 0, 1))
      (fun (() : Unit) =>
       some ((0, 0, 3))) some)) some)

def grow_stream_symbol (s : T_grow_stream) (lengths : (List Int)) : Option (Int × Int × T_grow_stream) :=
 (canon_Read lengths s.b s.at_).bind fun v1 =>
 cond ((v1.2.2 != 0))
  (some ((0, v1.2.2, s)))
  (some ((v1.1, 0, (T_grow_stream.mk s.b v1.2.1 s.out s.most s.blocks))))

def sym_lens : Option T_sym_scale :=
 some ((T_sym_scale.mk 3 8 4))

def sym_scale_symbol (s : T_sym_scale) (sym : Int) : Option (Int × Int) :=
 cond ((decide (sym < s.singles)))
  ((some (IntKind.i64.wrap (s.least + sym))).bind fun v2 =>
  some ((v2, 0)))
  ((some (IntKind.i64.wrap (s.least + s.singles))).bind fun v3 =>
  (some (IntKind.i64.wrap (sym - s.singles))).bind fun v4 =>
  bindS (S := (Int × Int × Int)) (A := (Int × Int))
   (loopF (S := (Int × Int × Int)) (O := (Int × Int × Int) ⊕ (Int × Int)) (fun ((s14, s15, s16) : Int × Int × Int) =>
    cond ((decide (s.group ≤ s16)))
     ((shlO .i64 s.group s15).bind fun v6 =>
     (some (IntKind.i64.wrap (s14 + v6))).bind fun v7 =>
     (some (IntKind.i64.wrap (s15 + 1))).bind fun v8 =>
     (some (IntKind.i64.wrap (s16 - s.group))).bind fun v9 =>
     some (.inl (v7, v8, v9)))
     (some (.inr (.inl (s14, s15, s16)))))
    BIG (v3, 1, v4))
   (fun ((s18, s19, s20) : Int × Int × Int) =>
    (shlO .i64 s20 s19).bind fun v28 =>
    (some (IntKind.i64.wrap (s18 + v28))).bind fun v29 =>
    some ((v29, s19))) some)

def sym_LenOf (sym : Int) : Option (Int × Int × Int) :=
 bindS (S := Bool) (A := (Int × Int × Int))
  (cond ((decide (sym < 257)))
   (some (.inl true))
   (some (.inl ((decide (285 < sym))))))
  (fun (s1 : Bool) =>
   cond (s1)
    (some ((0, 0, 1)))
    (cond ((sym == 285))
     (some ((258, 0, 0)))
     ((sym_lens ).bind fun v7 =>
     (some (IntKind.i64.wrap (sym - 257))).bind fun v8 =>
     (sym_scale_symbol v7 v8).bind fun v9 =>
     some ((v9.1, v9.2, 0))))) some

def sym_dists : Option T_sym_scale :=
 some ((T_sym_scale.mk 1 4 2))

def sym_DistOf (sym : Int) : Option (Int × Int × Int) :=
 bindS (S := Bool) (A := (Int × Int × Int))
  (cond ((decide (sym < 0)))
   (some (.inl true))
   (some (.inl ((decide (30 ≤ sym))))))
  (fun (s1 : Bool) =>
   cond (s1)
    (some ((0, 0, 1)))
    ((sym_dists ).bind fun v6 =>
    (sym_scale_symbol v6 sym).bind fun v7 =>
    some ((v7.1, v7.2, 0)))) some

def grow_stream_repeat (s : T_grow_stream) (n : Int) (dist : Int) : Option (Int × T_grow_stream) :=
 cond ((decide ((s.out.length : Int) < dist)))
  (some ((3, s)))
  ((some (IntKind.i64.wrap ((s.out.length : Int) + n))).bind fun v2 =>
  cond ((decide (s.most < v2)))
   (some ((2, s)))
   (bindS (S := ((List Int))) (A := (Int × T_grow_stream))
    (loopF (S := ((List Int) × Int)) (O := ((List Int)) ⊕ (Int × T_grow_stream)) (fun ((s13, s14) : (List Int) × Int) =>
     cond ((decide (s14 < n)))
      ((some (IntKind.i64.wrap ((s13.length : Int) - dist))).bind fun v5 =>
      (ixO v5 s13.length).bind fun v6 =>
      (getO s13 v6).bind fun v7 =>
      (appO 1 s13 [v7]).bind fun v8 =>
      (some (IntKind.i64.wrap (s14 + 1))).bind fun v9 =>
      some (.inl (v8, v9)))
      (some (.inr (.inl s13))))
     BIG (s.out, 0))
    (fun (s16 : (List Int)) =>
     some ((0, (T_grow_stream.mk s.b s.at_ s16 s.most s.blocks)))) some))

def grow_stream_match (s : T_grow_stream) (x : Int) (dists : (List Int)) : Option (Int × T_grow_stream) :=
 cond ((decide (285 < x)))
  (some ((3, s)))
  ((sym_LenOf x).bind fun v2 =>
  (grow_stream_number s v2.2.1).bind fun v3 =>
  cond ((v3.2.1 != 0))
   (some ((v3.2.1, v3.2.2)))
   ((some (IntKind.i64.wrap (v2.1 + v3.1))).bind fun v5 =>
   (grow_stream_symbol v3.2.2 dists).bind fun v6 =>
   cond ((v6.2.1 != 0))
    (some ((v6.2.1, v6.2.2)))
    ((sym_DistOf v6.1).bind fun v8 =>
    cond ((v8.2.2 != 0))
     (some ((3, v6.2.2)))
     ((grow_stream_number v6.2.2 v8.2.1).bind fun v10 =>
     cond ((v10.2.1 != 0))
      (some ((v10.2.1, v10.2.2)))
      ((some (IntKind.i64.wrap (v8.1 + v10.1))).bind fun v12 =>
      (grow_stream_repeat v10.2.2 v5 v12).bind fun v13 =>
      some ((v13.1, v13.2)))))))

def grow_stream_tokens (s : T_grow_stream) (lits : (List Int)) (dists : (List Int)) : Option (Int × T_grow_stream) :=
 bindS (S := (Unit)) (A := (Int × T_grow_stream))
  (loopF (S := ((List Int) × Int × (List Int) × Int × Int)) (O := (Unit) ⊕ (Int × T_grow_stream)) (fun ((s39, s40, s41, s42, s43) : (List Int) × Int × (List Int) × Int × Int) =>
   (grow_stream_symbol (T_grow_stream.mk s39 s40 s41 s42 s43) lits).bind fun v1 =>
   cond ((v1.2.1 != 0))
    (some (.inr (.inr ((v1.2.1, v1.2.2)))))
    (bindS (S := (List Int) × Int × (List Int) × Int × Int × Int) (A := (((List Int) × Int × (List Int) × Int × Int) ⊕ ((Unit) ⊕ (Int × T_grow_stream))))
     (cond ((v1.1 == 256))
      (some (.inr (.inr (.inr ((0, v1.2.2))))))
      (cond ((decide (v1.1 < 256)))
       ((grow_stream_literal v1.2.2 v1.1).bind fun v5 =>
       some (.inl (v5.2.b, v5.2.at_, v5.2.out, v5.2.most, v5.2.blocks, v5.1)))
       ((grow_stream_match v1.2.2 v1.1 dists).bind fun v6 =>
       some (.inl (v6.2.b, v6.2.at_, v6.2.out, v6.2.most, v6.2.blocks, v6.1)))))
     (fun ((s68, s69, s70, s71, s72, s73) : (List Int) × Int × (List Int) × Int × Int × Int) =>
      cond ((s73 != 0))
       (some (.inr (.inr ((s73, (T_grow_stream.mk s68 s69 s70 s71 s72))))))
       (some (.inl (s68, s69, s70, s71, s72)))) some))
   BIG (s.b, s.at_, s.out, s.most, s.blocks))
  (fun (() : Unit) =>
   none) some

set_option maxRecDepth 100000 in
def grow_rowOrder : List Int := (16 :: 17 :: 18 :: 0 :: 8 :: 7 :: 9 :: 6 :: 10 :: 5 :: 11 :: 4 :: 12 :: 3 :: 13 :: 2 :: 14 :: 1 :: 15 :: [])

def grow_stream_rowLengths (s : T_grow_stream) : Option ((List Int) × Int × T_grow_stream) :=
 (grow_stream_number s 4).bind fun v1 =>
 cond ((v1.2.1 != 0))
  (some (([], v1.2.1, v1.2.2)))
  ((mkO 8 19 (0 : Int)).bind fun v3 =>
  (some (IntKind.i64.wrap (v1.1 + 4))).bind fun v4 =>
  bindS (S := ((List Int) × Int × (List Int) × Int × Int × (List Int))) (A := ((List Int) × Int × T_grow_stream))
   (loopF (S := ((List Int) × Int × (List Int) × Int × Int × (List Int) × Int)) (O := ((List Int) × Int × (List Int) × Int × Int × (List Int)) ⊕ ((List Int) × Int × T_grow_stream)) (fun ((s22, s23, s24, s25, s26, s27, s28) : (List Int) × Int × (List Int) × Int × Int × (List Int) × Int) =>
    cond ((decide (s28 < v4)))
     ((ixO s28 19).bind fun v6 =>
     (getO grow_rowOrder (0 + v6 * 1)).bind fun v7 =>
     (grow_stream_number (T_grow_stream.mk s22 s23 s24 s25 s26) 3).bind fun v8 =>
     (ixO v7 s27.length).bind fun v9 =>
     (some (s27.set v9 v8.1)).bind fun v10 =>
     cond ((v8.2.1 != 0))
      (some (.inr (.inr (([], v8.2.1, v8.2.2)))))
      ((some (IntKind.i64.wrap (s28 + 1))).bind fun v12 =>
      some (.inl (v8.2.2.b, v8.2.2.at_, v8.2.2.out, v8.2.2.most, v8.2.2.blocks, v10, v12))))
     (some (.inr (.inl (s22, s23, s24, s25, s26, s27)))))
    BIG (v1.2.2.b, v1.2.2.at_, v1.2.2.out, v1.2.2.most, v1.2.2.blocks, v3, 0))
   (fun ((s31, s32, s33, s34, s35, s36) : (List Int) × Int × (List Int) × Int × Int × (List Int)) =>
    (canon_Check s36).bind fun v45 =>
    cond ((v45 != 0))
     (some (([], 3, (T_grow_stream.mk s31 s32 s33 s34 s35))))
     (some ((s36, 0, (T_grow_stream.mk s31 s32 s33 s34 s35))))) some)

def grow_stream_row (s : T_grow_stream) (code : (List Int)) (n : Int) : Option ((List Int) × Int × T_grow_stream) :=
 bindS (S := ((List Int) × Int × (List Int) × Int × Int × (List Int))) (A := ((List Int) × Int × T_grow_stream))
  (loopF (S := ((List Int) × Int × (List Int) × Int × Int × (List Int))) (O := ((List Int) × Int × (List Int) × Int × Int × (List Int)) ⊕ ((List Int) × Int × T_grow_stream)) (fun ((s123, s124, s125, s126, s127, s128) : (List Int) × Int × (List Int) × Int × Int × (List Int)) =>
   cond ((decide ((s128.length : Int) < n)))
    ((grow_stream_symbol (T_grow_stream.mk s123 s124 s125 s126 s127) code).bind fun v2 =>
    cond ((v2.2.1 != 0))
     (some (.inr (.inr (([], v2.2.1, v2.2.2)))))
     (bindS (S := Int × Int × Int) (A := (((List Int) × Int × (List Int) × Int × Int × (List Int)) ⊕ (((List Int) × Int × (List Int) × Int × Int × (List Int)) ⊕ ((List Int) × Int × T_grow_stream))))
      (bindS (S := Int × Int × Int) (A := ((Int × Int × Int) ⊕ (((List Int) × Int × (List Int) × Int × Int × (List Int)) ⊕ (((List Int) × Int × (List Int) × Int × Int × (List Int)) ⊕ ((List Int) × Int × T_grow_stream)))))
       (cond ((v2.1 == 16))
        (cond (((s128.length : Int) == 0))
         (some (.inr (.inr (.inr (.inr (([], 3, v2.2.2)))))))
         ((some (IntKind.i64.wrap ((s128.length : Int) - 1))).bind fun v6 =>
         (ixO v6 s128.length).bind fun v72 =>
         (getO s128 v72).bind fun v73 =>
         some (.inl (v73, 3, 2))))
        (cond ((v2.1 == 17))
         (some (.inl (0, 3, 3)))
         (cond ((v2.1 == 18))
          (some (.inl (0, 11, 7)))
          (some (.inl (v2.1, 1, 0))))))
       (fun ((s220, s221, s222) : Int × Int × Int) =>
        some (.inl (s220, s221, s222))) some)
      (fun ((s210, s211, s212) : Int × Int × Int) =>
       (grow_stream_number v2.2.2 s212).bind fun v39 =>
       cond ((v39.2.1 != 0))
        (some (.inr (.inr (([], v39.2.1, v39.2.2)))))
        ((some (IntKind.i64.wrap (s211 + v39.1))).bind fun v41 =>
        (some (IntKind.i64.wrap (n - (s128.length : Int)))).bind fun v42 =>
        cond ((decide (v42 < v41)))
         (some (.inr (.inr (([], 3, v39.2.2)))))
         ((some (IntKind.i64.wrap (s211 + v39.1))).bind fun v44 =>
         bindS (S := ((List Int))) (A := (((List Int) × Int × (List Int) × Int × Int × (List Int)) ⊕ (((List Int) × Int × (List Int) × Int × Int × (List Int)) ⊕ ((List Int) × Int × T_grow_stream))))
          (loopF (S := ((List Int) × Int)) (O := ((List Int)) ⊕ (((List Int) × Int × (List Int) × Int × Int × (List Int)) ⊕ (((List Int) × Int × (List Int) × Int × Int × (List Int)) ⊕ ((List Int) × Int × T_grow_stream)))) (fun ((s236, s237) : (List Int) × Int) =>
           cond ((decide (s237 < v44)))
            ((appO 8 s236 [s210]).bind fun v46 =>
            (some (IntKind.i64.wrap (s237 + 1))).bind fun v47 =>
            some (.inl (v46, v47)))
            (some (.inr (.inl s236))))
           BIG (s128, 0))
          (fun (s239 : (List Int)) =>
           some (.inl (v39.2.2.b, v39.2.2.at_, v39.2.2.out, v39.2.2.most, v39.2.2.blocks, s239))) some))) some))
    (some (.inr (.inl (s123, s124, s125, s126, s127, s128)))))
   BIG (s.b, s.at_, s.out, s.most, s.blocks, []))
  (fun ((s182, s183, s184, s185, s186, s187) : (List Int) × Int × (List Int) × Int × Int × (List Int)) =>
   some ((s187, 0, (T_grow_stream.mk s182 s183 s184 s185 s186)))) some

def grow_stream_dynamic (s : T_grow_stream) : Option (Int × T_grow_stream) :=
 (grow_stream_number s 5).bind fun v1 =>
 cond ((v1.2.1 != 0))
  (some ((v1.2.1, v1.2.2)))
  ((grow_stream_number v1.2.2 5).bind fun v3 =>
  cond ((v3.2.1 != 0))
   (some ((v3.2.1, v3.2.2)))
   ((some (IntKind.i64.wrap (v1.1 + 257))).bind fun v5 =>
   (some (IntKind.i64.wrap (v3.1 + 1))).bind fun v6 =>
   bindS (S := Bool) (A := (Int × T_grow_stream))
    (cond ((decide (286 < v5)))
     (some (.inl true))
     (some (.inl ((decide (30 < v6))))))
    (fun (s7 : Bool) =>
     cond (s7)
      (some ((3, v3.2.2)))
      ((grow_stream_rowLengths v3.2.2).bind fun v12 =>
      cond ((v12.2.1 != 0))
       (some ((v12.2.1, v12.2.2)))
       ((some (IntKind.i64.wrap (v5 + v6))).bind fun v14 =>
       (grow_stream_row v12.2.2 v12.1 v14).bind fun v15 =>
       cond ((v15.2.1 != 0))
        (some ((v15.2.1, v15.2.2)))
        (bindS (S := Bool) (A := (Int × T_grow_stream))
         ((sliO v15.1 0 v5).bind fun v17 =>
         (canon_Check v17).bind fun v18 =>
         cond ((v18 != 0))
          (some (.inl true))
          ((sliO v15.1 v5 (v15.1.length : Int)).bind fun v19 =>
          (canon_Check v19).bind fun v20 =>
          cond ((v20 != 0))
           (some (.inl true))
           ((ixO 256 v15.1.length).bind fun v21 =>
           (getO v15.1 v21).bind fun v22 =>
           some (.inl (v22 == 0)))))
         (fun (s23 : Bool) =>
          cond (s23)
           (some ((3, v15.2.2)))
           ((sliO v15.1 0 v5).bind fun v28 =>
           (sliO v15.1 v5 (v15.1.length : Int)).bind fun v29 =>
           (grow_stream_tokens v15.2.2 v28 v29).bind fun v30 =>
           some ((v30.1, v30.2)))) some)))) some))

def grow_stream_block (s : T_grow_stream) : Option (Bool × Int × T_grow_stream) :=
 (grow_stream_number s 1).bind fun v1 =>
 cond ((v1.2.1 != 0))
  (some ((false, v1.2.1, v1.2.2)))
  ((grow_stream_number v1.2.2 2).bind fun v3 =>
  cond ((v3.2.1 != 0))
   (some ((false, v3.2.1, v3.2.2)))
   (bindS (S := (List Int) × Int × (List Int) × Int × Int × Int) (A := (Bool × Int × T_grow_stream))
    (bindS (S := (List Int) × Int × (List Int) × Int × Int × Int) (A := (((List Int) × Int × (List Int) × Int × Int × Int) ⊕ (Bool × Int × T_grow_stream)))
     (cond ((v3.1 == 0))
      ((grow_stream_stored v3.2.2).bind fun v6 =>
      some (.inl (v6.2.b, v6.2.at_, v6.2.out, v6.2.most, v6.2.blocks, v6.1)))
      (cond ((v3.1 == 1))
       ((sym_Fixed ).bind fun v8 =>
       (grow_stream_tokens v3.2.2 v8.1 v8.2).bind fun v9 =>
       some (.inl (v9.2.b, v9.2.at_, v9.2.out, v9.2.most, v9.2.blocks, v9.1)))
       (cond ((v3.1 == 2))
        ((grow_stream_dynamic v3.2.2).bind fun v19 =>
        some (.inl (v19.2.b, v19.2.at_, v19.2.out, v19.2.most, v19.2.blocks, v19.1)))
        (some (.inl (v3.2.2.b, v3.2.2.at_, v3.2.2.out, v3.2.2.most, v3.2.2.blocks, 3))))))
     (fun ((s44, s45, s46, s47, s48, s49) : (List Int) × Int × (List Int) × Int × Int × Int) =>
      some (.inl (s44, s45, s46, s47, s48, s49))) some)
    (fun ((s32, s33, s34, s35, s36, s37) : (List Int) × Int × (List Int) × Int × Int × Int) =>
     some (((v1.1 == 1), s37, (T_grow_stream.mk s32 s33 s34 s35 s36)))) some))

def grow_stream_end (s : T_grow_stream) : Option (Int × T_grow_stream) :=
 (some (IntKind.i64.wrap (8 * (s.b.length : Int)))).bind fun v1 =>
 (some (IntKind.i64.wrap (v1 - s.at_))).bind fun v2 =>
 cond ((decide (8 ≤ v2)))
  (some ((3, s)))
  ((grow_stream_pad s).bind fun v4 =>
  some ((v4.1, v4.2)))

def grow_read_sh (b : (List Int)) (most : Int) : Option ((Option T_grow_stream) × Int) :=
 bindS (S := Bool) (A := ((Option T_grow_stream) × Int))
  (cond ((decide (most < 0)))
   (some (.inl true))
   (some (.inl ((decide (4096 < most))))))
  (fun (s1 : Bool) =>
   cond (s1)
    (some ((none, 1)))
    (cond ((decide (5000 < (b.length : Int))))
     (some ((none, 2)))
     (bindS (S := ((List Int) × Int × (List Int) × Int × Int)) (A := ((Option T_grow_stream) × Int))
      (loopF (S := ((List Int) × Int × (List Int) × Int × Int × Bool)) (O := ((List Int) × Int × (List Int) × Int × Int) ⊕ ((Option T_grow_stream) × Int)) (fun ((s18, s19, s20, s21, s22, s23) : (List Int) × Int × (List Int) × Int × Int × Bool) =>
       cond ((!s23))
        ((grow_stream_block (T_grow_stream.mk s18 s19 s20 s21 s22)).bind fun v7 =>
        cond ((v7.2.1 != 0))
         (some (.inr (.inr ((none, v7.2.1)))))
         ((some (IntKind.i64.wrap (v7.2.2.blocks + 1))).bind fun v9 =>
         some (.inl (v7.2.2.b, v7.2.2.at_, v7.2.2.out, v7.2.2.most, v9, v7.1))))
        (some (.inr (.inl (s18, s19, s20, s21, s22)))))
       BIG (b, 0, [], most, 0, false))
      (fun ((s26, s27, s28, s29, s30) : (List Int) × Int × (List Int) × Int × Int) =>
       (grow_stream_end (T_grow_stream.mk s26 s27 s28 s29 s30)).bind fun v39 =>
       some ((some v39.2, v39.1))) some))) some

def grow_Grow (b : (List Int)) (most : Int) : Option ((List Int) × Int) :=
 (grow_read_sh b most).bind fun v1 =>
 obS v1.1 (fun (v6 : T_grow_stream) =>
  cond ((v1.2 != 0))
   (some (([], v1.2)))
   (some ((v6.out, 0))))
  (cond ((v1.2 != 0))
   (some (([], v1.2)))
   (none))

def grow_Blocks (b : (List Int)) : Option (Int × Int) :=
 (grow_read_sh b 4096).bind fun v1 =>
 obS v1.1 (fun (v2 : T_grow_stream) =>
  cond ((v1.2 != 0))
   (some ((0, v1.2)))
   (some ((v2.blocks, 0))))
  (cond ((v1.2 != 0))
   (some ((0, v1.2)))
   (none))

def wherrykeep_Bytes (a : (List Int)) (b : (List Int)) : Option Bool :=
 cond (((a.length : Int) != (b.length : Int)))
  (some (false))
  (bindS (S := (Unit)) (A := Bool)
   (loopF (S := (Int)) (O := (Unit) ⊕ Bool) (fun (s12 : Int) =>
    cond ((decide (s12 < (a.length : Int))))
     ((ixO s12 a.length).bind fun v3 =>
     (getO a v3).bind fun v4 =>
     (ixO s12 b.length).bind fun v5 =>
     (getO b v5).bind fun v6 =>
     cond ((v4 != v6))
      (some (.inr (.inr (false))))
      ((some (IntKind.i64.wrap (s12 + 1))).bind fun v8 =>
      some (.inl v8)))
     (some (.inr (.inl ()))))
    BIG 0)
   (fun (() : Unit) =>
    some (true)) some)

def wherrylaw07_wakes : Option Bool :=
 (grow_Grow [3, 0] 0).bind fun v1 =>
 (grow_Grow [1, 1, 0, 254, 255, 7] 9).bind fun v2 =>
 (grow_Blocks [3, 0]).bind fun v3 =>
 (grow_Grow [7] 9).bind fun v4 =>
 bindS (S := Bool) (A := Bool)
  (cond ((v1.2 == 0))
   (cond ((v2.2 == 0))
    (cond ((v3.2 == 0))
     (cond ((v4.2 == 3))
      (cond (((v1.1.length : Int) == 0))
       ((wherrykeep_Bytes v2.1 [7]).bind fun v5 =>
       cond (v5)
        (some (.inl (v3.1 == 1)))
        (some (.inl false)))
       (some (.inl false)))
      (some (.inl false)))
     (some (.inl false)))
    (some (.inl false)))
   (some (.inl false)))
  (fun (s6 : Bool) =>
   some (s6)) some

def wherrykeep_Twin (l : (List Int)) : Option (List Int) :=
 (appO 1 ([] : List Int) l).bind fun v1 =>
 some (v1)

def wherrylaw07_GrowFar (a : Int) (c : Int) (dist : Int) (n : Int) : Option Bool :=
 (some (IntKind.u64.wrap dist)).bind fun v1 =>
 (remO v1 4).bind fun v2 =>
 (some (IntKind.i64.wrap v2)).bind fun v3 =>
 (some (IntKind.i64.wrap (1 + v3))).bind fun v4 =>
 (some (IntKind.u64.wrap n)).bind fun v5 =>
 (remO v5 8).bind fun v6 =>
 (some (IntKind.i64.wrap v6)).bind fun v7 =>
 (some (IntKind.i64.wrap (3 + v7))).bind fun v8 =>
 (some (bits .and .u8 a 127)).bind fun v9 =>
 (some (bits .and .u8 c 127)).bind fun v10 =>
 bindS (S := ((List T_pair))) (A := Bool)
  (loopF (S := ((List T_pair) × Int)) (O := ((List T_pair)) ⊕ Bool) (fun ((s22, s23) : (List T_pair) × Int) =>
   cond ((decide (s23 < ([v9, v10].length : Int))))
    ((ixO s23 [v9, v10].length).bind fun v12 =>
    (getO [v9, v10] v12).bind fun v13 =>
    (some (IntKind.i64.wrap v13)).bind fun v14 =>
    (some (IntKind.i64.wrap (48 + v14))).bind fun v15 =>
    (bits_Turn v15 8).bind fun v16 =>
    (appO 16 s22 [(T_pair.mk v16.1 8)]).bind fun v17 =>
    (some (IntKind.i64.wrap (s23 + 1))).bind fun v18 =>
    some (.inl (v17, v18)))
    (some (.inr (.inl s22))))
   BIG (([(T_pair.mk 1 1), (T_pair.mk 1 2)], 0)))
  (fun (s25 : (List T_pair)) =>
   (some (IntKind.i64.wrap (v8 - 3))).bind fun v33 =>
   (some (IntKind.i64.wrap (v33 + 1))).bind fun v34 =>
   (bits_Turn v34 7).bind fun v35 =>
   (some (IntKind.i64.wrap (v4 - 1))).bind fun v36 =>
   (bits_Turn v36 5).bind fun v37 =>
   (appO 16 s25 [(T_pair.mk v35.1 7), (T_pair.mk v37.1 5), (T_pair.mk 0 7)]).bind fun v38 =>
   bindS (S := ((List Int) × Int)) (A := Bool)
    (loopF (S := ((List Int) × Int × Int)) (O := ((List Int) × Int) ⊕ Bool) (fun ((s52, s53, s54) : (List Int) × Int × Int) =>
     cond ((decide (s54 < (v38.length : Int))))
      ((ixO s54 v38.length).bind fun v40 =>
      (getO v38 v40).bind fun v41 =>
      (ixO s54 v38.length).bind fun v42 =>
      (getO v38 v42).bind fun v43 =>
      (bits_Put (T_Bits.mk s52 s53) v41.a0 v43.a1).bind fun v44 =>
      cond ((v44.2 != 0))
       (some (.inr (.inr (false))))
       ((some (IntKind.i64.wrap (s54 + 1))).bind fun v46 =>
       some (.inl (v44.1.B, v44.1.N, v46))))
      (some (.inr (.inl (s52, s53)))))
     BIG ([], 0, 0))
    (fun ((s57, s58) : (List Int) × Int) =>
     (grow_Grow s57 4096).bind fun v67 =>
     cond ((decide (2 < v4)))
      (bindS (S := Bool) (A := Bool)
       (cond ((v67.2 == 3))
        (cond (((v67.1.length : Int) == 0))
         ((wherrylaw07_wakes ).bind fun v69 =>
         some (.inl v69))
         (some (.inl false)))
        (some (.inl false)))
       (fun (s70 : Bool) =>
        some (s70)) some)
      ((wherrykeep_Twin [v9, v10]).bind fun v74 =>
      bindS (S := ((List Int))) (A := Bool)
       (loopF (S := ((List Int) × Int)) (O := ((List Int)) ⊕ Bool) (fun ((s84, s85) : (List Int) × Int) =>
        cond ((decide (s85 < v8)))
         ((some (IntKind.i64.wrap ((s84.length : Int) - v4))).bind fun v76 =>
         (ixO v76 s84.length).bind fun v77 =>
         (getO s84 v77).bind fun v78 =>
         (appO 1 s84 [v78]).bind fun v79 =>
         (some (IntKind.i64.wrap (s85 + 1))).bind fun v80 =>
         some (.inl (v79, v80)))
         (some (.inr (.inl s84))))
        BIG (v74, 0))
       (fun (s87 : (List Int)) =>
        bindS (S := Bool) (A := Bool)
         (cond ((v67.2 == 0))
          ((wherrykeep_Bytes v67.1 s87).bind fun v95 =>
          cond (v95)
           ((wherrylaw07_wakes ).bind fun v96 =>
           some (.inl v96))
           (some (.inl false)))
          (some (.inl false)))
         (fun (s97 : Bool) =>
          some (s97)) some) some)) some) some

end Go.Abs.Sh
