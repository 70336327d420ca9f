import Derived.Test.YthceldoojddpiaaDoorGrqD
namespace Go.Abs.Sh
set_option linter.unusedVariables false
set_option linter.unusedSimpArgs false
set_option maxRecDepth 10000
theorem keep_self (a : List Int) (h : a.length < 4294967296) : wherrykeep_Bytes a a = some true := by rw [keepBytes_eq a a h]; simp
structure Str (B : List Int) (A C k r : Nat) : Prop where
  len : B.length = 5
  byt : isB B
  g0 : bits_Get B 0 1 = some (1, 1, 0)
  g1 : bits_Get B 1 2 = some (1, 3, 0)
  s1 : canon_Read (ints mL) B 3 = some ((A : Int), 11, 0)
  s2 : canon_Read (ints mL) B 11 = some ((C : Int), 19, 0)
  s3 : canon_Read (ints mL) B 19 = some (((257 + k : Nat) : Int), 26, 0)
  z1 : bits_Get B 26 0 = some (0, 26, 0)
  s4 : canon_Read (ints mD) B 26 = some ((r : Int), 31, 0)
  z2 : bits_Get B 31 0 = some (0, 31, 0)
  s5 : canon_Read (ints mL) B 31 = some (256, 38, 0)
  p : bits_Get B 38 2 = some (0, 40, 0)
theorem str_of {B : List Int} {A C k r r1 r2 l1 d1 : Nat} (hA : A < 128) (hC : C < 128) (hk : k < 8) (hr : r < 4) (hG : Good B 38) (hS : Sp [(1, 1), (1, 2), (r1, 8), (r2, 8), (l1, 7), (d1, 5), (0, 7)] 0 B)
    (t1 : ∀ i, i < 8 → r1.testBit i = (48 + A).testBit (8 - 1 - i)) (t2 : ∀ i, i < 8 → r2.testBit i = (48 + C).testBit (8 - 1 - i)) (t3 : ∀ i, i < 7 → l1.testBit i = (k + 1).testBit (7 - 1 - i)) (t4 : ∀ i, i < 5 → d1.testBit i = r.testBit (5 - 1 - i)) : Str B A C k r := by
  obtain ⟨a1, a2, a3, a4, a5, a6, a7, _⟩ := hS
  have hlen : B.length = 5 := hG.len
  have hB := hG.bytes
  have gz : ∀ P : Nat, P ≤ 40 → bits_Get B (P : Int) 0 = some (0, (P : Int), 0) := by
    intro P hP
    obtain ⟨v, e, hv, _⟩ := get_eq hB (by omega) P 0 (by omega) (by omega)
    have : v = 0 := by simpa using hv
    subst this
    exact e
  refine ⟨hlen, hB, ?_, ?_, ?_, ?_, ?_, gz 26 (by omega), ?_, gz 31 (by omega), ?_, ?_⟩
  · obtain ⟨v, e, hv, hb⟩ := get_eq hB (by omega) 0 1 (by omega) (by omega)
    have hv2 := bits_val (by omega) hv (f := fun i => bitC B (0 + i)) hb
    have h0 := a1 0 (by decide)
    have h0' : bitC B (0 + 0) = true := h0
    rw [if_pos ⟨by omega, h0'⟩, if_neg (by omega)] at hv2
    subst hv2
    exact e
  · obtain ⟨v, e, hv, hb⟩ := get_eq hB (by omega) 1 2 (by omega) (by omega)
    have hv2 := bits_val (by omega) hv (f := fun i => bitC B (1 + i)) hb
    have h0 : bitC B (1 + 0) = true := a2 0 (by decide)
    have h1 : bitC B (1 + 1) = false := a2 1 (by decide)
    rw [if_pos ⟨by omega, h0⟩, if_neg (by rw [h1]; simp)] at hv2
    subst hv2
    exact e
  · exact rd_of (by have := mL_ok.1; omega) mL_ok.2 mL_forms hB (by omega) (of_decide_eq_true (all_of cd_lit hA)) (by omega) 3 (by omega) (fun i hi => (a3 i hi).trans (t1 i hi))
  · exact rd_of (by have := mL_ok.1; omega) mL_ok.2 mL_forms hB (by omega) (of_decide_eq_true (all_of cd_lit hC)) (by omega) 11 (by omega) (fun i hi => (a4 i hi).trans (t2 i hi))
  · exact rd_of (by have := mL_ok.1; omega) mL_ok.2 mL_forms hB (by omega) (of_decide_eq_true (all_of cd_len hk)) (by omega) 19 (by omega) (fun i hi => (a5 i hi).trans (t3 i hi))
  · exact rd_of (by have := mD_ok.1; omega) mD_ok.2 mD_forms hB (by omega) (of_decide_eq_true (all_of cd_dist hr)) (by omega) 26 (by omega) (fun i hi => (a6 i hi).trans (t4 i hi))
  · exact rd_of (by have := mL_ok.1; omega) mL_ok.2 mL_forms hB (by omega) cd_end (by omega) 31 (by omega) (fun i hi => (a7 i hi).trans (by simp))
  · obtain ⟨v, e, hv, hb⟩ := get_eq hB (by omega) 38 2 (by omega) (by omega)
    have hv2 := bits_val (by omega) hv (f := fun i => bitC B (38 + i)) hb
    have h0 : bitC B (38 + 0) = false := hG.zero _ (by omega)
    have h1 : bitC B (38 + 1) = false := hG.zero _ (by omega)
    rw [if_neg (by rw [h0]; simp), if_neg (by rw [h1]; simp)] at hv2
    subst hv2
    exact e
theorem toks_eq {B : List Int} {A C k r : Nat} (hA : A < 128) (hC : C < 128) (hk : k < 8) (hr : r < 4) (h : Str B A C k r) :
    ∃ q : Int, grow_stream_tokens (T_grow_stream.mk B 3 [] 4096 0) (ints mL) (ints mD) = some (if 2 < r + 1 then (3, T_grow_stream.mk B 31 [(A : Int), (C : Int)] 4096 0) else (0, T_grow_stream.mk B 38 (cpy (r + 1) [(A : Int), (C : Int)] (3 + k)) 4096 0)) := by
  refine ⟨0, ?_⟩
  unfold grow_stream_tokens
  obtain ⟨fu, hfu⟩ : ∃ fu, BIG = fu + 4 := ⟨BIG - 4, by simp only [BIG]⟩
  have m := match_eq (B := B) (out := [(A : Int), (C : Int)]) (P := 26) hk hr (by simp) h.z1 h.s4 h.z2
  have st1 := tk_lit (d := ints mD) (out := []) (by omega : A < 256) (by simp) h.s1
  have st2 := tk_lit (d := ints mD) (out := [(A : Int)]) (by omega : C < 256) (by simp) h.s2
  rw [hfu]
  by_cases hd : 2 < r + 1
  · rw [if_pos hd]
    rw [if_pos (by simpa using hd)] at m
    have st3 : tkS (ints mL) (ints mD) (B, 19, [(A : Int), (C : Int)], 4096, 0) = some (.inr (.inr (3, T_grow_stream.mk B 31 [(A : Int), (C : Int)] 4096 0))) := by
      unfold tkS
      exact bnd (symb_eq h.s3) (cnd_f rfl (bndL (s := (B, 31, [(A : Int), (C : Int)], 4096, 0, 3)) (cnd_f (beq_eq_false_iff_ne.2 (by show ((257 + k : Nat) : Int) ≠ 256; omega)) (cnd_f (decide_eq_false (by show ¬ ((257 + k : Nat) : Int) < 256; omega)) (bnd m rfl))) (cnd_t rfl rfl)))
    exact bndR ((loop_next st1).trans ((loop_next st2).trans (loop_exit st3))) rfl
  · rw [if_neg hd]
    rw [if_neg (by simpa using hd)] at m
    have st3 : tkS (ints mL) (ints mD) (B, 19, [(A : Int), (C : Int)], 4096, 0) = some (.inl (B, 31, cpy (r + 1) [(A : Int), (C : Int)] (3 + k), 4096, 0)) := by
      unfold tkS
      exact bnd (symb_eq h.s3) (cnd_f rfl (bndL (s := (B, 31, cpy (r + 1) [(A : Int), (C : Int)] (3 + k), 4096, 0, 0)) (cnd_f (beq_eq_false_iff_ne.2 (by show ((257 + k : Nat) : Int) ≠ 256; omega)) (cnd_f (decide_eq_false (by show ¬ ((257 + k : Nat) : Int) < 256; omega)) (bnd m rfl))) (cnd_f rfl rfl)))
    have st4 : ∀ out : List Int, tkS (ints mL) (ints mD) (B, 31, out, 4096, 0) = some (.inr (.inr (0, T_grow_stream.mk B 38 out 4096 0))) := by
      intro out
      unfold tkS
      exact bnd (symb_eq h.s5) (cnd_f rfl (bndR (cnd_t rfl rfl) rfl))
    exact bndR ((loop_next st1).trans ((loop_next st2).trans ((loop_next st3).trans (loop_exit (st4 _))))) rfl
theorem block_eq {B : List Int} {A C k r : Nat} (hA : A < 128) (hC : C < 128) (hk : k < 8) (hr : r < 4) (h : Str B A C k r) :
    grow_stream_block (T_grow_stream.mk B 0 [] 4096 0) = some (true, if 2 < r + 1 then (3, T_grow_stream.mk B 31 [(A : Int), (C : Int)] 4096 0) else (0, T_grow_stream.mk B 38 (cpy (r + 1) [(A : Int), (C : Int)] (3 + k)) 4096 0)) := by
  unfold grow_stream_block
  obtain ⟨_, ht⟩ := toks_eq hA hC hk hr h
  generalize (if 2 < r + 1 then ((3 : Int), T_grow_stream.mk B 31 [(A : Int), (C : Int)] 4096 0) else (0, T_grow_stream.mk B 38 (cpy (r + 1) [(A : Int), (C : Int)] (3 + k)) 4096 0)) = z at ht
  obtain ⟨e, s⟩ := z
  exact bnd (num_eq h.g0) (cnd_f rfl (bnd (num_eq h.g1) (cnd_f rfl (bndL (s := (s.b, s.at_, s.out, s.most, s.blocks, e)) (bndL (s := (s.b, s.at_, s.out, s.most, s.blocks, e)) (cnd_f rfl (cnd_t rfl (bnd fixed_eq (bnd ht rfl)))) rfl) rfl))))
theorem grow_eq {B : List Int} {A C k r : Nat} (hA : A < 128) (hC : C < 128) (hk : k < 8) (hr : r < 4) (h : Str B A C k r) :
    grow_Grow B 4096 = some (if 2 < r + 1 then ([], 3) else (cpy (r + 1) [(A : Int), (C : Int)] (3 + k), 0)) := by
  have hb := block_eq hA hC hk hr h
  have hlen := h.len
  unfold grow_Grow
  obtain ⟨fu, hfu⟩ : ∃ fu, BIG = fu + 2 := ⟨BIG - 2, by simp only [BIG]⟩
  by_cases hd : 2 < r + 1
  · rw [if_pos hd] at hb ⊢
    have hr1 : grow_read_sh B 4096 = some (none, 3) := by
      unfold grow_read_sh
      refine bndL (s := false) (cnd_f rfl rfl) (cnd_f rfl (cnd_f (decide_eq_false (by omega)) ?_))
      rw [hfu]
      exact bndR (loop_exit (cnd_t rfl (bnd hb (cnd_t rfl rfl)))) rfl
    exact bnd hr1 rfl
  · rw [if_neg hd] at hb ⊢
    have hp : grow_stream_pad (T_grow_stream.mk B 38 (cpy (r + 1) [(A : Int), (C : Int)] (3 + k)) 4096 1) = some (0, T_grow_stream.mk B 40 (cpy (r + 1) [(A : Int), (C : Int)] (3 + k)) 4096 1) := by
      unfold grow_stream_pad
      exact bnd (x := 6) rfl (bnd (x := 2) rfl (bnd (x := 2) rfl (bnd (num_eq h.p) (cnd_f rfl (cnd_f rfl rfl)))))
    have he : grow_stream_end (T_grow_stream.mk B 38 (cpy (r + 1) [(A : Int), (C : Int)] (3 + k)) 4096 1) = some (0, T_grow_stream.mk B 40 (cpy (r + 1) [(A : Int), (C : Int)] (3 + k)) 4096 1) := by
      unfold grow_stream_end
      have w1 : IntKind.i64.wrap (8 * (B.length : Int)) = 40 := by rw [hlen]; rfl
      exact bnd (congrArg some w1) (bnd (x := 2) rfl (cnd_f rfl (bnd hp rfl)))
    have hr1 : grow_read_sh B 4096 = some (some (T_grow_stream.mk B 40 (cpy (r + 1) [(A : Int), (C : Int)] (3 + k)) 4096 1), 0) := by
      unfold grow_read_sh
      refine bndL (s := false) (cnd_f rfl rfl) (cnd_f rfl (cnd_f (decide_eq_false (by omega)) ?_))
      rw [hfu]
      exact bndL (s := (B, 38, cpy (r + 1) [(A : Int), (C : Int)] (3 + k), 4096, 1)) ((loop_next (s' := (B, 38, cpy (r + 1) [(A : Int), (C : Int)] (3 + k), 4096, 1, true)) (cnd_t rfl (bnd hb (cnd_f rfl (bnd (x := 1) rfl rfl))))).trans (loop_exit (cnd_f rfl rfl))) (bnd he rfl)
    exact bnd hr1 rfl
theorem cpy_len (d : Nat) : ∀ (b : List Int) (k : Nat), (cpy d b k).length = b.length + k
  | b, 0 => rfl
  | b, k + 1 => by
    unfold cpy
    rw [cpy_len d _ k]
    simp; omega
theorem growFar_true (a c dist n : Int) : wherrylaw07_GrowFar a c dist n = some true := by
  unfold wherrylaw07_GrowFar
  obtain ⟨X, r, hX, hr, hr2, hr3⟩ := mod07 dist 4 (by omega) (by omega)
  obtain ⟨Y, k, hY, hk, hk2, hk3⟩ := mod07 n 8 (by omega) (by omega)
  obtain ⟨A, hA, hA2⟩ := and127 a
  obtain ⟨C, hC, hC2⟩ := and127 c
  have w1 : IntKind.i64.wrap (1 + (r : Int)) = ((r + 1 : Nat) : Int) := by rw [wrap_i64 (by omega) (by omega)]; omega
  have w2 : IntKind.i64.wrap (3 + (k : Int)) = ((3 + k : Nat) : Int) := by rw [wrap_i64 (by omega) (by omega)]; omega
  obtain ⟨r1, u1, v1, b1⟩ := turn_eq (48 + A) 8 (by omega) (by omega)
  obtain ⟨r2, u2, v2, b2⟩ := turn_eq (48 + C) 8 (by omega) (by omega)
  obtain ⟨l1, u3, v3, b3⟩ := turn_eq (k + 1) 7 (by omega) (by omega)
  obtain ⟨d1, u4, v4, b4⟩ := turn_eq r 5 (by omega) (by omega)
  have wA : IntKind.i64.wrap (48 + (A : Int)) = ((48 + A : Nat) : Int) := by rw [wrap_i64 (by omega) (by omega)]; omega
  have wC : IntKind.i64.wrap (48 + (C : Int)) = ((48 + C : Nat) : Int) := by rw [wrap_i64 (by omega) (by omega)]; omega
  have w3 : IntKind.i64.wrap (((3 + k : Nat) : Int) - 3) = (k : Int) := by rw [wrap_i64 (by omega) (by omega)]; omega
  have w4 : IntKind.i64.wrap ((k : Int) + 1) = ((k + 1 : Nat) : Int) := wrapS (by omega)
  have w5 : IntKind.i64.wrap (((r + 1 : Nat) : Int) - 1) = (r : Int) := by rw [wrap_i64 (by omega) (by omega)]; omega
  obtain ⟨fu, hfu⟩ : ∃ fu, BIG = fu + 3 := ⟨BIG - 3, by simp only [BIG]⟩
  obtain ⟨B, p1, p2, _, p4⟩ := pts (List.map prm [(1, 1), (1, 2), (r1, 8), (r2, 8), (l1, 7), (d1, 5), (0, 7)]) (by simp) [(1, 1), (1, 2), (r1, 8), (r2, 8), (l1, 7), (d1, 5), (0, 7)] 0 BIG 0 [] rfl (by simp only [List.length_cons, List.length_nil, BIG]; omega) (fun p hp => by
    simp only [List.mem_cons, List.not_mem_nil, or_false] at hp
    rcases hp with rfl | rfl | rfl | rfl | rfl | rfl | rfl
    · exact ⟨by decide, by decide⟩
    · exact ⟨by decide, by decide⟩
    · exact ⟨(show (8 : Nat) ≤ 24 from by omega), v1⟩
    · exact ⟨(show (8 : Nat) ≤ 24 from by omega), v2⟩
    · exact ⟨(show (7 : Nat) ≤ 24 from by omega), v3⟩
    · exact ⟨(show (5 : Nat) ≤ 24 from by omega), v4⟩
    · exact ⟨by decide, by decide⟩) (by simp only [List.length_cons, List.length_nil]; omega) ⟨by simp, fun n hn => by simp at hn, fun q _ => by simp [bitC]⟩
  have hs := str_of hA2 hC2 hk2 hr2 p2 p4 b1 b2 b3 b4
  have hg := grow_eq hA2 hC2 hk2 hr2 hs
  have w0 : wid [(1, 1), (1, 2), (r1, 8), (r2, 8), (l1, 7), (d1, 5), (0, 7)] = 38 := rfl
  refine bnd (congrArg some hX) (bnd hr (bnd (congrArg some hr3) (bnd (congrArg some w1) (bnd (congrArg some hY) (bnd hk (bnd (congrArg some hk3) (bnd (congrArg some w2) (bnd (congrArg some hA) (bnd (congrArg some hC) (bndL (s := [T_pair.mk 1 1, T_pair.mk 1 2, T_pair.mk (r1 : Int) 8, T_pair.mk (r2 : Int) 8]) ?_ ?_))))))))))
  · rw [hfu]
    have q1 : appO 16 [T_pair.mk 1 1, T_pair.mk 1 2] [T_pair.mk (r1 : Int) 8] = some [T_pair.mk 1 1, T_pair.mk 1 2, T_pair.mk (r1 : Int) 8] := app1 (by omega) (by simp)
    have q2 : appO 16 [T_pair.mk 1 1, T_pair.mk 1 2, T_pair.mk (r1 : Int) 8] [T_pair.mk (r2 : Int) 8] = some [T_pair.mk 1 1, T_pair.mk 1 2, T_pair.mk (r1 : Int) 8, T_pair.mk (r2 : Int) 8] := app1 (by omega) (by simp)
    have i1 : some (IntKind.i64.wrap (0 + 1)) = some (1 : Int) := by decide
    have i2 : some (IntKind.i64.wrap (1 + 1)) = some (2 : Int) := by decide
    have x1 : ixO 0 [(A : Int), (C : Int)].length = some 0 := rfl
    have x2 : ixO 1 [(A : Int), (C : Int)].length = some 1 := rfl
    have y1 : getO [(A : Int), (C : Int)] 0 = some (A : Int) := rfl
    have y2 : getO [(A : Int), (C : Int)] 1 = some (C : Int) := rfl
    refine (loop_next (s' := ([T_pair.mk 1 1, T_pair.mk 1 2, T_pair.mk (r1 : Int) 8], 1)) ?_).trans ((loop_next (s' := ([T_pair.mk 1 1, T_pair.mk 1 2, T_pair.mk (r1 : Int) 8, T_pair.mk (r2 : Int) 8], 2)) ?_).trans (loop_exit ?_))
    · exact cnd_t rfl (bnd x1 (bnd y1 (bnd (congrArg some (wrapN A (by omega))) (bnd (congrArg some wA) (bnd u1 (bnd q1 (bnd i1 rfl)))))))
    · exact cnd_t rfl (bnd x2 (bnd y2 (bnd (congrArg some (wrapN C (by omega))) (bnd (congrArg some wC) (bnd u2 (bnd q2 (bnd i2 rfl)))))))
    · exact cnd_f rfl rfl
  · have q3 : appO 16 [T_pair.mk 1 1, T_pair.mk 1 2, T_pair.mk (r1 : Int) 8, T_pair.mk (r2 : Int) 8] [T_pair.mk (l1 : Int) 7, T_pair.mk (d1 : Int) 5, T_pair.mk 0 7] = some (List.map prm [(1, 1), (1, 2), (r1, 8), (r2, 8), (l1, 7), (d1, 5), (0, 7)]) := app1 (by omega) (by simp)
    refine bnd (congrArg some w3) (bnd (congrArg some w4) (bnd u3 (bnd (congrArg some w5) (bnd u4 (bnd q3 (bndL (s := (B, 38)) p1 (bnd hg ?_)))))))
    by_cases hd : 2 < r + 1
    · rw [if_pos hd]
      exact cnd_t (decide_eq_true (by omega)) (bndL (s := true) (cnd_t rfl (cnd_t rfl (bnd wakes07 rfl))) rfl)
    · rw [if_neg hd]
      have hcl := cpy_len (r + 1) [(A : Int), (C : Int)] (3 + k)
      have hw := waS_loop (d := r + 1) (n := 3 + k) (by omega) (by omega) (3 + k) 0 BIG [(A : Int), (C : Int)] (by omega) (by simp only [BIG]; omega) (by simp; omega) (by simp; omega)
      have htw : wherrykeep_Twin [(A : Int), (C : Int)] = some [(A : Int), (C : Int)] := by
        unfold wherrykeep_Twin
        exact bnd (app1 (by omega) (by simp)) rfl
      exact cnd_f (decide_eq_false (by omega)) (bnd htw (bndL hw (bndL (s := true) (cnd_t rfl (bnd (keep_self _ (by rw [hcl]; simp; omega)) (cnd_t rfl (bnd wakes07 rfl)))) rfl)))
end Go.Abs.Sh
