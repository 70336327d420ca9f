import Derived.Test.YtkgfjkfccpjcgaaDoorShkE
import Derived.KernelRfl
namespace Go.Abs.Sh
set_option linter.unusedVariables false
set_option linter.unusedSimpArgs false
set_option maxRecDepth 1000000
theorem wakes6 : wherrylaw06_wakes = some true := by kernel_rfl
theorem inlB {A : Type} {a b : Bool} (h : a = b) : (some (.inl a) : Option (Bool ⊕ A)) = some (.inl b) := by rw [h]
def fxP (l : List T_Tok) : List (Nat × Nat) := [(1, 1), (1, 2)] ++ (tksP mL mD l ++ [syP mL 256])
def stQ (b : List Int) : List (Nat × Nat) := [(1, 1), (0, 2), (0, 5), (b.length, 16), (65535 - b.length, 16)] ++ stP b
theorem stored_is {b : List Int} (hb : ∀ n ∈ b, 0 ≤ n ∧ n < 256) (hl : b.length ≤ 4096) : ∃ w, shrink_Stored b = some (w.b, 0) ∧ shrink_storedBlock b = some (some w) ∧ WP w (stQ b) := by
  obtain ⟨w, p, q⟩ := storedBlock_eq hb (by omega)
  refine ⟨w, ?_, p, q⟩
  unfold shrink_Stored
  exact cnd_f (decide_eq_false (by omega)) (bnd p rfl)
theorem tl_5000 {b : List Int} (hl : b.length ≤ 4096) : (toksS b).length ≤ 5000 := by
  have := toksS_len b
  omega
theorem fixed_is {b : List Int} (hb : ∀ n ∈ b, 0 ≤ n ∧ n < 256) (hl : b.length ≤ 4096) : ∃ w, shrink_Fixed b = some (w.b, 0) ∧ shrink_fixedBlock (toksS b) = some (some w) ∧ WP w (fxP (toksS b)) := by
  obtain ⟨w, p, q⟩ := fixedBlock_eq (tl_5000 hl) (toksS_ok hb)
  refine ⟨w, ?_, p, q⟩
  unfold shrink_Fixed
  exact bnd (tokens_eq hb hl) (cnd_f rfl (bnd p rfl))
theorem check_toks {b : List Int} (hl : b.length ≤ 4096) : match_Check (toksS b) = some 0 := by
  have := toksS_len b
  rw [check_eq (by omega)]
  unfold ckE
  rw [chk_toksS b]
  show some (if 4096 < b.length then (2 : Int) else 0) = some 0
  rw [if_neg (by omega)]
theorem dynamic_is {b : List Int} (hb : ∀ n ∈ b, 0 ≤ n ∧ n < 256) (hl : b.length ≤ 4096) : ∃ w, shrink_Dynamic b = some (w.b, 0) ∧ shrink_dynamicBlock (toksS b) = some (some w) ∧ WP w (dynP (toksS b)) := by
  obtain ⟨w, p, q⟩ := dynamicBlock_eq (tl_5000 hl) (toksS_ok hb) (check_toks hl)
  refine ⟨w, ?_, p, q⟩
  unfold shrink_Dynamic
  exact bnd (tokens_eq hb hl) (cnd_f rfl (bnd p rfl))
theorem wid_stQ (b : List Int) : wid (stQ b) = 40 + 8 * b.length := by
  unfold stQ
  rw [wid_app, wid_st]; rfl
/-! Bytes by their bits. -/
theorem byte_of {B : List Int} (h : isB B) {k v : Nat} (hk : k < B.length) (hv : v < 256) (hb : ∀ t, t < 8 → bitC B (8 * k + t) = v.testBit t) : B[k] = (v : Int) := by
  have h1 := h _ (List.getElem_mem hk)
  have e : B[k].toNat = v := by
    refine Nat.eq_of_testBit_eq fun i => ?_
    by_cases hi : i < 8
    · have := hb i hi
      unfold bitC at this
      rw [show (8 * k + i) / 8 = k by omega, show (8 * k + i) % 8 = i by omega, List.getD_eq_getElem?_getD, List.getElem?_eq_getElem hk, Option.getD_some] at this
      exact this
    · have h8 : (2 : Nat) ^ 8 ≤ 2 ^ i := Nat.pow_le_pow_right (by omega) (by omega)
      have e8 : (2 : Nat) ^ 8 = 256 := by decide
      rw [Nat.testBit_lt_two_pow (by omega), Nat.testBit_lt_two_pow (by omega)]
  omega
theorem Sp_at {a : List (Nat × Nat)} {p : Nat × Nat} {c : List (Nat × Nat)} {N : Nat} {B : List Int} (h : Sp (a ++ p :: c) N B) : ∀ t, t < p.2 → bitC B (N + wid a + t) = p.1.testBit t := by
  have := ((Sp_app a (p :: c) N B).1 h).2
  exact this.1
theorem xor255 : (List.range 256).all (fun x => decide (bits .xor .u8 255 (x : Int) = ((255 - x : Nat) : Int))) = true := by kernel_rfl
theorem and255 : (List.range 1201).all (fun x => decide (bits .and .i64 (x : Int) 255 = ((x % 256 : Nat) : Int))) = true := by kernel_rfl
theorem and7 : (List.range 256).all (fun x => decide (bits .and .u8 (x : Int) 7 = ((x % 8 : Nat) : Int))) = true := by kernel_rfl
theorem low3 : (List.range 256).all (fun x => decide (x % 8 = (if x.testBit 0 then 1 else 0) + (if x.testBit 1 then 2 else 0) + (if x.testBit 2 then 4 else 0))) = true := by kernel_rfl
theorem all_get {p : Nat → Bool} {n k : Nat} (h : (List.range n).all p = true) (hk : k < n) : p k = true := List.all_eq_true.1 h k (List.mem_range.2 hk)
theorem kind_byte {w : T_shrink_writer} {k : Nat} {ps : List (Nat × Nat)} (h : WP w ([(1, 1), (k, 2)] ++ ps)) (hk : k < 4) : ∃ x : Nat, ∃ h0 : 0 < w.b.length, w.b[0] = (x : Int) ∧ x < 256 ∧ x % 8 = 1 + 2 * k := by
  have hl := h.good.len
  have hw : wid ([(1, 1), (k, 2)] ++ ps) = 3 + wid ps := by rw [wid_app]; rfl
  have h0 : 0 < w.b.length := by omega
  have hx := h.good.bytes _ (List.getElem_mem h0)
  have b0 := h.sp.1 0 (by omega)
  have b1 := h.sp.2.1 0 (by omega)
  have b2 := h.sp.2.1 1 (by omega)
  have hg : w.b.getD 0 0 = w.b[0] := by rw [List.getD_eq_getElem?_getD, List.getElem?_eq_getElem h0, Option.getD_some]
  have e0 : w.b[0].toNat.testBit 0 = (1 : Nat).testBit 0 := by rw [← hg]; exact b0
  have e1 : w.b[0].toNat.testBit 1 = k.testBit 0 := by rw [← hg]; exact b1
  have e2 : w.b[0].toNat.testBit 2 = k.testBit 1 := by rw [← hg]; exact b2
  refine ⟨w.b[0].toNat, h0, by omega, by omega, ?_⟩
  have := of_decide_eq_true (all_get low3 (k := w.b[0].toNat) (by omega))
  rw [this, e0, e1, e2]
  have h4 : k = 0 ∨ k = 1 ∨ k = 2 ∨ k = 3 := by omega
  rcases h4 with rfl | rfl | rfl | rfl <;> rfl
theorem stored_bytes {b : List Int} (hb : ∀ n ∈ b, 0 ≤ n ∧ n < 256) (hl : b.length ≤ 4096) {w : T_shrink_writer} (h : WP w (stQ b)) :
    w.b = (1 : Int) :: ((b.length % 256 : Nat) : Int) :: ((b.length / 256 : Nat) : Int) :: (((65535 - b.length) % 256 : Nat) : Int) :: (((65535 - b.length) / 256 : Nat) : Int) :: b := by
  have hlen := h.good.len
  rw [wid_stQ] at hlen
  have hL : w.b.length = 5 + b.length := by omega
  have hs := h.sp
  have sp1 : ∀ t, t < 16 → bitC w.b (8 + t) = b.length.testBit t := fun t ht => Sp_at (a := [(1, 1), (0, 2), (0, 5)]) (N := 0) hs t ht
  have sp2 : ∀ t, t < 16 → bitC w.b (24 + t) = (65535 - b.length).testBit t := fun t ht => Sp_at (a := [(1, 1), (0, 2), (0, 5), (b.length, 16)]) (N := 0) hs t ht
  have z0 : w.b[0]'(by omega) = ((1 : Nat) : Int) := byte_of h.good.bytes (by omega) (by omega) fun t ht => by
    have c : t = 0 ∨ (1 ≤ t ∧ t < 3) ∨ (3 ≤ t ∧ t < 8) := by omega
    rcases c with rfl | ⟨c1, c2⟩ | ⟨c1, c2⟩
    · exact hs.1 0 (by omega)
    · have := hs.2.1 (t - 1) (by show t - 1 < 2; omega)
      rw [show 0 + 1 + (t - 1) = 8 * 0 + t by omega] at this
      rw [this, Nat.zero_testBit]
      have c : t = 1 ∨ t = 2 := by omega
      rcases c with rfl | rfl <;> rfl
    · have := hs.2.2.1 (t - 3) (by show t - 3 < 5; omega)
      rw [show 0 + 1 + 2 + (t - 3) = 8 * 0 + t by omega] at this
      rw [this, Nat.zero_testBit]
      have c : t = 3 ∨ t = 4 ∨ t = 5 ∨ t = 6 ∨ t = 7 := by omega
      rcases c with rfl | rfl | rfl | rfl | rfl <;> rfl
  have lo : ∀ (v k : Nat), v < 65536 → k + 2 ≤ w.b.length → (∀ t, t < 16 → bitC w.b (8 * k + t) = v.testBit t) → w.b[k]? = some ((v % 256 : Nat) : Int) ∧ w.b[k + 1]? = some ((v / 256 : Nat) : Int) := fun v k hv hk hbt => by
    refine ⟨?_, ?_⟩
    · rw [List.getElem?_eq_getElem (show k < w.b.length by omega)]
      congr 1
      exact byte_of h.good.bytes (by omega) (Nat.mod_lt _ (by omega)) fun t ht => by
        rw [hbt t (by omega), show (256 : Nat) = 2 ^ 8 from rfl, Nat.testBit_mod_two_pow, decide_eq_true ht, Bool.true_and]
    · rw [List.getElem?_eq_getElem (show k + 1 < w.b.length by omega)]
      congr 1
      exact byte_of h.good.bytes (by omega) (by omega) fun t ht => by
        rw [show 8 * (k + 1) + t = 8 * k + (8 + t) by omega, hbt (8 + t) (by omega), show (256 : Nat) = 2 ^ 8 from rfl, Nat.testBit_div_two_pow]
        congr 1; omega
  obtain ⟨y1, y2⟩ := lo b.length 1 (by omega) (by omega) fun t ht => sp1 t ht
  obtain ⟨y3, y4⟩ := lo (65535 - b.length) 3 (by omega) (by omega) fun t ht => sp2 t ht
  have rest : ∀ i (hi : i < b.length), w.b[5 + i]'(by omega) = b[i] := fun i hi => by
    have hx := hb _ (List.getElem_mem hi)
    have hd : stQ b = ([(1, 1), (0, 2), (0, 5), (b.length, 16), (65535 - b.length, 16)] ++ stP (b.take i)) ++ (b[i].toNat, 8) :: stP (b.drop (i + 1)) := by
      unfold stQ
      rw [List.append_assoc]
      congr 1
      show (b.map fun x => (x.toNat, 8)) = _
      conv => lhs; rw [← List.take_append_drop i b, List.drop_eq_getElem_cons hi]
      rw [List.map_append, List.map_cons]
      rfl
    rw [hd] at hs
    have hq := Sp_at hs
    rw [wid_app, wid_st, List.length_take, Nat.min_eq_left (by omega)] at hq
    have := byte_of (v := b[i].toNat) h.good.bytes (show 5 + i < w.b.length by omega) (by omega) fun t ht => by
      rw [← hq t ht]
      congr 1
      show 8 * (5 + i) + t = 0 + (40 + 8 * i) + t
      omega
    omega
  apply List.ext_getElem?
  intro k
  match k with
  | 0 => rw [List.getElem?_eq_getElem (by omega), z0]; rfl
  | 1 => exact y1
  | 2 => exact y2
  | 3 => exact y3
  | 4 => exact y4
  | k + 5 =>
    simp only [List.getElem?_cons_succ]
    by_cases hk : k < b.length
    · rw [List.getElem?_eq_getElem (by omega), List.getElem?_eq_getElem hk]
      have := rest k hk
      simp only [Nat.add_comm 5 k] at this
      rw [this]
    · rw [List.getElem?_eq_none (by omega), List.getElem?_eq_none (by omega)]
theorem shrinkKinds_true (b : List Int) (hw : wfL (wfI .u8) b) : wherrylaw06_ShrinkKinds b = some true := by
  have hb := bys hw
  unfold wherrylaw06_ShrinkKinds
  by_cases h12 : 1200 < b.length
  · exact cnd_t (decide_eq_true (by omega)) rfl
  obtain ⟨s, s1, _, s3⟩ := stored_is hb (by omega)
  obtain ⟨f, f1, _, f3⟩ := fixed_is hb (by omega)
  obtain ⟨d, d1, _, d3⟩ := dynamic_is hb (by omega)
  have hs := stored_bytes hb (by omega) s3
  obtain ⟨x, x0, x1, x2, x3⟩ := kind_byte f3 (by omega)
  obtain ⟨y, y0, y1, y2, y3⟩ := kind_byte d3 (by omega)
  have hsl : s.b.length = 5 + b.length := by rw [hs]; simp; omega
  refine cnd_f (decide_eq_false (by omega)) (bnd s1 (bnd f1 (bnd d1 (bndL (s := false) ?_ (cnd_f rfl (bndL (s := true) ?_ rfl))))))
  · exact cnd_f rfl (cnd_f rfl (cnd_f rfl (bnd (congrArg some (wrA (b.length) 5 (by omega))) (cnd_f (bne_eq_false_iff_eq.2 (by show (s.b.length : Int) = _; omega)) (cnd_f (beq_eq_false_iff_ne.2 (by show (f.b.length : Int) ≠ 0; omega)) (inlB (beq_eq_false_iff_ne.2 (by show (d.b.length : Int) ≠ 0; omega))))))))
  · obtain ⟨n, hn⟩ : ∃ n, n = b.length := ⟨_, rfl⟩
    rw [← hn] at hs hsl h12
    have g0 : getO s.b 0 = some ((1 : Nat) : Int) := by rw [hs]; rfl
    have g1 : getO s.b 1 = some ((n % 256 : Nat) : Int) := by rw [hs]; rfl
    have g2 : getO s.b 2 = some ((n / 256 : Nat) : Int) := by rw [hs]; rfl
    have g3 : getO s.b 3 = some (((65535 - n) % 256 : Nat) : Int) := by rw [hs]; rfl
    have g4 : getO s.b 4 = some (((65535 - n) / 256 : Nat) : Int) := by rw [hs]; rfl
    have i0 : ∀ (l : List Int) (k : Nat), k < l.length → ixO (k : Int) l.length = some k := fun l k h => ixO_of h
    have gf : getO f.b 0 = some (x : Int) := by rw [getO_of x0, x1]
    have gd : getO d.b 0 = some (y : Int) := by rw [getO_of y0, y1]
    have a1 : bits .and .i64 (b.length : Int) 255 = ((n % 256 : Nat) : Int) := by rw [← hn]; exact of_decide_eq_true (all_get and255 (k := n) (by omega))
    have a2 : shrO .i64 (b.length : Int) 8 = some ((n / 256 : Nat) : Int) := by rw [← hn]; exact shr_nat .i64 n 8 (by decide)
    have a3 : bits .xor .u8 255 ((n % 256 : Nat) : Int) = ((255 - n % 256 : Nat) : Int) := of_decide_eq_true (all_get xor255 (k := n % 256) (by omega))
    have a4 : bits .xor .u8 255 ((n / 256 : Nat) : Int) = ((255 - n / 256 : Nat) : Int) := of_decide_eq_true (all_get xor255 (k := n / 256) (by omega))
    have a5 : bits .and .u8 (x : Int) 7 = ((x % 8 : Nat) : Int) := of_decide_eq_true (all_get and7 (k := x) x2)
    have a6 : bits .and .u8 (y : Int) 7 = ((y % 8 : Nat) : Int) := of_decide_eq_true (all_get and7 (k := y) y2)
    have hsl5 : sliO s.b 5 (s.b.length : Int) = some b := by
      have := sli_nat s.b (a := 5) (b := s.b.length) (by omega) (Nat.le_refl _)
      rw [show ((5 : Nat) : Int) = 5 from rfl] at this
      rw [this, List.take_of_length_le (by rw [List.length_drop]; exact Nat.le_refl _), hs]
      rfl
    refine bnd (i0 s.b 0 (by omega)) (bnd g0 (cnd_t rfl (bnd (i0 s.b 1 (by omega)) (bnd g1 (bnd (congrArg some (wrap_nat _ (by omega))) (bnd (congrArg some a1) (cnd_t (beq_self_eq_true _) ?_)))))))
    refine bnd (i0 s.b 2 (by omega)) (bnd g2 (bnd (congrArg some (wrap_nat _ (by omega))) (bnd a2 (cnd_t (beq_self_eq_true _) ?_))))
    refine bnd (i0 s.b 3 (by omega)) (bnd g3 (bnd (i0 s.b 1 (by omega)) (bnd g1 (bnd (congrArg some a3) (cnd_t (beq_iff_eq.2 (by omega)) ?_)))))
    refine bnd (i0 s.b 4 (by omega)) (bnd g4 (bnd (i0 s.b 2 (by omega)) (bnd g2 (bnd (congrArg some a4) (cnd_t (beq_iff_eq.2 (by omega)) ?_)))))
    refine bnd hsl5 (bnd (keepB (by omega)) (cnd_t rfl ?_))
    refine bnd (i0 f.b 0 x0) (bnd gf (bnd (congrArg some a5) (cnd_t (beq_iff_eq.2 (by omega)) ?_)))
    exact bnd (i0 d.b 0 y0) (bnd gd (bnd (congrArg some a6) (cnd_t (beq_iff_eq.2 (by omega)) (bnd wakes6 rfl))))
end Go.Abs.Sh
