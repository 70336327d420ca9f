import Derived.Test.YthceldoojddpiaaDoorGrqC
import Derived.KernelRfl
namespace Go.Abs.Sh
set_option linter.unusedVariables false
set_option linter.unusedSimpArgs false
set_option maxRecDepth 10000
theorem wakes07 : wherrylaw07_wakes = some true := by kernel_rfl
theorem u64_nn (n : Int) : 0 ≤ IntKind.u64.wrap n := by
  simp only [IntKind.wrap, IntKind.bits, IntKind.signed]
  have e : (2 : Int) ^ 64 = 18446744073709551616 := by decide
  simp only [e, Bool.false_and, Bool.false_eq_true, if_false]
  omega
theorem mod07 (x : Int) (n : Nat) (h : 0 < n) (hn : n < 1000000000) : ∃ (A r : Nat), IntKind.u64.wrap x = (A : Int) ∧ remO (A : Int) (n : Int) = some (r : Int) ∧ r < n ∧ IntKind.i64.wrap (r : Int) = (r : Int) := by
  obtain ⟨A, hA⟩ : ∃ A : Nat, IntKind.u64.wrap x = (A : Int) := ⟨(IntKind.u64.wrap x).toNat, by have := u64_nn x; omega⟩
  have hlt := Nat.mod_lt A h
  exact ⟨A, A % n, hA, rem_nat A n h, hlt, wrapN _ (by omega)⟩
theorem and127 (a : Int) : ∃ A : Nat, bits .and .u8 a 127 = (A : Int) ∧ A < 128 := by
  have hx : (BitVec.ofInt 8 a).toNat &&& (BitVec.ofInt 8 127).toNat < 2 ^ 7 := Nat.and_lt_two_pow _ (by decide)
  refine ⟨(BitVec.ofInt 8 a).toNat &&& (BitVec.ofInt 8 127).toNat, ?_, by omega⟩
  show IntKind.u8.wrap ((BitVec.ofInt 8 a &&& BitVec.ofInt 8 127).toNat : Int) = _
  rw [BitVec.toNat_and, wrap_u8']
  omega
theorem num_eq {B out : List Int} {p n v p' mo bl : Int} (h : bits_Get B p n = some (v, p', 0)) : grow_stream_number (T_grow_stream.mk B p out mo bl) n = some (v, 0, T_grow_stream.mk B p' out mo bl) := by
  unfold grow_stream_number
  exact bnd h (cnd_f rfl rfl)
theorem symb_eq {B out l : List Int} {p v p' mo bl : Int} (h : canon_Read l B p = some (v, p', 0)) : grow_stream_symbol (T_grow_stream.mk B p out mo bl) l = some (v, 0, T_grow_stream.mk B p' out mo bl) := by
  unfold grow_stream_symbol
  exact bnd h (cnd_f rfl rfl)
theorem app1 {A : Type} {k : Nat} {s m : List A} (hk : k ≤ 100) (h : s.length + m.length ≤ 10000) : appO k s m = some (s ++ m) := by
  unfold appO
  have : (s.length + m.length) * k ≤ 10000 * 100 := Nat.mul_le_mul h hk
  rw [if_pos (by omega)]
theorem lit_eq {B out : List Int} {P : Int} {A : Nat} (hA : A < 256) (ho : out.length ≤ 100) : grow_stream_literal (T_grow_stream.mk B P out 4096 0) (A : Int) = some (0, T_grow_stream.mk B P (out ++ [(A : Int)]) 4096 0) := by
  unfold grow_stream_literal
  have hw : IntKind.u8.wrap (A : Int) = (A : Int) := by rw [wrap_u8']; omega
  exact bnd (congrArg some (wrapS (n := out.length) (by omega))) (cnd_f (decide_eq_false (by show ¬ (4096 : Int) < _; omega)) (bnd (congrArg some hw) (bnd (app1 (by omega) (by simp only [List.length_cons, List.length_nil]; omega)) rfl)))
theorem tk_lit {B out l d : List Int} {P P' : Int} {A : Nat} (hA : A < 256) (ho : out.length ≤ 100) (h : canon_Read l B P = some ((A : Int), P', 0)) : tkS l d (B, P, out, 4096, 0) = some (.inl (B, P', out ++ [(A : Int)], 4096, 0)) := by
  unfold tkS
  exact bnd (symb_eq h) (cnd_f rfl (bndL (s := (B, P', out ++ [(A : Int)], 4096, 0, 0)) (cnd_f (beq_eq_false_iff_ne.2 (by show (A : Int) ≠ 256; omega)) (cnd_t (decide_eq_true (by show (A : Int) < 256; omega)) (bnd (lit_eq hA ho) rfl))) (cnd_f rfl rfl)))
theorem rep_eq {B out : List Int} {P : Int} {d n : Nat} (hd : 1 ≤ d) (hn : n ≤ 1000) (ho : out.length ≤ 100) : grow_stream_repeat (T_grow_stream.mk B P out 4096 0) (n : Int) (d : Int) = some (if out.length < d then (3, T_grow_stream.mk B P out 4096 0) else (0, T_grow_stream.mk B P (cpy d out n) 4096 0)) := by
  unfold grow_stream_repeat
  by_cases h : out.length < d
  · rw [if_pos h]
    exact cnd_t (decide_eq_true (by show (out.length : Int) < _; omega)) rfl
  · rw [if_neg h]
    have hw : IntKind.i64.wrap ((out.length : Int) + (n : Int)) = ((out.length + n : Nat) : Int) := by rw [wrap_i64 (by omega) (by omega)]; omega
    exact cnd_f (decide_eq_false (by show ¬ (out.length : Int) < _; omega)) (bnd (congrArg some hw) (cnd_f (decide_eq_false (by show ¬ (4096 : Int) < _; omega)) (bndL (rpS_loop hd hn n 0 BIG out (by omega) (by simp only [BIG]; omega) (by omega) (by omega)) rfl)))
theorem len_of : (List.range 8).all (fun k => decide (sym_LenOf ((257 + k : Nat) : Int) = some (((3 + k : Nat) : Int), 0, 0))) = true := by kernel_rfl
theorem dist_of : (List.range 4).all (fun k => decide (sym_DistOf ((k : Nat) : Int) = some (((k + 1 : Nat) : Int), 0, 0))) = true := by kernel_rfl
theorem all_of {p : Nat → Bool} {n k : Nat} (h : (List.range n).all p = true) (hk : k < n) : p k = true := List.all_eq_true.1 h k (List.mem_range.2 hk)
theorem match_eq {B out dl : List Int} {P k r : Nat} (hk : k < 8) (hr : r < 4) (ho : out.length ≤ 100) (g1 : bits_Get B (P : Int) 0 = some (0, (P : Int), 0)) (h : canon_Read dl B (P : Int) = some ((r : Int), ((P + 5 : Nat) : Int), 0)) (g2 : bits_Get B ((P + 5 : Nat) : Int) 0 = some (0, ((P + 5 : Nat) : Int), 0)) :
    grow_stream_match (T_grow_stream.mk B (P : Int) out 4096 0) ((257 + k : Nat) : Int) dl = some (if out.length < r + 1 then (3, T_grow_stream.mk B ((P + 5 : Nat) : Int) out 4096 0) else (0, T_grow_stream.mk B ((P + 5 : Nat) : Int) (cpy (r + 1) out (3 + k)) 4096 0)) := by
  unfold grow_stream_match
  have e1 := of_decide_eq_true (all_of len_of hk)
  have e2 := of_decide_eq_true (all_of dist_of hr)
  have w1 : IntKind.i64.wrap (((3 + k : Nat) : Int) + 0) = ((3 + k : Nat) : Int) := by rw [wrap_i64 (by omega) (by omega)]; omega
  have w2 : IntKind.i64.wrap (((r + 1 : Nat) : Int) + 0) = ((r + 1 : Nat) : Int) := by rw [wrap_i64 (by omega) (by omega)]; omega
  have hrp := rep_eq (B := B) (P := ((P + 5 : Nat) : Int)) (d := r + 1) (n := 3 + k) (by omega) (by omega) ho
  exact cnd_f (decide_eq_false (by omega)) (bnd e1 (bnd (num_eq g1) (cnd_f rfl (bnd (congrArg some w1) (bnd (symb_eq h) (cnd_f rfl (bnd e2 (cnd_f rfl (bnd (num_eq g2) (cnd_f rfl (bnd (congrArg some w2) (bnd hrp rfl))))))))))))
theorem bits_val {v n : Nat} (hn : n ≤ 2) (hv : v < 2 ^ n) {f : Nat → Bool} (h : ∀ i, i < n → v.testBit i = f i) : v = (if 0 < n ∧ f 0 = true then 1 else 0) + (if 1 < n ∧ f 1 = true then 2 else 0) := by
  have h01 : n = 0 ∨ n = 1 ∨ n = 2 := by omega
  rcases h01 with rfl | rfl | rfl
  · simp at hv; subst hv; simp
  · have h0 := h 0 (by omega)
    have : v = 0 ∨ v = 1 := by omega
    rcases this with rfl | rfl <;> simp_all
  · have h0 := h 0 (by omega)
    have h1 := h 1 (by omega)
    have : v = 0 ∨ v = 1 ∨ v = 2 ∨ v = 3 := by omega
    rcases this with rfl | rfl | rfl | rfl <;> (rw [← h0, ← h1]; decide)
end Go.Abs.Sh
