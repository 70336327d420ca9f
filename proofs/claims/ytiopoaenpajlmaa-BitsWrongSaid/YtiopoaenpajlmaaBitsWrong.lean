/-
  BitsWrong: a row with a bit behind its end, a byte too many, one too few, is none.
-/
import Derived.Test.YtiopoaenpajlmaaOwnSet
import Derived.Test.YtiopoaenpajlmaaAppS
import Derived.Test.YtiopoaenpajlmaaBitsBack
import Derived.Deep.RegionHeld3
namespace Go.Proofs.Ytiopoaenpajlmaa
open Go.RowKit Go.Deep

theorem bytes_take {w : World} {B : Nat} {A : Option Addr} {n : Nat} {l : List UInt8} (h : ByteS w B A n l) (m : Nat) (hm : m ≤ n) : ByteS w B A m (l.take m) := by
  have hl := h.len
  refine ⟨by rw [bv_length, List.length_take]; omega, fun h0 => ?_⟩
  obtain ⟨ad, e, h1, h2⟩ := h.2 (by omega)
  refine ⟨ad, e, h1, fun j u hu => h2 j u ?_⟩
  simp only [bv, List.getElem?_map, List.getElem?_take] at hu ⊢
  split at hu
  · exact hu
  · simp at hu
theorem own_type {w : World} {base : Nat} {e : TypeId} {size n : Nat} {v : Value} {xs : List Value} (h : w.ownsRow base e size v n xs) (g : Nat) (hg : v.ownBlock = some g) : ∃ cur, w.heap[g]? = some (.cells cur e (0, 0)) := by
  rcases h.2 with ⟨rfl, _⟩ | ⟨g', cap, cur, rfl, _, hh, _⟩
  · simp [Value.ownBlock] at hg
  · have : g' = g := by simpa [Value.ownBlock] using hg
    subst this
    exact ⟨cur, hh⟩
set_option maxHeartbeats 2000000 in
theorem fill_no (A : Option Addr) (n c : Nat) (l : List UInt8) (N : Int) (w : World) (h : ByteS w w.heap.size A n l) (hl : n < 140737488355328) (hr : ¬ RightBits l N) :
    Calls Try.prog 14 #[.agg #[.slice A n c, .int .i64 N]] w fun e w' => e = .returned (.tuple #[.agg #[.slice none 0 0, .int .i64 0], .int .i64 1]) ∧ Below w.heap.size w w' := by
  have hck : Hid (checkI l N = 1) := checkI_no hr
  go_enter Try.func14, Try.ntmps14
  go_wp2_with fail
  refine (check_any A n c l N _ w.heap.size ((h.alloc (Nat.le_refl _) _).alloc (by simp) _) (by simp; omega) hl).mono ?_
  rw [hck.out]
  rintro e w1 ⟨rfl, hb1⟩
  obtain ⟨hc1, hf1⟩ := bcell hb1
  have hsz1 : w.heap.size + 1 < w1.heap.size := by have := hb1.size; simp at this; omega
  have hsz0 : w.heap.size < w1.heap.size := by omega
  have hl1 : w1.cell? ⟨w.heap.size + 1, 0, none⟩ = some (.slice none 0 0) := by rw [hc1 _ _ (by simp)]; simp [go_sem]
  have hl2 : w1.cell? ⟨w.heap.size + 1, 1, none⟩ = some (.int .i64 0) := by rw [hc1 _ _ (by simp)]; simp [go_sem]
  have hl3 : w1.frozen? ⟨w.heap.size + 1, 0, none⟩ = false := by rw [hf1 _ _ (by simp)]; simp [go_sem]
  have hl4 : w1.frozen? ⟨w.heap.size + 1, 1, none⟩ = false := by rw [hf1 _ _ (by simp)]; simp [go_sem]
  go_wp2
  refine bodyPost_ret (v := .tuple #[.agg #[.slice none 0 0, .int .i64 0], .int .i64 1]) ?r1 rfl ⟨rfl, ?_⟩
  case r1 => simp [results, Try.results14, go_sem, hl1, hl2]
  exact (((((Below.refl _ _).alloc (Nat.le_refl _) _).alloc (by simp) _).trans (hb1.mono (by simp; omega))).setCell (by simp) _).setCell (by simp) _

theorem wrong_len (l : List UInt8) (N : Nat) (h : l.length ≠ (N + 7) / 8) : ¬ RightBits l (N : Int) := by
  rintro ⟨_, _, h3, _⟩; omega
theorem right_masked (l : List UInt8) (k K : Nat) (hk : l.length = k + 1) (hK : K < 8) (h2 : l.length ≤ 200) (y : UInt8) (hy : y.toNat < 2 ^ (K + 1)) : RightBits (l.set k y) ((8 * k + (K + 1) : Nat) : Int) := by
  refine ⟨by omega, by omega, by rw [List.length_set]; omega, ?_⟩
  rw [Int.toNat_natCast]
  refine (last_small (l.set k y) _ (K + 1) k (by rw [List.length_set]; exact hk) rfl (by rw [List.length_set]; omega)).mpr ?_
  simp only [List.getElem_set_self]
  exact Nat.div_eq_of_lt hy
theorem wrong_bit (l : List UInt8) (k K : Nat) (hk : l.length = k + 1) (y : UInt8) (hy : 2 ^ (K + 1) ≤ y.toNat) : ¬ RightBits (l.set k y) ((8 * k + (K + 1) : Nat) : Int) := by
  rintro ⟨_, _, _, h4⟩
  rw [Int.toNat_natCast] at h4
  have h5 := (last_small (l.set k y) _ (K + 1) k (by rw [List.length_set]; exact hk) rfl (by rw [List.length_set]; omega)).mp h4
  simp only [List.getElem_set_self] at h5
  have := Nat.div_pos hy (Nat.pow_pos (by omega))
  omega
end Go.Proofs.Ytiopoaenpajlmaa
