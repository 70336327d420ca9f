import Derived.Test.YtkgfjkfccpjcgaaDoorKeepM
import Derived.Test.YtkgfjkfccpjcgaaDoorLoopM
namespace Go.Abs.Sh
set_option linter.unusedVariables false
set_option linter.unusedSimpArgs false
/-! How far two places of a text are alike. -/
def pre : List Int → List Int → Nat
 | x :: xs,y :: ys => if x = y then pre xs ys + 1 else 0
 | _,_ => 0
theorem pre_le : ∀ a c : List Int,pre a c ≤ a.length ∧ pre a c ≤ c.length
 | [],_ => by simp [pre]
 | _ :: _,[] => by simp [pre]
 | x :: xs,y :: ys => by
  have := pre_le xs ys
  unfold pre
  split <;> simp <;> omega
theorem pre_get : ∀ (a c : List Int) (k : Nat),k < pre a c → a[k]? = c[k]?
 | [],_,k,h => by simp [pre] at h
 | _ :: _,[],k,h => by simp [pre] at h
 | x :: xs,y :: ys,k,h => by
  unfold pre at h
  split at h
  ·rename_i e
   subst e
   cases k with
   | zero => rfl
   | succ k => simpa using pre_get xs ys k (by omega)
  ·omega
theorem pre_ge : ∀ (a c : List Int) (k : Nat),k ≤ a.length → k ≤ c.length → (∀ j,j < k → a[j]? = c[j]?) → k ≤ pre a c
 | [],_,k,h,_,_ => by simp at h; omega
 | _ :: _,[],k,_,h,_ => by simp at h; omega
 | x :: xs,y :: ys,k,h1,h2,h => by
  cases k with
  | zero => omega
  | succ k =>
   have h0 := h 0 (by omega)
   simp only [List.getElem?_cons_zero,Option.some.injEq] at h0
   have := pre_ge xs ys k (by simpa using h1) (by simpa using h2) fun j hj => by simpa using h (j + 1) (by omega)
   unfold pre
   rw [if_pos h0]
   omega
theorem pre_stop : ∀ (a c : List Int),pre a c < a.length → pre a c < c.length → a[pre a c]? ≠ c[pre a c]?
 | [],_,h,_ => by simp at h
 | _ :: _,[],_,h => by simp at h
 | x :: xs,y :: ys,h1,h2 => by
  unfold pre at h1 h2 ⊢
  split
  ·rename_i e
   rw [if_pos e] at h1 h2
   simpa using pre_stop xs ys (by simpa using h1) (by simpa using h2)
  ·rename_i e
   simpa using e
def cmL (b : List Int) (p at_ : Nat) : Nat := min 258 (pre (b.drop p) (b.drop at_))
theorem cm_le (b : List Int) {p at_ : Nat} : cmL b p at_ ≤ 258 ∧ cmL b p at_ ≤ b.length - at_ := by
 have := (pre_le (b.drop p) (b.drop at_)).2
 rw [List.length_drop] at this
 unfold cmL
 omega
theorem cm_get {b : List Int} {p at_ k : Nat} (h : k < cmL b p at_) : b[p + k]? = b[at_ + k]? := by
 have := pre_get (b.drop p) (b.drop at_) k (by unfold cmL at h; omega)
 simpa using this
theorem cm_ge {b : List Int} {p at_ k : Nat} (h : k ≤ 258) (hp : p ≤ at_) (hk : at_ + k ≤ b.length) (hj : ∀ j,j < k → b[p + j]? = b[at_ + j]?) : k ≤ cmL b p at_ := by
 have := pre_ge (b.drop p) (b.drop at_) k (by rw [List.length_drop]; omega) (by rw [List.length_drop]; omega) fun j hj2 => by simpa using hj j hj2
 unfold cmL
 omega
theorem cm_stop {b : List Int} {p at_ : Nat} (hp : p ≤ at_) (h : cmL b p at_ < 258) (h2 : at_ + cmL b p at_ < b.length) : b[p + cmL b p at_]? ≠ b[at_ + cmL b p at_]? := by
 have hl := (pre_le (b.drop p) (b.drop at_)).1
 have e : cmL b p at_ = pre (b.drop p) (b.drop at_) := by unfold cmL at h ⊢; omega
 rw [e] at h2 ⊢
 have := pre_stop (b.drop p) (b.drop at_) (by rw [List.length_drop]; omega) (by rw [List.length_drop]; omega)
 simpa using this
def key (b : List Int) (p : Nat) : List Int := (b.drop p).take 3
theorem key_len (b : List Int) (p : Nat) : (key b p).length = min 3 (b.length - p) := by unfold key; simp
theorem key_get (b : List Int) (p j : Nat) (h : j < 3) : (key b p)[j]? = b[p + j]? := by
 unfold key
 rw [List.getElem?_take,if_pos h,List.getElem?_drop]
theorem cm_key {b : List Int} {p at_ : Nat} (hp : p ≤ at_) (h3 : at_ + 3 ≤ b.length) : key b p = key b at_ ↔ 3 ≤ cmL b p at_ := by
 constructor
 ·intro h
  refine cm_ge (by omega) hp h3 fun j hj => ?_
  rw [← key_get b p j hj,← key_get b at_ j hj,h]
 ·intro h
  apply List.ext_getElem?
  intro j
  by_cases hj : j < 3
  ·rw [key_get b p j hj,key_get b at_ j hj]
   exact cm_get (by omega)
  ·rw [List.getElem?_eq_none (by rw [key_len]; omega),List.getElem?_eq_none (by rw [key_len]; omega)]
/-! The best piece. -/
def upd1 (s : Nat × Nat) (o m : Nat) : Nat × Nat := if s.1 < m then (m,o) else s
def bestN (b : List Int) (at_ : Nat) : Nat → Nat × Nat
 | 0 => (0,0)
 | k + 1 => upd1 (bestN b at_ k) (k + 1) (cmL b (at_ - (k + 1)) at_)
def clp (s : Nat × Nat) : Nat × Nat := if s.1 < 3 then (0,0) else s
def bestS (b : List Int) (at_ : Nat) : Nat × Nat := clp (bestN b at_ (min at_ 2048))
theorem bestN_le (b : List Int) (at_ : Nat) : ∀ k,(bestN b at_ k).1 ≤ 258 ∧ (bestN b at_ k).1 ≤ b.length - at_ ∧ (bestN b at_ k).2 ≤ k
 | 0 => by simp [bestN]
 | k + 1 => by
  have h := bestN_le b at_ k
  have h2 := cm_le b (p := at_ - (k + 1)) (at_ := at_)
  unfold bestN upd1
  split
  ·exact ⟨h2.1,h2.2,Nat.le_refl _⟩
  ·exact ⟨h.1,h.2.1,by omega⟩
theorem bestN_ge (b : List Int) (at_ : Nat) : ∀ k o,1 ≤ o → o ≤ k → cmL b (at_ - o) at_ ≤ (bestN b at_ k).1
 | 0,o,h1,h2 => by omega
 | k + 1,o,h1,h2 => by
  unfold bestN upd1
  by_cases e : o = k + 1
  ·subst e
   split
   ·exact Nat.le_refl _
   ·omega
  ·have := bestN_ge b at_ k o h1 (by omega)
   split
   ·show _ ≤ cmL b (at_ - (k + 1)) at_
    omega
   ·exact this
theorem bestN_is (b : List Int) (at_ : Nat) : ∀ k,(bestN b at_ k = (0,0)) ∨ (1 ≤ (bestN b at_ k).2 ∧ (bestN b at_ k).1 = cmL b (at_ - (bestN b at_ k).2) at_ ∧ ∀ o,1 ≤ o → o < (bestN b at_ k).2 → cmL b (at_ - o) at_ < (bestN b at_ k).1)
 | 0 => .inl rfl
 | k + 1 => by
  have h := bestN_is b at_ k
  have hg := bestN_ge b at_ k
  unfold bestN upd1
  split
  ·rename_i hlt
   refine .inr ⟨by simp,rfl,fun o h1 h2 => ?_⟩
   have := hg o h1 (by simp at h2; omega)
   simp only
   omega
  ·exact h
theorem clp_low {s : Nat × Nat} {o m : Nat} (h : m < 3) : clp (upd1 s o m) = clp s := by
 unfold clp upd1
 by_cases h1 : s.1 < m
 ·rw [if_pos h1,if_pos h,if_pos (by omega)]
 ·rw [if_neg h1]
theorem clp_high {s : Nat × Nat} {o m : Nat} (h : 3 ≤ m) : clp (upd1 s o m) = if (clp s).1 < m then (m,o) else clp s := by
 unfold clp upd1
 by_cases h1 : s.1 < m
 ·rw [if_pos h1,if_neg (by omega)]
  by_cases h3 : s.1 < 3
  ·rw [if_pos h3,if_pos (by show 0 < m; omega)]
  ·rw [if_neg h3,if_pos h1]
 ·rw [if_neg h1,if_neg (by omega),if_neg (by omega)]
theorem best_skip {b : List Int} {at_ : Nat} : ∀ (d k : Nat),(∀ o,k < o → o ≤ k + d → cmL b (at_ - o) at_ < 3) → clp (bestN b at_ (k + d)) = clp (bestN b at_ k)
 | 0,k,_ => rfl
 | d + 1,k,h => by
  show clp (upd1 (bestN b at_ (k + d)) (k + d + 1) (cmL b (at_ - (k + d + 1)) at_)) = _
  rw [clp_low (h (k + d + 1) (by omega) (by omega))]
  exact best_skip d k fun o h1 h2 => h o h1 (by omega)
theorem best_full {b : List Int} {at_ : Nat} : ∀ (d k : Nat),(bestN b at_ k).1 = 258 → bestN b at_ (k + d) = bestN b at_ k
 | 0,k,_ => rfl
 | d + 1,k,h => by
  have e := best_full d k h
  show upd1 (bestN b at_ (k + d)) (k + d + 1) (cmL b (at_ - (k + d + 1)) at_) = _
  unfold upd1
  have := (cm_le b (p := at_ - (k + d + 1)) (at_ := at_)).1
  rw [e,if_neg (by omega)]
end Go.Abs.Sh
