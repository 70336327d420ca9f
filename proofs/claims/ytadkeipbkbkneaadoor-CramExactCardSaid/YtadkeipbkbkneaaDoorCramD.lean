import Derived.Test.YtadkeipbkbkneaaDoorCramC
namespace Go.Abs.Sh
set_option linter.unusedVariables false
set_option linter.unusedSimpArgs false
set_option maxRecDepth 100000

def decR : List Nat → List Nat
  | a :: b :: c :: d :: r => decG (trimN [a, b, c, d]) ++ decR r
  | _ => []
theorem decR_app : ∀ (k : Nat) (p r : List Nat), p.length = 4 * k → decR (p ++ r) = decR p ++ decR r
  | 0, p, r, h => by
    obtain rfl := List.eq_nil_of_length_eq_zero (by omega : p.length = 0)
    rfl
  | k + 1, p, r, h => by
    match p, h with
    | a :: b :: c :: d :: q, h =>
      have := decR_app k q r (by simp only [List.length_cons] at h; omega)
      simp only [List.cons_append, decR, this, List.append_assoc]
theorem decR_one (p : List Nat) (h : p.length = 4) : decR p = decG (trimN p) := by
  match p, h with
  | [a, b, c, d], _ => simp [decR]
theorem decG_lt (c : List Nat) : ∀ x ∈ decG c, x < 256 := by
  intro x hx
  have := List.mem_of_mem_take hx
  simp only [List.mem_cons, List.not_mem_nil, or_false] at this
  rcases this with rfl | rfl | rfl <;> exact Nat.mod_lt _ (by decide)
theorem decG_len (c : List Nat) : (decG c).length ≤ 3 := by simp only [decG, List.length_take, List.length_cons, List.length_nil]; omega
theorem decR_lt : ∀ (k : Nat) (p : List Nat), p.length ≤ k → ∀ x ∈ decR p, x < 256
  | 0, p, h => by
    obtain rfl := List.eq_nil_of_length_eq_zero (by omega : p.length = 0)
    intro x hx; cases hx
  | k + 1, p, h => by
    match p, h with
    | [], _ => intro x hx; cases hx
    | [a], _ => intro x hx; cases hx
    | [a, b], _ => intro x hx; cases hx
    | [a, b, c], _ => intro x hx; cases hx
    | a :: b :: c :: d :: r, h =>
      intro x hx
      simp only [decR] at hx
      rcases List.mem_append.1 hx with h1 | h1
      · exact decG_lt _ x h1
      · exact decR_lt k r (by simp only [List.length_cons] at h; omega) x h1
theorem decR_len : ∀ (k : Nat) (p : List Nat), p.length ≤ k → (decR p).length ≤ p.length
  | 0, p, h => by
    obtain rfl := List.eq_nil_of_length_eq_zero (by omega : p.length = 0)
    exact Nat.le_refl _
  | k + 1, p, h => by
    match p, h with
    | [], _ => exact Nat.zero_le _
    | [a], _ => exact Nat.zero_le _
    | [a, b], _ => exact Nat.zero_le _
    | [a, b, c], _ => exact Nat.zero_le _
    | a :: b :: c :: d :: r, h =>
      have h1 := decR_len k r (by simp only [List.length_cons] at h; omega)
      have h2 := decG_len (trimN [a, b, c, d])
      simp only [decR, List.length_append, List.length_cons]; omega
/-- What is decoded of a text, whatever it is. -/
def decT (C : List Nat) : List Nat := decR (C.take (4 * (C.length / 4)))
theorem dec_eq (C : List Nat) (hC : ∀ x ∈ C, x < 256) (hl : C.length ≤ 90000) : cram_Decode (tx C) = some (if tx (encN (decT C)) = tx C then ((decT C).map cI, 0) else ([], 5)) := by
  obtain ⟨m, hm⟩ : ∃ m, C.length / 4 = m := ⟨_, rfl⟩
  have hDl : ∀ i, (decR (C.take (4 * i))).length ≤ C.length := fun i => by
    have := decR_len _ (C.take (4 * i)) (Nat.le_refl _)
    rw [List.length_take] at this; omega
  unfold cram_Decode
  refine bndL (s := (decT C).map cI) (loop_from (fun i => ((decR (C.take (4 * i))).map cI, ((4 * i : Nat) : Int))) m _ (by simp [decR]) (by simp only [BIG]; omega) (fun i hi => ?_) ?_) ?_
  · refine bnd (some_wrap (by omega) (by omega)) ?_
    refine cnd_t (decide_eq_true (by rw [tx_size]; omega)) ?_
    refine bnd (some_wrap (by omega) (by omega)) ?_
    have e1 : ((4 * i : Nat) : Int) + 4 = ((4 * i + 4 : Nat) : Int) := by omega
    rw [e1]
    have hsub := tx_sub hC (a := 4 * i) (b := 4 * i + 4) (by omega) (by omega)
    rw [show 4 * i + 4 - 4 * i = 4 by omega] at hsub
    refine bnd hsub ?_
    obtain ⟨p, hp⟩ : ∃ p, (C.drop (4 * i)).take 4 = p := ⟨_, rfl⟩
    have hpl : p.length = 4 := by rw [← hp, List.length_take, List.length_drop]; omega
    have hpb : ∀ x ∈ p, x < 256 := fun x hx => hC x (by rw [← hp] at hx; exact List.mem_of_mem_drop (List.mem_of_mem_take hx))
    rw [hp]
    refine bnd (trim_eq p hpb (by omega) (by omega)) (bnd (decG_eq _ (fun x hx => hpb x (trimN_mem p x hx)) (by have := trimN_len p; omega)) ?_)
    have h1 := hDl i
    have h2 := decG_len (trimN p)
    refine bnd (app1 _ _ (by simp only [List.length_map]; omega)) (bnd (some_wrap (by omega) (by omega)) ?_)
    have e : C.take (4 * (i + 1)) = C.take (4 * i) ++ p := by
      rw [← hp, show 4 * (i + 1) = 4 * i + 4 by omega, List.take_add]
    rw [e, decR_app i _ _ (by rw [List.length_take]; omega), decR_one p hpl, List.map_append]
    rfl
  · refine bnd (some_wrap (by omega) (by omega)) ?_
    refine cnd_f (decide_eq_false (by rw [tx_size]; omega)) ?_
    unfold decT; rw [hm]
  · have hb : ∀ x ∈ decT C, x < 256 := decR_lt _ _ (Nat.le_refl _)
    have hdl : (decT C).length ≤ C.length := hDl _
    refine bnd (enc_step (decT C) hb (by omega)) ?_
    rw [toList_beq]
    by_cases h : tx (encN (decT C)) = tx C
    · rw [if_pos h]
      exact cnd_f (by simp [h]) rfl
    · rw [if_neg h]
      exact cnd_t (by simp [h]) rfl

/-! There and back. -/
theorem trim_keep (l : List Nat) (x : Nat) (h : x ≠ 61) : trimN (l ++ [x]) = l ++ [x] := by
  simp [trimN, List.dropWhile_cons, h]
theorem trim_cut (l : List Nat) : trimN (l ++ [61]) = trimN l := by
  simp [trimN, List.dropWhile_cons]
theorem dec_grp (p : List Nat) (hp : ∀ x ∈ p, x < 256) (h0 : 0 < p.length) (h3 : p.length ≤ 3) : decG (trimN (grp p)) = p := by
  have hm : ∀ n : Nat, n % 64 < 64 := fun n => Nat.mod_lt _ (by decide)
  match p, h0, h3 with
  | [a], _, _ =>
    have ha := hp a (by simp)
    have e : grp [a] = ([sg (gv [a] / 262144 % 64), sg (gv [a] / 4096 % 64)] ++ [61]) ++ [61] := rfl
    have e2 : [sg (gv [a] / 262144 % 64), sg (gv [a] / 4096 % 64)] = [sg (gv [a] / 262144 % 64)] ++ [sg (gv [a] / 4096 % 64)] := rfl
    rw [e, trim_cut, trim_cut, e2, trim_keep _ _ (sg_lt _ (hm _)).2]
    have hg : gv [a] = a * 65536 := by simp [gv]
    simp only [decG, gd, iat, List.length_append, List.length_cons, List.length_nil, List.cons_append, List.nil_append, List.getD_cons_zero, List.getD_cons_succ, ix_sg _ (hm _), hg]
    simp
    omega
  | [a, b], _, _ =>
    have ha := hp a (by simp); have hb := hp b (by simp)
    have e : grp [a, b] = ([sg (gv [a, b] / 262144 % 64), sg (gv [a, b] / 4096 % 64)] ++ [sg (gv [a, b] / 64 % 64)]) ++ [61] := rfl
    rw [e, trim_cut, trim_keep _ _ (sg_lt _ (hm _)).2]
    have hg : gv [a, b] = a * 65536 + b * 256 := by simp [gv]
    simp only [decG, gd, iat, List.length_append, List.length_cons, List.length_nil, List.cons_append, List.nil_append, List.getD_cons_zero, List.getD_cons_succ, ix_sg _ (hm _), hg]
    simp
    omega
  | [a, b, c], _, _ =>
    have ha := hp a (by simp); have hb := hp b (by simp); have hc := hp c (by simp)
    have e : grp [a, b, c] = [sg (gv [a, b, c] / 262144 % 64), sg (gv [a, b, c] / 4096 % 64), sg (gv [a, b, c] / 64 % 64)] ++ [sg (gv [a, b, c] % 64)] := rfl
    rw [e, trim_keep _ _ (sg_lt _ (hm _)).2]
    have hg : gv [a, b, c] = a * 65536 + b * 256 + c := by simp [gv]
    simp only [decG, gd, iat, List.length_append, List.length_cons, List.length_nil, List.cons_append, List.nil_append, List.getD_cons_zero, List.getD_cons_succ, ix_sg _ (hm _), hg]
    simp
    omega
theorem dec_enc : ∀ (k : Nat) (B : List Nat), B.length ≤ k → (∀ x ∈ B, x < 256) → decR (encN B) = B
  | 0, B, h, _ => by
    obtain rfl := List.eq_nil_of_length_eq_zero (by omega : B.length = 0)
    rfl
  | k + 1, B, h, hB => by
    match B, h, hB with
    | [], _, _ => rfl
    | [a], _, hB => rw [show encN [a] = grp [a] from rfl, decR_one _ (grp_len _ (by simp)), dec_grp _ hB (by simp) (by simp)]
    | [a, b], _, hB => rw [show encN [a, b] = grp [a, b] from rfl, decR_one _ (grp_len _ (by simp)), dec_grp _ hB (by simp) (by simp)]
    | a :: b :: c :: r, h, hB =>
      have ih := dec_enc k r (by simp only [List.length_cons] at h; omega) (fun x hx => hB x (by simp [hx]))
      rw [show encN (a :: b :: c :: r) = grp [a, b, c] ++ encN r from by rw [encN], decR_app 1 _ _ (grp_len _ (by simp)), decR_one _ (grp_len _ (by simp)), dec_grp [a, b, c] (fun x hx => hB x (by simp at hx ⊢; omega)) (by simp) (by simp), ih]
      rfl
theorem decT_enc (B : List Nat) (hB : ∀ x ∈ B, x < 256) : decT (encN B) = B := by
  have := encN_len _ B (Nat.le_refl _)
  unfold decT
  rw [List.take_of_length_le (by omega)]
  exact dec_enc _ B (Nat.le_refl _) hB
end Go.Abs.Sh
