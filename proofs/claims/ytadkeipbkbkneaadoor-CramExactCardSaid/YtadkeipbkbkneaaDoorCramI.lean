import Derived.Test.YtadkeipbkbkneaaDoorCramH
namespace Go.Abs.Sh
set_option linter.unusedVariables false
set_option linter.unusedSimpArgs false
set_option maxRecDepth 100000

def gstep (c x n j : Nat) : Option (Nat × Nat) :=
  match rv c with
  | some v => if n = j then some (x * 64 + v, n + 1) else none
  | none => if c = 61 then some (x * 64, n) else none
def grun : List Nat → Nat → Nat → Nat → Option (Nat × Nat)
  | [], x, n, _ => some (x, n)
  | c :: r, x, n, j => (gstep c x n j).bind fun y => grun r y.1 y.2 (j + 1)
def b3 (x : Nat) : List Nat := [x / 65536 % 256, x / 256 % 256, x % 256]
theorem rv_some {c v : Nat} (h : c < 256) (hr : rv c = some v) : ixv c = v ∧ v < 64 ∧ c ≠ 61 := by
  have := (rv_ix c h).1; rw [hr] at this; exact this
theorem grun_ok (p : List Nat) (hp : ∀ x ∈ p, x < 256) (hl : p.length = 4) (x n : Nat) (h : grun p 0 0 0 = some (x, n)) : n ≤ 4 ∧ x < 16777216 ∧ decG (trimN p) = (b3 x).take (n - 1) := by
  match p, hl with
  | [a, b, c, d], _ =>
    have h256 : a < 256 ∧ b < 256 ∧ c < 256 ∧ d < 256 := ⟨hp a (by simp), hp b (by simp), hp c (by simp), hp d (by simp)⟩
    have t0 : trimN [a, b, c, d] = if d = 61 then trimN [a, b, c] else [a, b, c, d] := by
      split
      · next e => subst e; exact trim_cut [a, b, c]
      · next e => exact trim_keep [a, b, c] d e
    have t1 : trimN [a, b, c] = if c = 61 then trimN [a, b] else [a, b, c] := by
      split
      · next e => subst e; exact trim_cut [a, b]
      · next e => exact trim_keep [a, b] c e
    have t2 : trimN [a, b] = if b = 61 then trimN [a] else [a, b] := by
      split
      · next e => subst e; exact trim_cut [a]
      · next e => exact trim_keep [a] b e
    have t3 : trimN [a] = if a = 61 then [] else [a] := by
      split
      · next e => subst e; rfl
      · next e => exact trim_keep [] a e
    have none61 : ∀ (c x n j : Nat) (y : Nat × Nat), rv c = none → gstep c x n j = some y → c = 61 ∧ y = (x * 64, n) := by
      intro c x n j y hr hg
      simp only [gstep, hr] at hg
      split at hg
      · next e => exact ⟨e, (Option.some.inj hg).symm⟩
      · cases hg
    have some64 : ∀ (c x n j v : Nat) (y : Nat × Nat), rv c = some v → gstep c x n j = some y → n = j ∧ y = (x * 64 + v, n + 1) := by
      intro c x n j v y hr hg
      simp only [gstep, hr] at hg
      split at hg
      · next e => exact ⟨e, (Option.some.inj hg).symm⟩
      · cases hg
    simp only [grun] at h
    obtain ⟨y1, g1, h⟩ := bind_some h
    obtain ⟨y2, g2, h⟩ := bind_some h
    obtain ⟨y3, g3, h⟩ := bind_some h
    obtain ⟨y4, g4, h⟩ := bind_some h
    have hy : (y4.1, y4.2) = (x, n) := Option.some.inj h
    obtain ⟨rfl, rfl⟩ := Prod.mk.inj hy
    clear h hy
    cases ha : rv a with
    | none =>
      obtain ⟨ea, rfl⟩ := none61 _ _ _ _ _ ha g1
      cases hb : rv b with
      | some vb => have := (some64 _ _ _ _ _ _ hb g2).1; simp at this
      | none =>
        obtain ⟨eb, rfl⟩ := none61 _ _ _ _ _ hb g2
        cases hc : rv c with
        | some vc => have := (some64 _ _ _ _ _ _ hc g3).1; simp at this
        | none =>
          obtain ⟨ec, rfl⟩ := none61 _ _ _ _ _ hc g3
          cases hd : rv d with
          | some vd => have := (some64 _ _ _ _ _ _ hd g4).1; simp at this
          | none =>
            obtain ⟨ed, rfl⟩ := none61 _ _ _ _ _ hd g4
            refine ⟨by simp, by simp, ?_⟩
            rw [t0, if_pos ed, t1, if_pos ec, t2, if_pos eb, t3, if_pos ea]
            rfl
    | some va =>
      obtain ⟨ia, la, na⟩ := rv_some h256.1 ha
      obtain ⟨_, rfl⟩ := some64 _ _ _ _ _ _ ha g1
      cases hb : rv b with
      | none =>
        obtain ⟨eb, rfl⟩ := none61 _ _ _ _ _ hb g2
        cases hc : rv c with
        | some vc => have := (some64 _ _ _ _ _ _ hc g3).1; simp at this
        | none =>
          obtain ⟨ec, rfl⟩ := none61 _ _ _ _ _ hc g3
          cases hd : rv d with
          | some vd => have := (some64 _ _ _ _ _ _ hd g4).1; simp at this
          | none =>
            obtain ⟨ed, rfl⟩ := none61 _ _ _ _ _ hd g4
            refine ⟨by simp, by simp only; omega, ?_⟩
            rw [t0, if_pos ed, t1, if_pos ec, t2, if_pos eb, t3, if_neg na]
            rfl
      | some vb =>
        obtain ⟨ib, lb, nb⟩ := rv_some h256.2.1 hb
        obtain ⟨_, rfl⟩ := some64 _ _ _ _ _ _ hb g2
        cases hc : rv c with
        | none =>
          obtain ⟨ec, rfl⟩ := none61 _ _ _ _ _ hc g3
          cases hd : rv d with
          | some vd => have := (some64 _ _ _ _ _ _ hd g4).1; simp at this
          | none =>
            obtain ⟨ed, rfl⟩ := none61 _ _ _ _ _ hd g4
            refine ⟨by simp, by simp only; omega, ?_⟩
            rw [t0, if_pos ed, t1, if_pos ec, t2, if_neg nb]
            simp [decG, gd, iat, b3, ia, ib]
            omega
        | some vc =>
          obtain ⟨ic, lc, nc⟩ := rv_some h256.2.2.1 hc
          obtain ⟨_, rfl⟩ := some64 _ _ _ _ _ _ hc g3
          cases hd : rv d with
          | none =>
            obtain ⟨ed, rfl⟩ := none61 _ _ _ _ _ hd g4
            refine ⟨by simp, by simp only; omega, ?_⟩
            rw [t0, if_pos ed, t1, if_neg nc]
            simp [decG, gd, iat, b3, ia, ib, ic]
            omega
          | some vd =>
            obtain ⟨id, ld, nd⟩ := rv_some h256.2.2.2 hd
            obtain ⟨_, rfl⟩ := some64 _ _ _ _ _ _ hd g4
            refine ⟨by simp, by simp only; omega, ?_⟩
            rw [t0, if_neg nd]
            simp [decG, gd, iat, b3, ia, ib, ic, id]
            omega
theorem rv_sg (v : Nat) (h : v < 64) : rv (sg v) = some v := by
  have : ∀ v, v < 64 → rv (sg v) = some v := by decide +kernel
  exact this v h
theorem rv_61 : rv 61 = none := by decide +kernel
theorem grun_grp (q : List Nat) (h0 : 0 < q.length) (h3 : q.length ≤ 3) : (grun (grp q) 0 0 0).isSome = true := by
  have hm : ∀ n : Nat, rv (sg (n % 64)) = some (n % 64) := fun n => rv_sg _ (Nat.mod_lt _ (by decide))
  match q, h0, h3 with
  | [a], _, _ => simp [grp, symL, grun, gstep, hm, rv_61, List.replicate]
  | [a, b], _, _ => simp [grp, symL, grun, gstep, hm, rv_61, List.replicate]
  | [a, b, c], _, _ => simp [grp, symL, grun, gstep, hm, rv_61, List.replicate]
/-- The groups of what is encoded. -/
theorem enc_chunk (D : List Nat) (i : Nat) (hi : 3 * i < D.length) : ((encN D).drop (4 * i)).take 4 = grp ((D.drop (3 * i)).take 3) := by
  have e : encN D = encN (D.take (3 * i)) ++ encN (D.drop (3 * i)) := by
    conv => lhs; rw [← List.take_append_drop (3 * i) D]
    rw [encN_app i _ _ (by rw [List.length_take]; omega)]
  have hl : (encN (D.take (3 * i))).length = 4 * i := by rw [encN_len _ _ (Nat.le_refl _), List.length_take]; omega
  rw [e, List.drop_append_of_le_length (by omega), List.drop_of_length_le (by omega), List.nil_append]
  obtain ⟨r, hr⟩ : ∃ r, D.drop (3 * i) = r := ⟨_, rfl⟩
  have hrl : 0 < r.length := by rw [← hr, List.length_drop]; omega
  rw [hr]
  match r, hrl with
  | [a], _ => exact List.take_of_length_le (by rw [show encN [a] = grp [a] from rfl, grp_len _ (by simp)]; decide)
  | [a, b], _ => exact List.take_of_length_le (by rw [show encN [a, b] = grp [a, b] from rfl, grp_len _ (by simp)]; decide)
  | a :: b :: c :: s, _ =>
    rw [show encN (a :: b :: c :: s) = grp [a, b, c] ++ encN s from by rw [encN], List.take_append_of_le_length (by rw [grp_len _ (by simp)]; decide), List.take_of_length_le (by rw [grp_len _ (by simp)]; decide)]
    rfl
end Go.Abs.Sh
