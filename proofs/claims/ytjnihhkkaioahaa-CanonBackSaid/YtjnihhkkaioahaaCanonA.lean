import Derived.Test.YtjnihhkkaioahaaCanonN
import Derived.Test.YtjnihhkkaioahaaBitM
namespace Go.Abs.Sh
set_option linter.unusedVariables false
set_option linter.unusedSimpArgs false

theorem wakes02 : wherrylaw02_wakes = some true := by kernel_rfl
theorem wrap_u64c {n : Int} (h0 : 0 ≤ n) (h1 : n < 18446744073709551616) : IntKind.u64.wrap n = n := by
  simp only [IntKind.wrap, IntKind.bits, IntKind.signed]
  have e : (2 : Int) ^ 64 = 18446744073709551616 := by decide
  simp only [e, Bool.false_and, Bool.false_eq_true, if_false]
  omega
theorem wrap_u64c_nn (n : Int) : 0 ≤ IntKind.u64.wrap n := by
  simp only [IntKind.wrap, IntKind.bits, IntKind.signed]
  have e : (2 : Int) ^ 64 = 18446744073709551616 := by decide
  simp only [e, Bool.false_and, Bool.false_eq_true, if_false]
  omega
/-- A number within a length, made of any. -/
theorem pick_of (i : Int) (n : Nat) (h0 : 0 < n) (hn : n < 4294967296) : ∃ a k : Nat, IntKind.u64.wrap i = (a : Int) ∧ IntKind.u64.wrap (n : Int) = (n : Int) ∧ remO (a : Int) (n : Int) = some (k : Int) ∧ IntKind.i64.wrap (k : Int) = (k : Int) ∧ k < n := by
  have hk : (IntKind.u64.wrap i).toNat % n < n := Nat.mod_lt _ h0
  exact ⟨(IntKind.u64.wrap i).toNat, (IntKind.u64.wrap i).toNat % n, by have := wrap_u64c_nn i; omega, wrap_u64c (by omega) (by omega), rem_nat _ _ h0, wrap_i64 (by omega) (by omega), hk⟩

theorem getD_of {m : List Nat} {i : Nat} (h : i < m.length) : m.getD i 0 = m[i] := by simp [List.getD_eq_getElem?_getD, h]
theorem code_of {m : List Nat} {i : Nat} (h : i < m.length) (h0 : m[i] ≠ 0) : code m i = fst m m[i] + (m.take i).count m[i] := by
  rw [code, getD_of h, if_neg h0]
theorem count_take_lt {m : List Nat} {i : Nat} (h : i < m.length) : (m.take i).count m[i] + 1 ≤ m.count m[i] := by
  have h1 : m.count m[i] = (m.take i).count m[i] + (m.drop i).count m[i] := by
    rw [← List.count_append, List.take_append_drop]
  have h2 : m.drop i = m[i] :: m.drop (i + 1) := List.drop_eq_getElem_cons h
  rw [h1, h2, List.count_cons]
  simp
theorem code_lt {m : List Nat} (hw : ws m 15 ≤ 32768) (hm : ∀ x ∈ m, x ≤ 15) {i : Nat} (h : i < m.length) (h0 : m[i] ≠ 0) : code m i + 1 ≤ 2 ^ m[i] := by
  have h1 := fst_le hw (n := m[i]) (by omega) (hm _ (List.getElem_mem h))
  have h2 := count_take_lt h
  rw [code_of h h0]; omega
/-- A longer code lies behind all that a shorter one begins. -/
theorem code_far {m : List Nat} (hm : ∀ x ∈ m, x ≤ 15) {i k : Nat} (hi : i < m.length) (hk : k < m.length) (h0 : m[i] ≠ 0) (hlt : m[i] < m[k]) : (code m i + 1) * 2 ^ (15 - m[i]) ≤ code m k * 2 ^ (15 - m[k]) := by
  have xi := hm _ (List.getElem_mem hi)
  have xk := hm _ (List.getElem_mem hk)
  have h1 := ws_step m (n := m[i]) (by omega) xi
  have h2 := fst_step m (n := m[k]) (by omega) xk
  have h3 := ws_mono m (a := m[i]) (b := m[k] - 1) (by omega)
  have h4 := count_take_lt hi
  rw [code_of hi h0, code_of hk (by omega), Nat.add_mul (fst m m[k])]
  have h5 : (fst m m[i] + (m.take i).count m[i] + 1) * 2 ^ (15 - m[i]) ≤ (fst m m[i] + m.count m[i]) * 2 ^ (15 - m[i]) := Nat.mul_le_mul_right _ (by omega)
  omega
theorem code_same {m : List Nat} {i k : Nat} (hi : i < m.length) (hk : k < m.length) (h0 : m[i] ≠ 0) (he : m[i] = m[k]) (hlt : i < k) : code m i < code m k := by
  rw [code_of hi h0, code_of hk (by omega), ← he]
  have h1 : m.take k = m.take i ++ (m.drop i).take (k - i) := by
    rw [← List.take_add, Nat.add_sub_cancel' (by omega)]
  have h2 : m.drop i = m[i] :: m.drop (i + 1) := List.drop_eq_getElem_cons hi
  have h3 : (m.drop i).take (k - i) = m[i] :: (m.drop (i + 1)).take (k - i - 1) := by
    rw [h2, show k - i = (k - i - 1) + 1 by omega]; rfl
  rw [h1, h3, List.count_append, List.count_cons]
  simp

theorem canonRises_true (l : List Int) (i k : Int) : wherrylaw02_CanonRises l i k = some true := by
  unfold wherrylaw02_CanonRises
  by_cases l1 : 300 < l.length
  · exact bndL (s := true) (cnd_t (by simp; omega) rfl) (cnd_t rfl rfl)
  by_cases l2 : l.length = 0
  · exact bndL (s := true) (cnd_f (by simp; omega) (by simp [l2])) (cnd_t rfl rfl)
  have e0 : ((l.length : Int) == 0) = false := by rw [beq_eq_false_iff_ne]; omega
  refine bndL (s := false) (cnd_f (by simp; omega) (by rw [e0])) (cnd_f rfl ?_)
  rcases codes_cases l (by omega) with ⟨m, rfl, hl, hm, hf, hc, _⟩ | ⟨hc, _⟩ | ⟨hc, _⟩
  case inr.inl => exact bnd hc (bndL (s := true) (cnd_t rfl rfl) (cnd_t rfl (bndL (s := true) (cnd_t rfl (bnd wakes02 rfl)) rfl)))
  case inr.inr => exact bnd hc (bndL (s := true) (cnd_t rfl rfl) (cnd_t rfl (bndL (s := true) (cnd_t rfl (bnd wakes02 rfl)) rfl)))
  have hw := forms_ws hf
  have hlen := ints_len m
  have hcl : (ints (codes m)).length = m.length := by rw [ints_len, codes_len]
  rw [hlen] at l1 l2
  refine bnd hc (bndL (s := false) (cnd_f rfl ?_) (cnd_f rfl ?_))
  · have : (((ints (codes m)).length : Int) != ((ints m).length : Int)) = false := by rw [hcl, hlen]; simp
    rw [this]
  obtain ⟨a, p, ha, hn, hr, hwp, hp⟩ := pick_of i m.length (by omega) (by omega)
  obtain ⟨b, q, hb, _, hr2, hwq, hq⟩ := pick_of k m.length (by omega) (by omega)
  have hp' : p < (ints m).length := by omega
  have hq' : q < (ints m).length := by omega
  have hpc : p < (ints (codes m)).length := by omega
  have hqc : q < (ints (codes m)).length := by omega
  have xp := hm _ (List.getElem_mem hp)
  have xq := hm _ (List.getElem_mem hq)
  refine bnd (x := (a : Int)) (by rw [ha]) (bnd (x := (m.length : Int)) (by rw [hlen, hn]) (bnd hr (bnd (x := (p : Int)) (by rw [hwp]) (bnd (x := (b : Int)) (by rw [hb]) (bnd (x := (m.length : Int)) (by rw [hlen, hn]) (bnd hr2 (bnd (x := (q : Int)) (by rw [hwq]) ?_)))))))
  have stop : ∀ {X : Bool → Option Bool}, X true = some true → ∀ c : Option (Bool ⊕ Bool), c = some (.inl true) → bindS c X some = some true := fun h c hc => bndL hc h
  by_cases z1 : m[p] = 0
  · refine bndL (s := true) (bnd (ixO_of hp') (bnd (ints_get hp) (cnd_t (by simp [z1]) rfl))) (cnd_t rfl (bnd wakes02 rfl))
  by_cases z2 : m[q] = 0
  · refine bndL (s := true) (bnd (ixO_of hp') (bnd (ints_get hp) (cnd_f (by simp; omega) (bnd (ixO_of hq') (bnd (ints_get hq) (cnd_t (by simp [z2]) rfl)))))) (cnd_t rfl (bnd wakes02 rfl))
  by_cases z3 : m[q] ≤ m[p]
  · refine bndL (s := true) (bnd (ixO_of hp') (bnd (ints_get hp) (cnd_f (by simp; omega) (bnd (ixO_of hq') (bnd (ints_get hq) (cnd_f (by simp; omega) (bnd (ixO_of hp') (bnd (ints_get hp) (bnd (ixO_of hq') (bnd (ints_get hq) ?_)))))))))) (cnd_t rfl (bnd wakes02 rfl))
    rw [decide_eq_true (by omega)]
  refine bndL (s := false) (bnd (ixO_of hp') (bnd (ints_get hp) (cnd_f (by simp; omega) (bnd (ixO_of hq') (bnd (ints_get hq) (cnd_f (by simp; omega) (bnd (ixO_of hp') (bnd (ints_get hp) (bnd (ixO_of hq') (bnd (ints_get hq) ?_)))))))))) (cnd_f rfl ?_)
  · rw [decide_eq_false (by omega)]
  have far := code_far hm hp hq z1 (by omega)
  have b1 := code_lt hw hm hp z1
  have b2 := code_lt hw hm hq z2
  have s1 : code m p * 2 ^ (15 - m[p]) < 32768 := by
    have := Nat.mul_le_mul_right (2 ^ (15 - m[p])) b1
    rw [pow_split xp, Nat.add_mul] at this
    have : 0 < 2 ^ (15 - m[p]) := Nat.pow_pos (by omega)
    omega
  have s2 : code m q * 2 ^ (15 - m[q]) < 32768 := by
    have := Nat.mul_le_mul_right (2 ^ (15 - m[q])) b2
    rw [pow_split xq, Nat.add_mul] at this
    have : 0 < 2 ^ (15 - m[q]) := Nat.pow_pos (by omega)
    omega
  have v1 : IntKind.i64.wrap (15 - ((m[p] : Nat) : Int)) = ((15 - m[p] : Nat) : Int) := by rw [wrap_i64 (by omega) (by omega)]; omega
  have v2 : IntKind.i64.wrap (15 - ((m[q] : Nat) : Int)) = ((15 - m[q] : Nat) : Int) := by rw [wrap_i64 (by omega) (by omega)]; omega
  have u1 : IntKind.u64.wrap ((15 - m[p] : Nat) : Int) = ((15 - m[p] : Nat) : Int) := wrap_u64c (by omega) (by omega)
  have u2 : IntKind.u64.wrap ((15 - m[q] : Nat) : Int) = ((15 - m[q] : Nat) : Int) := wrap_u64c (by omega) (by omega)
  have sh1 := shl_nat (code m p) (15 - m[p]) (by omega) (by omega)
  have sh2 := shl_nat (code m q) (15 - m[q]) (by omega) (by omega)
  have hpos : 0 < 2 ^ (15 - m[p]) := Nat.pow_pos (by omega)
  rw [Nat.add_mul] at far
  refine bndL (s := true) (bnd (ixO_of hpc) (bnd (codes_get m hp) (bnd (ixO_of hp') (bnd (ints_get hp) (bnd (x := ((15 - m[p] : Nat) : Int)) (by rw [v1]) (bnd (x := ((15 - m[p] : Nat) : Int)) (by rw [u1]) (bnd sh1
    (bnd (ixO_of hqc) (bnd (codes_get m hq) (bnd (ixO_of hq') (bnd (ints_get hq) (bnd (x := ((15 - m[q] : Nat) : Int)) (by rw [v2]) (bnd (x := ((15 - m[q] : Nat) : Int)) (by rw [u2]) (bnd sh2 (cnd_t ?_ (bnd wakes02 rfl)))))))))))))))) rfl
  generalize code m p * 2 ^ (15 - m[p]) = y1 at *
  generalize code m q * 2 ^ (15 - m[q]) = y2 at *
  simp; omega

theorem canonApart_true (l : List Int) (i k : Int) : wherrylaw02_CanonApart l i k = some true := by
  unfold wherrylaw02_CanonApart
  by_cases l1 : 300 < l.length
  · exact bndL (s := true) (cnd_t (by simp; omega) rfl) (cnd_t rfl rfl)
  by_cases l2 : l.length = 0
  · exact bndL (s := true) (cnd_f (by simp; omega) (by simp [l2])) (cnd_t rfl rfl)
  have e0 : ((l.length : Int) == 0) = false := by rw [beq_eq_false_iff_ne]; omega
  refine bndL (s := false) (cnd_f (by simp; omega) (by rw [e0])) (cnd_f rfl ?_)
  rcases codes_cases l (by omega) with ⟨m, rfl, hl, hm, hf, hc, _⟩ | ⟨hc, _⟩ | ⟨hc, _⟩
  case inr.inl => exact bnd hc (cnd_t rfl (bndL (s := true) (cnd_t rfl (cnd_t rfl (bnd wakes02 rfl))) rfl))
  case inr.inr => exact bnd hc (cnd_t rfl (bndL (s := true) (cnd_t rfl (cnd_f rfl (cnd_t rfl (bnd wakes02 rfl)))) rfl))
  have hw := forms_ws hf
  have hlen := ints_len m
  have hcl : (ints (codes m)).length = m.length := by rw [ints_len, codes_len]
  rw [hlen] at l1 l2
  refine bnd hc (cnd_f rfl (cnd_f ?_ ?_))
  · rw [hcl, hlen]; simp
  obtain ⟨a, p, ha, hn, hr, hwp, hp⟩ := pick_of i m.length (by omega) (by omega)
  obtain ⟨b, q, hb, _, hr2, hwq, hq⟩ := pick_of k m.length (by omega) (by omega)
  have hp' : p < (ints m).length := by omega
  have hq' : q < (ints m).length := by omega
  have hpc : p < (ints (codes m)).length := by omega
  have hqc : q < (ints (codes m)).length := by omega
  have xp := hm _ (List.getElem_mem hp)
  have xq := hm _ (List.getElem_mem hq)
  refine bnd (x := (a : Int)) (by rw [ha]) (bnd (x := (m.length : Int)) (by rw [hlen, hn]) (bnd hr (bnd (x := (p : Int)) (by rw [hwp]) (bnd (x := (b : Int)) (by rw [hb]) (bnd (x := (m.length : Int)) (by rw [hlen, hn]) (bnd hr2 (bnd (x := (q : Int)) (by rw [hwq])
    (bnd (ixO_of hp') (bnd (ints_get hp) ?_)))))))))
  by_cases z1 : m[p] = 0
  · have hz : code m p = 0 := by rw [code, getD_of hp, if_pos z1]
    exact cnd_t (by simp [z1]) (bndL (s := true) (bnd (ixO_of hpc) (bnd (codes_get m hp) (cnd_t (by simp [hz]) (bnd wakes02 rfl)))) rfl)
  have b1 := code_lt hw hm hp z1
  have pw := pow_le15 xp
  have u0 : IntKind.u64.wrap ((m[p] : Nat) : Int) = ((m[p] : Nat) : Int) := wrap_u64c (by omega) (by omega)
  have sh0 := shl_nat 1 m[p] (by omega) (by omega)
  rw [Nat.one_mul] at sh0
  refine cnd_f (by simp; omega) (bndL (s := false) (bnd (ixO_of hpc) (bnd (codes_get m hp) (cnd_f (by simp) (bnd (ixO_of hpc) (bnd (codes_get m hp) (bnd (ixO_of hp') (bnd (ints_get hp) (bnd (x := ((m[p] : Nat) : Int)) (by rw [u0]) (bnd sh0 ?_))))))))) (cnd_f rfl ?_))
  · rw [decide_eq_false (by omega)]
  by_cases hpq : p = q
  · exact bndL (s := true) (cnd_t (by simp [hpq]) rfl) (cnd_t rfl (bnd wakes02 rfl))
  have epq : ((p : Int) == (q : Int)) = false := by rw [beq_eq_false_iff_ne]; omega
  by_cases z2 : m[q] = 0
  · exact bndL (s := true) (cnd_f epq (bnd (ixO_of hq') (bnd (ints_get hq) (cnd_t (by simp [z2]) rfl)))) (cnd_t rfl (bnd wakes02 rfl))
  by_cases z3 : m[q] < m[p]
  · refine bndL (s := true) (cnd_f epq (bnd (ixO_of hq') (bnd (ints_get hq) (cnd_f (by simp; omega) (bnd (ixO_of hq') (bnd (ints_get hq) (bnd (ixO_of hp') (bnd (ints_get hp) ?_)))))))) (cnd_t rfl (bnd wakes02 rfl))
    rw [decide_eq_true (by omega)]
  refine bndL (s := false) (cnd_f epq (bnd (ixO_of hq') (bnd (ints_get hq) (cnd_f (by simp; omega) (bnd (ixO_of hq') (bnd (ints_get hq) (bnd (ixO_of hp') (bnd (ints_get hp) ?_)))))))) (cnd_f rfl ?_)
  · rw [decide_eq_false (by omega)]
  refine bnd (ixO_of hp') (bnd (ints_get hp) (bnd (ixO_of hq') (bnd (ints_get hq) ?_)))
  by_cases he : m[p] = m[q]
  · refine cnd_t (by simp [he]) ?_
    have hne : decide (((code m p : Nat) : Int) < ((code m q : Nat) : Int)) = decide ((p : Int) < (q : Int)) ∧ code m p ≠ code m q := by
      rcases Nat.lt_or_gt_of_ne hpq with h | h
      · have := code_same hp hq z1 he h
        exact ⟨by rw [decide_eq_true (by omega), decide_eq_true (by omega)], by omega⟩
      · have := code_same hq hp z2 he.symm h
        exact ⟨by rw [decide_eq_false (by omega), decide_eq_false (by omega)], by omega⟩
    refine bndL (s := true) (bnd (ixO_of hpc) (bnd (codes_get m hp) (bnd (ixO_of hqc) (bnd (codes_get m hq) (bnd rfl (cnd_t (by rw [hne.1]; simp) (bnd (ixO_of hpc) (bnd (codes_get m hp) (bnd (ixO_of hqc) (bnd (codes_get m hq) (cnd_t ?_ (bnd wakes02 rfl)))))))))))) rfl
    have := hne.2
    simp only [bne_iff_ne, ne_eq]; omega
  · refine cnd_f (by rw [beq_eq_false_iff_ne]; omega) ?_
    have far := code_far hm hp hq z1 (by omega)
    have v1 : IntKind.i64.wrap (((m[q] : Nat) : Int) - ((m[p] : Nat) : Int)) = ((m[q] - m[p] : Nat) : Int) := by rw [wrap_i64 (by omega) (by omega)]; omega
    have u1 : IntKind.u64.wrap ((m[q] - m[p] : Nat) : Int) = ((m[q] - m[p] : Nat) : Int) := wrap_u64c (by omega) (by omega)
    have sh := shr_nat .i64 (code m q) (m[q] - m[p]) (by simp only [IntKind.bits]; omega)
    refine bndL (s := true) (bnd (ixO_of hqc) (bnd (codes_get m hq) (bnd (ixO_of hq') (bnd (ints_get hq) (bnd (ixO_of hp') (bnd (ints_get hp) (bnd (x := ((m[q] - m[p] : Nat) : Int)) (by rw [v1]) (bnd (x := ((m[q] - m[p] : Nat) : Int)) (by rw [u1]) (bnd sh (bnd (ixO_of hpc) (bnd (codes_get m hp) (cnd_t ?_ (bnd wakes02 rfl))))))))))))) rfl
    have e2 : 2 ^ (15 - m[p]) = 2 ^ (m[q] - m[p]) * 2 ^ (15 - m[q]) := by rw [← Nat.pow_add]; congr 1; omega
    rw [e2, ← Nat.mul_assoc] at far
    have h3 := Nat.le_of_mul_le_mul_right far (Nat.pow_pos (by omega))
    have h4 : code m p + 1 ≤ code m q / 2 ^ (m[q] - m[p]) := (Nat.le_div_iff_mul_le (Nat.pow_pos (by omega))).2 h3
    simp only [bne_iff_ne, ne_eq]; omega
end Go.Abs.Sh
