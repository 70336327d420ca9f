import Derived.Test.YtohhijlgepnbeaaTreN
namespace Go.Abs.Sh
set_option linter.unusedVariables false
set_option linter.unusedSimpArgs false
theorem core3 (x y z : Int) : coreD [x, y, z] = [2, 2, 1, 1, 0] := by
  by_cases h : z ≤ x + y
  · simp [coreD, mst, mstep, lst, h, dst]
  · simp [coreD, mst, mstep, lst, h, dst]
theorem pos3 {a b c : Int} (ha : 1 ≤ a) (hb : 1 ≤ b) (hc : 1 ≤ c) : pos [a, b, c] = [0, 1, 2] := by
  have h1 : 0 < a := by omega
  have h2 : 0 < b := by omega
  have h3 : 0 < c := by omega
  simp [pos, posN, h1, h2, h3]
theorem leB_t {ws : List Int} {x y : Int} (h : leB ws x y = true) : ws.getD x.toNat 0 ≤ ws.getD y.toNat 0 := by
  rw [leB_iff] at h; omega
theorem dep3 {a b c : Int} (ha : 1 ≤ a) (hb : 1 ≤ b) (hc : 1 ≤ c) : (dep [a, b, c] = [1, 2, 2] ∧ b ≤ a ∧ c ≤ a) ∨ (dep [a, b, c] = [2, 1, 2] ∧ a ≤ b ∧ c ≤ b) ∨ (dep [a, b, c] = [2, 2, 1] ∧ a ≤ c ∧ b ≤ c) := by
  have hp := pos3 ha hb hc
  obtain ⟨x, y, z, hw⟩ : ∃ x y z, wts [a, b, c] = [x, y, z] := by
    have : (wts [a, b, c]).length = 3 := by rw [wts_len, hp]; rfl
    match h : wts [a, b, c], this with
    | [x, y, z], _ => exact ⟨x, y, z, rfl⟩
  have hd : dep [a, b, c] = place [0, 0, 0] (srt [a, b, c]) [2, 2, 1, 1, 0] 3 := by
    rw [dep, hp, hw, core3, srt_len, hp]
    rfl
  have hs : srt [a, b, c] = insBy [a, b, c] 0 (insBy [a, b, c] 1 [2]) := by
    unfold srt
    rw [hp]
    rfl
  rw [hd, hs]
  have t01 := fun h => leB_t (ws := [a, b, c]) (x := 0) (y := 1) h
  have t02 := fun h => leB_t (ws := [a, b, c]) (x := 0) (y := 2) h
  have t12 := fun h => leB_t (ws := [a, b, c]) (x := 1) (y := 2) h
  have f01 := fun h => leB_t (leB_total (ws := [a, b, c]) (x := 0) (y := 1) h)
  have f02 := fun h => leB_t (leB_total (ws := [a, b, c]) (x := 0) (y := 2) h)
  have f12 := fun h => leB_t (leB_total (ws := [a, b, c]) (x := 1) (y := 2) h)
  have g0 : ([a, b, c] : List Int).getD (0 : Int).toNat 0 = a := rfl
  have g1 : ([a, b, c] : List Int).getD (1 : Int).toNat 0 = b := rfl
  have g2 : ([a, b, c] : List Int).getD (2 : Int).toNat 0 = c := rfl
  rw [g0, g1] at t01 f01
  rw [g0, g2] at t02 f02
  rw [g1, g2] at t12 f12
  cases h12 : leB [a, b, c] 1 2 with
  | true =>
    have e12 := t12 h12
    cases h01 : leB [a, b, c] 0 1 with
    | true =>
      have e01 := t01 h01
      right; right
      refine ⟨?_, by omega, by omega⟩
      simp [insBy, h12, h01, place]
    | false =>
      have e01 := f01 h01
      cases h02 : leB [a, b, c] 0 2 with
      | true =>
        have e02 := t02 h02
        right; right
        refine ⟨?_, by omega, by omega⟩
        simp [insBy, h12, h01, h02, place]
      | false =>
        have e02 := f02 h02
        left
        refine ⟨?_, by omega, by omega⟩
        simp [insBy, h12, h01, h02, place]
  | false =>
    have e12 := f12 h12
    cases h02 : leB [a, b, c] 0 2 with
    | true =>
      have e02 := t02 h02
      right; left
      refine ⟨?_, by omega, by omega⟩
      simp [insBy, h12, h02, place]
    | false =>
      have e02 := f02 h02
      cases h01 : leB [a, b, c] 0 1 with
      | true =>
        have e01 := t01 h01
        right; left
        refine ⟨?_, by omega, by omega⟩
        simp [insBy, h12, h01, h02, place]
      | false =>
        have e01 := f01 h01
        left
        refine ⟨?_, by omega, by omega⟩
        simp [insBy, h12, h01, h02, place]
theorem cost3 {a b c u v t : Int} : costN [a, b, c] [u, v, t] 3 = a * u + b * v + c * t := by
  simp [costN]
theorem okW3 {a b c : Int} (ha : 0 ≤ a ∧ a ≤ 1000) (hb : 0 ≤ b ∧ b ≤ 1000) (hc : 0 ≤ c ∧ c ≤ 1000) : okW [a, b, c] := by
  refine ⟨by simp, fun i hi => ?_⟩
  have : i = 0 ∨ i = 1 ∨ i = 2 := by simp at hi; omega
  rcases this with rfl | rfl | rfl
  · show 0 ≤ a ∧ a ≤ 1048576; omega
  · show 0 ≤ b ∧ b ≤ 1048576; omega
  · show 0 ≤ c ∧ c ≤ 1048576; omega
theorem dep010 {a : Int} (ha : 1 ≤ a) : dep [0, a, 0] = [0, 1, 0] := by
  have h : 0 < a := by omega
  have hp : pos [0, a, 0] = [1] := by simp [pos, posN, h]
  rw [dep, hp]
  rfl
theorem other3 {x y z : Int} (hx : 1 ≤ x) (hy : 1 ≤ y) (hz : 1 ≤ z) (h : canon_Check [x, y, z] = some 0) : x ≤ 15 ∧ y ≤ 15 ∧ z ≤ 15 ∧ ¬ (x = 1 ∧ y = 1) ∧ ¬ (x = 1 ∧ z = 1) ∧ ¬ (y = 1 ∧ z = 1) := by
  have he : ints ([x, y, z].map Int.toNat) = [x, y, z] := ints_nats fun n hn => by simp at hn; omega
  have hc := check_ints ([x, y, z].map Int.toNat) (by simp)
  rw [he, h] at hc
  by_cases hv : ([x, y, z].map Int.toNat).length ≤ 300 ∧ (∀ x_1 ∈ [x, y, z].map Int.toNat, x_1 ≤ 15)
  · rw [if_pos hv] at hc
    have h15 := hv.2
    simp only [List.map_cons, List.map_nil, List.mem_cons, List.not_mem_nil, or_false, forall_eq_or_imp, forall_eq] at h15
    cases hf : forms ([x, y, z].map Int.toNat) with
    | false => rw [hf] at hc; simp at hc
    | true =>
      have hw := forms_ws hf
      rw [ws_wsum _ (fun n hn => by simp at hn; omega)] at hw
      simp only [wsum, List.map_cons, List.map_nil, List.sum_cons, List.sum_nil, g1] at hw
      rw [if_pos (by omega), if_pos (by omega), if_pos (by omega)] at hw
      have p1 : 0 < 2 ^ (15 - x.toNat) := Nat.pow_pos (by omega)
      have p2 : 0 < 2 ^ (15 - y.toNat) := Nat.pow_pos (by omega)
      have p3 : 0 < 2 ^ (15 - z.toNat) := Nat.pow_pos (by omega)
      have e1 : x = 1 → 2 ^ (15 - x.toNat) = 16384 := fun e => by rw [e]; rfl
      have e2 : y = 1 → 2 ^ (15 - y.toNat) = 16384 := fun e => by rw [e]; rfl
      have e3 : z = 1 → 2 ^ (15 - z.toNat) = 16384 := fun e => by rw [e]; rfl
      refine ⟨by omega, by omega, by omega, fun e => ?_, fun e => ?_, fun e => ?_⟩
      · have := e1 e.1; have := e2 e.2; omega
      · have := e1 e.1; have := e3 e.2; omega
      · have := e2 e.1; have := e3 e.2; omega
  · rw [if_neg hv] at hc; simp at hc
theorem mul_ge {a x k : Int} (ha : 0 ≤ a) (h : k ≤ x) : a * k ≤ a * x := Int.mul_le_mul_of_nonneg_left h ha
theorem treeLeast_true (a b c : Int) (other : List Int) : wherrylaw03_TreeLeast a b c other = some true := by
  unfold wherrylaw03_TreeLeast
  obtain ⟨p, hp, hr⟩ := remu_eq a 1000 (by omega) (by omega)
  obtain ⟨q, hq, hr2⟩ := remu_eq b 1000 (by omega) (by omega)
  obtain ⟨r, hr0, hr3⟩ := remu_eq c 1000 (by omega) (by omega)
  obtain ⟨A, hA⟩ : ∃ A : Int, A = ((p + 1 : Nat) : Int) := ⟨_, rfl⟩
  obtain ⟨B, hB⟩ : ∃ B : Int, B = ((q + 1 : Nat) : Int) := ⟨_, rfl⟩
  obtain ⟨C, hC⟩ : ∃ C : Int, C = ((r + 1 : Nat) : Int) := ⟨_, rfl⟩
  refine bnd rfl (bnd hr (bnd (x := (p : Int)) (by rw [wrap_nat _ (by omega)]) (bnd (x := A) (by rw [wrap_i64 (by omega) (by omega)]; congr 1; omega) ?_)))
  refine bnd rfl (bnd hr2 (bnd (x := (q : Int)) (by rw [wrap_nat _ (by omega)]) (bnd (x := B) (by rw [wrap_i64 (by omega) (by omega)]; congr 1; omega) ?_)))
  refine bnd rfl (bnd hr3 (bnd (x := (r : Int)) (by rw [wrap_nat _ (by omega)]) (bnd (x := C) (by rw [wrap_i64 (by omega) (by omega)]; congr 1; omega) ?_)))
  have hw : okW [A, B, C] := okW3 (by omega) (by omega) (by omega)
  have hw0 : okW [0, A, 0] := okW3 (by omega) (by omega) (by omega)
  obtain ⟨u, v, t, hd, hu, hv, ht, hsum⟩ : ∃ u v t : Int, dep [A, B, C] = [u, v, t] ∧ (1 ≤ u ∧ u ≤ 2) ∧ (1 ≤ v ∧ v ≤ 2) ∧ (1 ≤ t ∧ t ≤ 2) ∧ A * u + B * v + C * t = A + B + C + A + B + C - (if (if C > B then C else B) > A then (if C > B then C else B) else A) := by
    rcases dep3 (a := A) (b := B) (c := C) (by omega) (by omega) (by omega) with ⟨h, h1, h2⟩ | ⟨h, h1, h2⟩ | ⟨h, h1, h2⟩
    · refine ⟨1, 2, 2, h, by omega, by omega, by omega, ?_⟩
      split <;> split at * <;> omega
    · refine ⟨2, 1, 2, h, by omega, by omega, by omega, ?_⟩
      split <;> split at * <;> omega
    · refine ⟨2, 2, 1, h, by omega, by omega, by omega, ?_⟩
      split <;> split at * <;> omega
  have hget : ∀ (x y z : Int) i, i < 3 → (([x, y, z] : List Int).getD i 0 = x ∨ ([x, y, z] : List Int).getD i 0 = y ∨ ([x, y, z] : List Int).getD i 0 = z) := by
    intro x y z i hi
    have : i = 0 ∨ i = 1 ∨ i = 2 := by omega
    rcases this with rfl | rfl | rfl
    · exact .inl rfl
    · exact .inr (.inl rfl)
    · exact .inr (.inr rfl)
  have hf : fits [A, B, C] 15 := fun i hi => by
    rw [hd]
    have := hget u v t i (by simpa using hi)
    omega
  have hf0 : fits [0, A, 0] 15 := fun i hi => by
    rw [dep010 (by omega)]
    have := hget 0 1 0 i (by simpa using hi)
    omega
  have l1 := lengths_zero hw (okL_15 _) hf
  have l2 := lengths_zero hw0 (okL_15 _) hf0
  rw [hd] at l1
  rw [dep010 (by omega)] at l2
  have hoc : okC [u, v, t] := fun i hi => by
    have := hget u v t i (by simpa using hi)
    omega
  have c1 := cost_ok (w := [A, B, C]) (l := [u, v, t]) rfl hw hoc
  have hcN : costN [A, B, C] [u, v, t] ([A, B, C] : List Int).length = A * u + B * v + C * t := cost3
  rw [hcN] at c1
  obtain ⟨M, hM⟩ : ∃ M : Int, M = (if (if C > B then C else B) > A then (if C > B then C else B) else A) := ⟨_, rfl⟩
  have hM2 : A ≤ M ∧ B ≤ M ∧ C ≤ M ∧ M ≤ 1000 := by
    rw [hM]
    split <;> split at * <;> omega
  rw [← hM] at hsum
  refine bnd l1 (bnd c1 (bnd l2 ?_))
  refine bndL (s := false) (cnd_f rfl (cnd_f rfl (cnd_f rfl (bnd (keepInts03 _ _ (by simp)) (cnd_f (by simp) ?_))))) (cnd_f rfl ?_)
  · refine bnd (x := A + B) (by rw [wrap_i64 (by omega) (by omega)]) (bnd (x := A + B + C) (by rw [wrap_i64 (by omega) (by omega)]) (bnd (x := A + B + C + A) (by rw [wrap_i64 (by omega) (by omega)]) (bnd (x := A + B + C + A + B) (by rw [wrap_i64 (by omega) (by omega)]) (bnd (x := A + B + C + A + B + C) (by rw [wrap_i64 (by omega) (by omega)]) ?_))))
    refine bnd rfl (bnd (x := M) (by rw [hM]) (bnd (x := A + B + C + A + B + C - M) (by rw [wrap_i64 (by omega) (by omega)]) ?_))
    simp only
    rw [hsum]
    simp
  by_cases hl : other.length = 3
  case neg => exact bndL (s := true) (cnd_t (by simp; omega) rfl) (cnd_t rfl (bnd wakes03 rfl))
  obtain ⟨x, y, z, rfl⟩ : ∃ x y z, other = [x, y, z] := by
    match other, hl with
    | [x, y, z], _ => exact ⟨x, y, z, rfl⟩
  have i0 : ixO 0 ([x, y, z] : List Int).length = some 0 := rfl
  have i1 : ixO 1 ([x, y, z] : List Int).length = some 1 := rfl
  have i2 : ixO 2 ([x, y, z] : List Int).length = some 2 := rfl
  by_cases hx : x < 1
  · exact bndL (s := true) (cnd_f rfl (bnd i0 (bnd rfl (cnd_t (decide_eq_true hx) rfl)))) (cnd_t rfl (bnd wakes03 rfl))
  by_cases hy : y < 1
  · exact bndL (s := true) (cnd_f rfl (bnd i0 (bnd rfl (cnd_f (decide_eq_false hx) (bnd i1 (bnd rfl (cnd_t (decide_eq_true hy) rfl))))))) (cnd_t rfl (bnd wakes03 rfl))
  by_cases hz : z < 1
  · exact bndL (s := true) (cnd_f rfl (bnd i0 (bnd rfl (cnd_f (decide_eq_false hx) (bnd i1 (bnd rfl (cnd_f (decide_eq_false hy) (bnd i2 (bnd rfl (cnd_t (decide_eq_true hz) rfl)))))))))) (cnd_t rfl (bnd wakes03 rfl))
  have he : ints ([x, y, z].map Int.toNat) = [x, y, z] := ints_nats fun n hn => by simp at hn; omega
  have hck := check_ints ([x, y, z].map Int.toNat) (by simp)
  rw [he] at hck
  obtain ⟨e, hee⟩ : ∃ e, canon_Check [x, y, z] = some e := ⟨_, hck⟩
  by_cases h0 : e = 0
  case neg =>
    exact bndL (s := true) (cnd_f rfl (bnd i0 (bnd rfl (cnd_f (decide_eq_false hx) (bnd i1 (bnd rfl (cnd_f (decide_eq_false hy) (bnd i2 (bnd rfl (cnd_f (decide_eq_false hz) (bnd hee (by simp [h0])))))))))))) (cnd_t rfl (bnd wakes03 rfl))
  subst h0
  have ho := other3 (by omega) (by omega) (by omega) hee
  have hoc2 : okC [x, y, z] := fun i hi => by
    have := hget x y z i (by simpa using hi)
    omega
  have c2 := cost_ok (w := [A, B, C]) (l := [x, y, z]) rfl hw hoc2
  have hcN2 : costN [A, B, C] [x, y, z] ([A, B, C] : List Int).length = A * x + B * y + C * z := cost3
  rw [hcN2] at c2
  refine bndL (s := false) (cnd_f rfl (bnd i0 (bnd rfl (cnd_f (decide_eq_false hx) (bnd i1 (bnd rfl (cnd_f (decide_eq_false hy) (bnd i2 (bnd rfl (cnd_f (decide_eq_false hz) (bnd hee rfl))))))))))) (cnd_f rfl (bnd c2 ?_))
  have hge : A * u + B * v + C * t ≤ A * x + B * y + C * z := by
    rw [hsum]
    have a1 := mul_ge (a := A) (x := x) (k := 1) (by omega) (by omega)
    have b1 := mul_ge (a := B) (x := y) (k := 1) (by omega) (by omega)
    have d1 := mul_ge (a := C) (x := z) (k := 1) (by omega) (by omega)
    have a2 := fun h => mul_ge (a := A) (x := x) (k := 2) (by omega) h
    have b2 := fun h => mul_ge (a := B) (x := y) (k := 2) (by omega) h
    have d2 := fun h => mul_ge (a := C) (x := z) (k := 2) (by omega) h
    by_cases ex : x = 1
    · have := b2 (by omega)
      have := d2 (by omega)
      omega
    · have := a2 (by omega)
      by_cases ey : y = 1
      · have := d2 (by omega)
        omega
      · have := b2 (by omega)
        omega
  exact bndL (s := true) (cnd_t rfl (cnd_t (decide_eq_true hge) (bnd wakes03 rfl))) rfl
end Go.Abs.Sh
