import Derived.Test.YtcghjjldjfghgaaSumG
namespace Go.Abs.Sh
set_option linter.unusedVariables false
set_option linter.unusedSimpArgs false

theorem wakes08 : wherrylaw08_wakes = some true := by kernel_rfl
theorem app_ofS {A : Type} (l m : List A) (h : l.length + m.length < 4294967296) : appO 1 l m = some (l ++ m) := by
  simp only [appO]; rw [if_pos (by omega)]
theorem twin_eqS (l : List Int) (h : l.length < 4294967296) : wherrykeep_Twin l = some l := by
  simp only [wherrykeep_Twin]
  rw [app_ofS _ _ (by simp; omega)]; rfl
theorem xor_i64 (a b : Nat) (ha : a < 9223372036854775808) (hb : b < 9223372036854775808) : bits .xor .i64 (a : Int) (b : Int) = ((a ^^^ b : Nat) : Int) := by
  have hx : a ^^^ b < 2 ^ 63 := Nat.xor_lt_two_pow (by omega) (by omega)
  show IntKind.i64.wrap ((BitVec.ofInt 64 (a : Int) ^^^ BitVec.ofInt 64 (b : Int)).toNat : Int) = _
  rw [BitVec.toNat_xor, ofInt64 a ha, ofInt64 b hb, wrap_i64 (by omega) (by omega)]
theorem nats_getD' (l : List Int) (i : Nat) : (nats l).getD i 0 = (l.getD i 0).toNat := by
  simp only [nats, List.getD_eq_getElem?_getD, List.getElem?_map]
  cases l[i]? <;> simp

def mix (a b c : List Int) (j : Nat) : Nat := (a.getD j 0).toNat ^^^ (b.getD j 0).toNat ^^^ (c.getD j 0).toNat
def mixed (a b c : List Int) (n : Nat) : List Int := (List.range n).map fun j => ((mix a b c j : Nat) : Int)

theorem byte_nat {l : List Int} (h : ∀ n ∈ l, 0 ≤ n ∧ n < 256) (j : Nat) : (l.getD j 0).toNat < 256 := by
  simp only [List.getD_eq_getElem?_getD]
  cases hj : l[j]? with
  | none => simp
  | some x => have := h x (List.mem_of_getElem? hj); simp; omega
theorem mix_lt {a b c : List Int} (ha : ∀ n ∈ a, 0 ≤ n ∧ n < 256) (hb : ∀ n ∈ b, 0 ≤ n ∧ n < 256) (hc : ∀ n ∈ c, 0 ≤ n ∧ n < 256) (j : Nat) : mix a b c j < 256 :=
  Nat.xor_lt_two_pow (n := 8) (Nat.xor_lt_two_pow (n := 8) (byte_nat ha j) (byte_nat hb j)) (byte_nat hc j)
theorem xor3 (o x y z : Nat) : (o ^^^ x) ^^^ (o ^^^ y) ^^^ (o ^^^ z) = o ^^^ (x ^^^ y ^^^ z) := by
  apply Nat.eq_of_testBit_eq
  intro i
  simp only [Nat.testBit_xor]
  cases o.testBit i <;> cases x.testBit i <;> cases y.testBit i <;> cases z.testBit i <;> rfl

/-- The sum of what is mixed. -/
theorem crc_mix (d w : Nat) (x a b c : List Nat) (hx : ∀ n ∈ x, n < 256) (ha : ∀ n ∈ a, n < 256) (hb : ∀ n ∈ b, n < 256) (hc : ∀ n ∈ c, n < 256) (la : a.length = x.length) (lb : b.length = x.length) (lc : c.length = x.length)
    (h : ∀ j, j < x.length → x.getD j 0 = a.getD j 0 ^^^ b.getD j 0 ^^^ c.getD j 0) : crc d w x = crc d w a ^^^ crc d w b ^^^ crc d w c := by
  have hbv : bv x = bv a ^^^ bv b ^^^ bv c := by
    apply Nat.eq_of_testBit_eq
    intro q
    rw [Nat.testBit_xor, Nat.testBit_xor, bv_testBit x q hx, bv_testBit a q ha, bv_testBit b q hb, bv_testBit c q hc]
    by_cases hq : q / 8 < x.length
    · rw [h _ hq, Nat.testBit_xor, Nat.testBit_xor]
    · have e : ∀ l : List Nat, l.length = x.length → l.getD (q / 8) 0 = 0 := fun l hl => by
        simp only [List.getD_eq_getElem?_getD]
        rw [List.getElem?_eq_none (by omega)]; rfl
      rw [e x rfl, e a la, e b lb, e c lc]
      simp
  have hr : ∀ r, reg d x r = reg d a r ^^^ reg d b r ^^^ reg d c r := by
    intro r
    unfold reg
    rw [la, lb, lc, hbv, ← sn_xor, ← sn_xor, xor3]
  unfold crc
  rw [hr]
  generalize 2 ^ w - 1 = o
  apply Nat.eq_of_testBit_eq
  intro i
  simp only [Nat.testBit_xor]
  cases (reg d a o).testBit i <;> cases (reg d b o).testBit i <;> cases (reg d c o).testBit i <;> cases o.testBit i <;> rfl

theorem sumsMix_true (a b c : List Int) (ha : ∀ n ∈ a, 0 ≤ n ∧ n < 256) (hb : ∀ n ∈ b, 0 ≤ n ∧ n < 256) (hc : ∀ n ∈ c, 0 ≤ n ∧ n < 256) : wherrylaw08_SumsMix a b c = some true := by
  unfold wherrylaw08_SumsMix
  obtain ⟨n, hn, hna, hnb, hnc⟩ : ∃ n : Nat, (if (if (c.length : Int) < (b.length : Int) then (c.length : Int) else (b.length : Int)) < (a.length : Int) then (if (c.length : Int) < (b.length : Int) then (c.length : Int) else (b.length : Int)) else (a.length : Int)) = (n : Int) ∧ n ≤ a.length ∧ n ≤ b.length ∧ n ≤ c.length :=
    ⟨min a.length (min b.length c.length), by split <;> split <;> omega, by omega, by omega, by omega⟩
  refine bnd (x := if (c.length : Int) < (b.length : Int) then (c.length : Int) else (b.length : Int)) rfl (bnd (x := (n : Int)) (by rw [hn]) ?_)
  by_cases l1 : 600 < n
  · exact cnd_t (by simp; omega) rfl
  refine cnd_f (by simp; omega) ?_
  have hmb : ∀ k, ∀ y ∈ mixed a b c k, 0 ≤ y ∧ y < 256 := by
    intro k y hy
    obtain ⟨j, _, rfl⟩ := List.mem_map.1 hy
    have := mix_lt ha hb hc j
    omega
  have key : ∀ (k fuel i : Nat), n - i = k → i ≤ n → k < fuel →
      loopF (S := ((List Int) × Int)) (O := ((List Int)) ⊕ Bool) (fun ((s18, s19) : (List Int) × Int) =>
        cond ((decide (s19 < (n : Int))))
          ((ixO s19 a.length).bind fun v5 =>
          (getO a v5).bind fun v6 =>
          (ixO s19 b.length).bind fun v7 =>
          (getO b v7).bind fun v8 =>
          (some (bits .xor .u8 v6 v8)).bind fun v9 =>
          (ixO s19 c.length).bind fun v10 =>
          (getO c v10).bind fun v11 =>
          (some (bits .xor .u8 v9 v11)).bind fun v12 =>
          (appO 1 s18 [v12]).bind fun v13 =>
          (some (IntKind.i64.wrap (s19 + 1))).bind fun v14 =>
          some (.inl (v13, v14)))
          (some (.inr (.inl s18)))) fuel (mixed a b c i, (i : Int)) = some (.inl (mixed a b c n)) := by
    intro k
    induction k with
    | zero =>
      intro fuel i hk hi hf
      obtain ⟨f, rfl⟩ : ∃ f, fuel = f + 1 := ⟨fuel - 1, by omega⟩
      have : i = n := by omega
      subst this
      exact loop_exit (cnd_f (by simp) rfl)
    | succ k ih =>
      intro fuel i hk hi hf
      obtain ⟨f, rfl⟩ : ∃ f, fuel = f + 1 := ⟨fuel - 1, by omega⟩
      have ia : i < a.length := by omega
      have ib : i < b.length := by omega
      have ic : i < c.length := by omega
      have ka := ha a[i] (List.getElem_mem ia)
      have kb := hb b[i] (List.getElem_mem ib)
      have kc := hc c[i] (List.getElem_mem ic)
      obtain ⟨x, hx⟩ : ∃ x : Nat, a[i] = (x : Int) := ⟨a[i].toNat, by omega⟩
      obtain ⟨y, hy⟩ : ∃ y : Nat, b[i] = (y : Int) := ⟨b[i].toNat, by omega⟩
      obtain ⟨z, hz⟩ : ∃ z : Nat, c[i] = (z : Int) := ⟨c[i].toNat, by omega⟩
      have hxy : x ^^^ y < 256 := Nat.xor_lt_two_pow (n := 8) (by omega) (by omega)
      have w3 : IntKind.i64.wrap ((i : Int) + 1) = ((i + 1 : Nat) : Int) := by rw [wrap_i64 (by omega) (by omega)]; simp
      have hm : mix a b c i = x ^^^ y ^^^ z := by simp [mix, List.getD_eq_getElem?_getD, ia, ib, ic, hx, hy, hz]
      have hs : mixed a b c (i + 1) = mixed a b c i ++ [((x ^^^ y ^^^ z : Nat) : Int)] := by simp [mixed, List.range_succ, hm]
      have hl : (mixed a b c i).length = i := by simp [mixed]
      refine (loop_next (cnd_t (by simp; omega) (bnd (ixO_of ia) (bnd (x := (x : Int)) (by rw [getO_of ia, hx]) (bnd (ixO_of ib) (bnd (x := (y : Int)) (by rw [getO_of ib, hy]) (bnd (x := ((x ^^^ y : Nat) : Int)) (by rw [xor_u8 x y (by omega) (by omega)])
        (bnd (ixO_of ic) (bnd (x := (z : Int)) (by rw [getO_of ic, hz]) (bnd (x := ((x ^^^ y ^^^ z : Nat) : Int)) (by rw [xor_u8 _ z hxy (by omega)]) (bnd (app_ofS _ _ (by rw [hl]; simp; omega)) (bnd (x := ((i + 1 : Nat) : Int)) (by rw [w3]) rfl)))))))))))).trans ?_
      rw [← hs]
      exact ih f (i + 1) (by omega) (by omega) (by omega)
  refine bndL (key n BIG 0 rfl (Nat.zero_le _) (by unfold BIG; omega)) ?_
  have hlm : (mixed a b c n).length = n := by simp [mixed]
  have hsl : ∀ l : List Int, n ≤ l.length → sliO l 0 (n : Int) = some (l.take n) := by
    intro l hl
    simp only [sliO]; rw [if_pos (by omega)]; simp
  have htk : ∀ l : List Int, (∀ n ∈ l, 0 ≤ n ∧ n < 256) → ∀ y ∈ l.take n, 0 ≤ y ∧ y < 256 := fun l hl y hy => hl y (List.mem_of_mem_take hy)
  have hget : ∀ l : List Int, ∀ j, j < n → (nats (l.take n)).getD j 0 = (l.getD j 0).toNat := by
    intro l j hj
    rw [nats_getD']
    simp only [List.getD_eq_getElem?_getD, List.getElem?_take, hj, if_true]
  have hmix : ∀ d w, crc d w (nats (mixed a b c n)) = crc d w (nats (a.take n)) ^^^ crc d w (nats (b.take n)) ^^^ crc d w (nats (c.take n)) := by
    intro d w
    refine crc_mix d w _ _ _ _ (nats_bytes (hmb n)) (nats_bytes (htk a ha)) (nats_bytes (htk b hb)) (nats_bytes (htk c hc)) (by simp [nats, hlm, hna]) (by simp [nats, hlm, hnb]) (by simp [nats, hlm, hnc]) ?_
    intro j hj
    have hj' : j < n := by simpa [nats, hlm] using hj
    rw [hget a j hj', hget b j hj', hget c j hj', nats_getD']
    simp [mixed, List.getD_eq_getElem?_getD, hj', mix]
  have hlt : ∀ d w, d < 2 ^ w → 8 ≤ w → ∀ l : List Int, (∀ n ∈ l, 0 ≤ n ∧ n < 256) → crc d w (nats l) < 2 ^ w := fun d w hd hw l hl => by
    have : 2 ^ w - 1 < 2 ^ w := by have := Nat.pow_pos (n := w) (show 0 < 2 by omega); omega
    exact Nat.xor_lt_two_pow (reg_lt d w hd hw _ _ this (nats_bytes hl)) this
  have sm : ∀ l : List Int, (∀ n ∈ l, 0 ≤ n ∧ n < 256) → crc 33800 16 (nats l) < 65536 := fun l hl => hlt 33800 16 (by decide) (by omega) l hl
  have lm : ∀ l : List Int, (∀ n ∈ l, 0 ≤ n ∧ n < 256) → crc 3988292384 32 (nats l) < 4294967296 := fun l hl => hlt 3988292384 32 (by decide) (by omega) l hl
  have ta : (a.take n).length < 4294967296 := by simp; omega
  have tb : (b.take n).length < 4294967296 := by simp; omega
  have tc : (c.take n).length < 4294967296 := by simp; omega
  refine bndL (s := true) ?_ rfl
  have sa := sm _ (htk a ha)
  have sb := sm _ (htk b hb)
  have sc := sm _ (htk c hc)
  have la := lm _ (htk a ha)
  have lb := lm _ (htk b hb)
  have lc := lm _ (htk c hc)
  have sab : crc 33800 16 (nats (a.take n)) ^^^ crc 33800 16 (nats (b.take n)) < 65536 := Nat.xor_lt_two_pow (n := 16) sa sb
  have lab : crc 3988292384 32 (nats (a.take n)) ^^^ crc 3988292384 32 (nats (b.take n)) < 4294967296 := Nat.xor_lt_two_pow (n := 32) la lb
  refine bnd (short_eq' _ (hmb n) (by omega)) (bnd (hsl a hna) (bnd (short_eq' _ (htk a ha) ta) (bnd (hsl b hnb) (bnd (short_eq' _ (htk b hb) tb) (bnd (x := ((crc 33800 16 (nats (a.take n)) ^^^ crc 33800 16 (nats (b.take n)) : Nat) : Int)) (by rw [xor_i64 _ _ (by omega) (by omega)])
    (bnd (hsl c hnc) (bnd (short_eq' _ (htk c hc) tc) (bnd (x := ((crc 33800 16 (nats (a.take n)) ^^^ crc 33800 16 (nats (b.take n)) ^^^ crc 33800 16 (nats (c.take n)) : Nat) : Int)) (by rw [xor_i64 _ _ (by omega) (by omega)])
    (cnd_t (by rw [hmix]; simp) ?_)))))))))
  exact bnd (long_eq _ (hmb n) (by omega)) (bnd (hsl a hna) (bnd (long_eq _ (htk a ha) ta) (bnd (hsl b hnb) (bnd (long_eq _ (htk b hb) tb) (bnd (x := ((crc 3988292384 32 (nats (a.take n)) ^^^ crc 3988292384 32 (nats (b.take n)) : Nat) : Int)) (by rw [xor_i64 _ _ (by omega) (by omega)])
    (bnd (hsl c hnc) (bnd (long_eq _ (htk c hc) tc) (bnd (x := ((crc 3988292384 32 (nats (a.take n)) ^^^ crc 3988292384 32 (nats (b.take n)) ^^^ crc 3988292384 32 (nats (c.take n)) : Nat) : Int)) (by rw [xor_i64 _ _ (by omega) (by omega)])
    (cnd_t (by rw [hmix]; simp) (bnd wakes08 rfl))))))))))
end Go.Abs.Sh
