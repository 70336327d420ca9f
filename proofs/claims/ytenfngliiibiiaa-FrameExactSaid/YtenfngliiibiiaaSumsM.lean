import Derived.Test.YtenfngliiibiiaaLawM
namespace Go.Abs.Sh
set_option linter.unusedVariables false
set_option linter.unusedSimpArgs false

theorem wrap_u32 {n : Int} (h0 : 0 ≤ n) (h1 : n < 4294967296) : IntKind.u32.wrap n = n := by
  simp only [IntKind.wrap, IntKind.bits, IntKind.signed]
  have e : (2 : Int) ^ 32 = 4294967296 := by decide
  simp only [e, Bool.false_and, Bool.false_eq_true, if_false]
  omega
theorem u32_ofInt (a : Nat) (ha : a < 4294967296) : (BitVec.ofInt 32 (a : Int)).toNat = a := by
  rw [BitVec.ofInt_natCast, BitVec.toNat_ofNat]; exact Nat.mod_eq_of_lt (by omega)
theorem xor_u32 (a b : Nat) (ha : a < 4294967296) (hb : b < 4294967296) : bits .xor .u32 (a : Int) (b : Int) = ((a ^^^ b : Nat) : Int) := by
  have hx : a ^^^ b < 2 ^ 32 := Nat.xor_lt_two_pow (by omega) (by omega)
  show IntKind.u32.wrap ((BitVec.ofInt 32 (a : Int) ^^^ BitVec.ofInt 32 (b : Int)).toNat : Int) = _
  rw [BitVec.toNat_xor, u32_ofInt a ha, u32_ofInt b hb, wrap_u32 (by omega) (by omega)]

def tab16 : List Nat := [0, 4225, 8450, 12675, 16900, 21125, 25350, 29575, 33800, 38025, 42250, 46475, 50700, 54925, 59150, 63375]
theorem table16 : sums_table 33800 = some (tab16.map (fun n : Nat => (n : Int))) := by kernel_rfl
theorem tab16_lt : ∀ i, i < 16 → tab16.getD i 0 < 65536 := by decide
theorem tab16_at (i : Nat) (h : i < 16) : getO (tab16.map (fun n : Nat => (n : Int))) i = some ((tab16.getD i 0 : Nat) : Int) := by
  have : i < tab16.length := h
  simp [getO, List.getD, this]

/-- One nibble. -/
def nib (r : Nat) : Nat := r / 16 ^^^ tab16.getD (r % 16) 0
def byteStep (r x : Nat) : Nat := nib (nib (r ^^^ x))
theorem nib_lt (r : Nat) (h : r < 65536) : nib r < 65536 := by
  have := Nat.xor_lt_two_pow (n := 16) (x := r / 16) (y := tab16.getD (r % 16) 0) (by omega) (tab16_lt _ (Nat.mod_lt _ (by omega)))
  exact this
theorem byteStep_lt (r x : Nat) (h : r < 65536) (hx : x < 256) : byteStep r x < 65536 :=
  nib_lt _ (nib_lt _ (Nat.xor_lt_two_pow (n := 16) (by omega) (by omega)))

/-- The short checksum's number. -/
def short (l : List Nat) : Nat := l.foldl byteStep 65535 ^^^ 65535
theorem fold_lt : ∀ (l : List Nat) (r : Nat), r < 65536 → (∀ x ∈ l, x < 256) → l.foldl byteStep r < 65536
  | [], r, h, _ => h
  | x :: l, r, h, hl => fold_lt l _ (byteStep_lt r x h (hl x (by simp))) fun y hy => hl y (by simp [hy])
theorem short_lt (l : List Nat) (hl : ∀ x ∈ l, x < 256) : short l < 65536 := Nat.xor_lt_two_pow (n := 16) (fold_lt l _ (by omega) hl) (by omega)

theorem shr4 (r : Nat) (h : r < 65536) : shrO .u32 (r : Int) 4 = some ((r / 16 : Nat) : Int) := by
  simp only [shrO, IntKind.bits]
  rw [if_pos (by omega)]
  have e : (2 : Int) ^ min (4 : Int).toNat 32 = 16 := by decide
  rw [e, Int.fdiv_eq_ediv_of_nonneg _ (by omega)]
  rfl
theorem rem16 (r : Nat) : remO (r : Int) 16 = some ((r % 16 : Nat) : Int) := by
  simp only [remO]
  rw [if_neg (by omega), Int.tmod_eq_emod_of_nonneg (by omega)]
  rfl

def nats (l : List Int) : List Nat := l.map Int.toNat
theorem nats_bytes {l : List Int} (h : ∀ n ∈ l, 0 ≤ n ∧ n < 256) : ∀ x ∈ nats l, x < 256 := by
  intro x hx
  obtain ⟨n, hn, rfl⟩ := List.mem_map.1 hx
  have := h n hn; omega

theorem short_eq (b : List Int) (hb : ∀ n ∈ b, 0 ≤ n ∧ n < 256) (hl : b.length < 4294967296) : sums_Short b = some ((short (nats b) : Nat) : Int) := by
  have w16 : shlO .u32 1 16 = some 65536 := by decide
  have w15 : IntKind.u32.wrap (65536 - 1) = 65535 := by decide
  have l16 : lnO 16 (tab16.map (fun n : Nat => (n : Int))) = some (tab16.map (fun n : Nat => (n : Int))) := by decide
  have l0 : lnO 16 (List.replicate 16 (0 : Int)) = some (List.replicate 16 (0 : Int)) := by decide
  have key : ∀ (k fuel i r : Nat), b.length - i = k → i ≤ b.length → k < fuel → r < 65536 →
      loopF (S := (Int × Int)) (O := (Int) ⊕ Int) (fun ((s25, s26) : Int × Int) =>
      cond ((decide (s26 < (b.length : Int))))
        ((ixO s26 b.length).bind fun v7 =>
        (getO b v7).bind fun v8 =>
        (some (IntKind.u32.wrap v8)).bind fun v9 =>
        (some (bits .xor .u32 s25 v9)).bind fun v10 =>
        (shrO .u32 v10 4).bind fun v11 =>
        (remO v10 16).bind fun v12 =>
        (ixO v12 16).bind fun v13 =>
        (getO (tab16.map (fun n : Nat => (n : Int))) v13).bind fun v14 =>
        (some (bits .xor .u32 v11 v14)).bind fun v15 =>
        (shrO .u32 v15 4).bind fun v16 =>
        (remO v15 16).bind fun v17 =>
        (ixO v17 16).bind fun v18 =>
        (getO (tab16.map (fun n : Nat => (n : Int))) v18).bind fun v19 =>
        (some (bits .xor .u32 v16 v19)).bind fun v20 =>
        (some (IntKind.i64.wrap (s26 + 1))).bind fun v21 =>
        some (.inl (v20, v21)))
        (some (.inr (.inl s25)))) fuel ((r : Int), (i : Int)) = some (.inl (((nats (b.drop i)).foldl byteStep r : Nat) : Int)) := by
    intro k
    induction k with
    | zero =>
      intro fuel i r hk hi hf hr
      obtain ⟨f, rfl⟩ : ∃ f, fuel = f + 1 := ⟨fuel - 1, by omega⟩
      have hia : i = b.length := by omega
      subst hia
      simp [loopF, nats]
    | succ k ih =>
      intro fuel i r hk hi hf hr
      obtain ⟨f, rfl⟩ : ∃ f, fuel = f + 1 := ⟨fuel - 1, by omega⟩
      have hlt : i < b.length := by omega
      have hd : decide ((i : Int) < (b.length : Int)) = true := by simp; omega
      have hbi := hb b[i] (List.getElem_mem hlt)
      obtain ⟨x, hx⟩ : ∃ x : Nat, b[i] = (x : Int) := ⟨b[i].toNat, by omega⟩
      have hx256 : x < 256 := by omega
      have hw : IntKind.i64.wrap ((i : Int) + 1) = ((i + 1 : Nat) : Int) := by
        rw [wrap_i64 (by omega) (by omega)]; simp
      have a1 : r ^^^ x < 65536 := Nat.xor_lt_two_pow (n := 16) (by omega) (by omega)
      have m1 : (r ^^^ x) % 16 < 16 := Nat.mod_lt _ (by omega)
      have a2 := nib_lt _ a1
      have m2 : nib (r ^^^ x) % 16 < 16 := Nat.mod_lt _ (by omega)
      have t1 := tab16_lt _ m1
      have t2 := tab16_lt _ m2
      have e1 : (r ^^^ x) / 16 ^^^ tab16.getD ((r ^^^ x) % 16) 0 = nib (r ^^^ x) := rfl
      have e2 : nib (r ^^^ x) / 16 ^^^ tab16.getD (nib (r ^^^ x) % 16) 0 = byteStep r x := rfl
      have hdr : b.drop i = b[i] :: b.drop (i + 1) := List.drop_eq_getElem_cons hlt
      have hfin := ih f (i + 1) (byteStep r x) (by omega) hlt (by omega) (byteStep_lt r x hr hx256)
      refine (loop_next ?_).trans (hfin.trans ?_)
      · simp only [hd, cond_true, ixO_of hlt, getO_of hlt, Option.bind_some, hx, wrap_u32 (n := (x : Int)) (by omega) (by omega), xor_u32 r x (by omega) (by omega), shr4 _ a1, rem16, ixO_of m1, tab16_at _ m1,
          xor_u32 ((r ^^^ x) / 16) _ (by omega) (show tab16.getD ((r ^^^ x) % 16) 0 < 4294967296 by omega)]
        simp only [e1, shr4 _ a2, rem16, ixO_of m2, tab16_at _ m2, Option.bind_some, xor_u32 (nib (r ^^^ x) / 16) _ (by omega) (show tab16.getD (nib (r ^^^ x) % 16) 0 < 4294967296 by omega), hw]
        simp only [e2]
      · rw [hdr]
        simp [nats, hx]
  have hlt := fold_lt (nats b) 65535 (by omega) (nats_bytes hb)
  have hx := xor_u32 ((nats b).foldl byteStep 65535) 65535 (by omega) (by omega)
  have hs := short_lt (nats b) (nats_bytes hb)
  unfold short at hs
  have hsum : sums_sum b 16 33800 = some ((short (nats b) : Nat) : Int) := by
    unfold sums_sum
    refine bnd table16 (bnd l0 (bnd l16 (bnd w16 (bnd (x := 65535) (by rw [w15]) ?_))))
    refine bndL (key b.length BIG 0 65535 (by omega) (Nat.zero_le _) (by unfold BIG; omega) (by omega)) ?_
    refine bnd (x := (((nats b).foldl byteStep 65535 ^^^ 65535 : Nat) : Int)) (by rw [List.drop_zero]; exact congrArg some hx) (bnd (x := (((nats b).foldl byteStep 65535 ^^^ 65535 : Nat) : Int)) (by rw [wrap_i64 (by omega) (by omega)]) rfl)
  unfold sums_Short
  rw [hsum]
  rfl
end Go.Abs.Sh
