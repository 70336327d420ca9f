import Derived.Test.YtadkeipbkbkneaaDoorDigC
namespace Go.Abs.Sh
set_option linter.unusedVariables false
set_option maxRecDepth 100000

theorem z_eq (a w k f : Int) : IntKind.u32.wrap (IntKind.u32.wrap (IntKind.u32.wrap (f + a) + k) + w) = IntKind.u32.wrap (f + IntKind.u32.wrap (IntKind.u32.wrap (a + k) + w)) := by
  simp only [wrap32]; omega
theorem set4 (s : List Int) (hs : s.length = 4) (a b c d : Int) : (((s.set 0 a).set 1 b).set 2 c).set 3 d = [a, b, c, d] := by
  match s, hs with
  | [x, y, z, t], _ => rfl
theorem rsum_eq (b : List Int) (hb : b.length < 1000000) : wherryref08_Sum b = some (sumD b) := by
  unfold wherryref08_Sum
  have hlt : b.length % 64 < 64 := Nat.mod_lt _ (by decide)
  have hdm := Nat.div_add_mod b.length 64
  have hp : padN (b.length % 64) = if 55 < b.length % 64 then 128 else 64 := rfl
  obtain ⟨z, hz⟩ : ∃ z, padN (b.length % 64) - b.length % 64 - 9 = z := ⟨_, rfl⟩
  refine bnd (twin_of b (by omega)) (bnd (app_of (by simp only [List.length_cons, List.length_nil]; omega) (by simp only [List.length_cons, List.length_nil]; omega)) ?_)
  refine bndL (s := b ++ 128 :: List.replicate z 0) (loop_from (fun i => b ++ 128 :: List.replicate i 0) z _ rfl (by simp only [BIG]; split at hp <;> omega) (fun i hi => ?_) ?_) ?_
  · have hl : (b ++ 128 :: List.replicate i (0 : Int)).length = b.length + 1 + i := by simp; omega
    rw [hl]
    refine bnd (rem_c _ 64 64 rfl (by decide)) (cnd_t ?_ ?_)
    · rw [bne_iff_ne]; split at hp <;> omega
    · refine bnd (app_of (by rw [hl]; simp only [List.length_cons, List.length_nil]; split at hp <;> omega) (by rw [hl]; simp only [List.length_cons, List.length_nil]; split at hp <;> omega)) ?_
      rw [List.append_assoc, List.cons_append, ← List.replicate_succ']
  · have hl : (b ++ 128 :: List.replicate z (0 : Int)).length = b.length + 1 + z := by simp; omega
    rw [hl]
    refine bnd (rem_c _ 64 64 rfl (by decide)) (cnd_f ?_ rfl)
    rw [bne_eq_false_iff_eq]; split at hp <;> omega
  have hxe : padX b = b ++ 128 :: List.replicate z 0 ++ lenB b.length := by simp only [padX, hz]
  have hxl := padX_len b
  have hzle : z ≤ 64 := by split at hp <;> omega
  refine bndL (s := padX b) (loop_from (fun i => (b ++ 128 :: List.replicate z 0 ++ (lenB b.length).take i, (i : Int))) 8 _ (by simp) (by decide) (fun i hi => ?_) ?_) ?_
  · refine cnd_t (decide_eq_true (by omega)) ?_
    have e8 : (8 : Int) * (b.length : Int) = ((8 * b.length : Nat) : Int) := by omega
    have e8' : (8 : Int) * (i : Int) = ((8 * i : Nat) : Int) := by omega
    refine bnd (some_wrap (by omega) (by omega)) ?_
    rw [e8, u64_nat _ (by omega)]
    refine bnd rfl (bnd (some_wrap (by omega) (by omega)) ?_)
    rw [e8', u64_nat _ (by omega)]
    refine bnd rfl (bnd (shr_of .u64 _ _ (by simp only [IntKind.bits]; omega)) (bnd rfl ?_))
    have hl : (b ++ 128 :: List.replicate z 0 ++ (lenB b.length).take i).length ≤ b.length + 100 := by
      have h8 : ((lenB b.length).take i).length ≤ 8 := by rw [List.length_take]; simp only [lenB, List.length_map, List.length_range]; omega
      simp only [List.length_append, List.length_cons, List.length_replicate]
      omega
    refine bnd (app_of (by simp only [List.length_cons, List.length_nil]; omega) (by simp only [List.length_cons, List.length_nil]; omega)) (bnd (some_wrap (by omega) (by omega)) ?_)
    have ht : (lenB b.length).take (i + 1) = (lenB b.length).take i ++ [IntKind.u8.wrap ((IntKind.u64.wrap ((b.length : Int) * 2 ^ 3)).fdiv (2 ^ (8 * i)))] := by
      rw [List.take_add_one]
      congr 1
      simp only [lenB, List.getElem?_map, List.getElem?_range hi, Option.map_some, Option.toList_some]
    have e3 : (b.length : Int) * 2 ^ 3 = ((8 * b.length : Nat) : Int) := by omega
    rw [ht, ← List.append_assoc, e3, u64_nat _ (by omega)]
    rfl
  · refine cnd_f (by decide) ?_
    have : (lenB b.length).take 8 = lenB b.length := rfl
    rw [this, ← hxe]
  refine bnd rsines ?_
  generalize hm : b.length / 64 + padN (b.length % 64) / 64 = m at hxl
  have hml : m ≤ 100000 := by split at hp <;> omega
  have hsr := sumD_run b
  rw [hm] at hsr
  rw [hsr]
  generalize padX b = x at hxl
  refine bndL (s := runD initD x m) (loop_from (fun i => (runD initD x i, ((64 * i : Nat) : Int))) m _ rfl (by simp only [BIG]; omega) (fun i hi => ?_) ?_) ?_
  · have hsl := runD_len initD x rfl i
    have hstep : runD initD x (i + 1) = blockD (runD initD x i) ((x.drop (64 * i)).take 64) := rfl
    rw [hstep]
    generalize runD initD x i = s at hsl
    refine cnd_t (decide_eq_true (by rw [hxl]; omega)) ?_
    refine bnd (ixO_of (i := 0) (by omega)) (bnd (getD_of 0 (by omega)) (bnd (ixO_of (i := 1) (by omega)) (bnd (getD_of 0 (by omega)) (bnd (ixO_of (i := 2) (by omega)) (bnd (getD_of 0 (by omega)) (bnd (ixO_of (i := 3) (by omega)) (bnd (getD_of 0 (by omega)) ?_)))))))
    generalize hW : wordsI ((x.drop (64 * i)).take 64) 64 = W
    refine bndL (s := stepsD W (s.getD 0 0, s.getD 1 0, s.getD 2 0, s.getD 3 0) 64) (loop_from (fun j => ((stepsD W (s.getD 0 0, s.getD 1 0, s.getD 2 0, s.getD 3 0) j).1, (stepsD W (s.getD 0 0, s.getD 1 0, s.getD 2 0, s.getD 3 0) j).2.1, (stepsD W (s.getD 0 0, s.getD 1 0, s.getD 2 0, s.getD 3 0) j).2.2.1, (stepsD W (s.getD 0 0, s.getD 1 0, s.getD 2 0, s.getD 3 0) j).2.2.2, (j : Int))) 64 _ rfl (by decide) (fun j hj => ?_) ?_) ?_
    · have hx1 : stepsD W (s.getD 0 0, s.getD 1 0, s.getD 2 0, s.getD 3 0) (j + 1) = stepD W j (stepsD W (s.getD 0 0, s.getD 1 0, s.getD 2 0, s.getD 3 0) j) := rfl
      rw [hx1]
      generalize stepsD W (s.getD 0 0, s.getD 1 0, s.getD 2 0, s.getD 3 0) j = y
      obtain ⟨p, q, r, t⟩ := y
      refine cnd_t (decide_eq_true (by omega)) ?_
      refine bndL (s := ((fkD j q r t).1, ((fkD j q r t).2 : Int))) ?_ ?_
      · refine bnd (quo_c j 16 16 rfl (by decide) (by omega)) ?_
        refine bndL (s := ((fkD j q r t).1, ((fkD j q r t).2 : Int))) ?_ rfl
        have e0 : (((j / 16 : Nat) : Int) == 0) = decide (j / 16 = 0) := eq_nat _ 0
        have e1 : (((j / 16 : Nat) : Int) == 1) = decide (j / 16 = 1) := eq_nat _ 1
        have e2 : (((j / 16 : Nat) : Int) == 2) = decide (j / 16 = 2) := eq_nat _ 2
        unfold fkD
        rw [e0, e1, e2]
        by_cases h0 : j / 16 = 0
        · simp only [h0, decide_true, if_true, cond_true, Option.bind_some]
        · simp only [h0, decide_false, if_false, cond_false]
          by_cases h1 : j / 16 = 1
          · simp only [h1, decide_true, if_true, cond_true]
            rw [andnot, show bits .and .u32 q t = bits .and .u32 t q from by show IntKind.u32.wrap _ = IntKind.u32.wrap _; rw [BitVec.and_comm]]
            refine bnd rfl (bnd rfl (bnd rfl (bnd rfl (bnd (some_wrap (by omega) (by omega)) (bnd (some_wrap (by omega) (by omega)) ?_)))))
            have := rem_nat (5 * j + 1) 16 (by decide)
            refine bnd (by simpa using this) rfl
          · simp only [h1, decide_false, if_false, cond_false]
            by_cases h2 : j / 16 = 2
            · simp only [h2, decide_true, if_true, cond_true]
              refine bnd rfl (bnd rfl (bnd (some_wrap (by omega) (by omega)) (bnd (some_wrap (by omega) (by omega)) ?_)))
              have := rem_nat (3 * j + 5) 16 (by decide)
              refine bnd (by simpa using this) rfl
            · simp only [h2, decide_false, if_false, cond_false]
              refine bnd rfl (bnd rfl (bnd rfl (bnd (some_wrap (by omega) (by omega)) ?_)))
              have := rem_nat (7 * j) 16 (by decide)
              refine bnd (by simpa using this) rfl
      · have hk := fk_lt j hj q r t
        refine bnd rfl (bnd (ixO_of (show j < digest_sines.length from hj)) (bnd (getD_of 0 (show j < digest_sines.length from hj)) (bnd rfl (bnd (some_wrap (by omega) (by omega)) (bnd (some_wrap (by omega) (by omega)) ?_)))))
        have ea : ((64 * i : Nat) : Int) + 4 * ((fkD j q r t).2 : Int) = ((64 * i + 4 * (fkD j q r t).2 : Nat) : Int) := by omega
        rw [ea]
        refine bnd (word_eq x (64 * i) _ hk (by rw [hxl]; omega) (by rw [hxl]; omega)) ?_
        rw [hW]
        have hle := turn_le j hj
        refine bnd rfl (bnd (rturn_eq j hj) (bnd (shl_of .u32 _ _ (by simpa [IntKind.bits] using hle)) ?_))
        have e : (32 : Int) - ((turnN j : Nat) : Int) = ((32 - turnN j : Nat) : Int) := by omega
        rw [e, u64_nat _ (by omega)]
        refine bnd rfl (bnd (shr_of .u32 _ _ (by simp only [IntKind.bits]; omega)) (bnd rfl (bnd rfl (bnd (some_wrap (by omega) (by omega)) ?_))))
        rw [z_eq]
        rfl
    · exact cnd_f (by decide) rfl
    · have h0 : ∀ (l : List Int) (k : Nat), l.length = 4 → k < 4 → ixO ((k : Nat) : Int) l.length = some k := fun l k hl hk => ixO_of (by omega)
      refine bnd (h0 s 0 hsl (by decide)) (bnd (getD_of 0 (by omega)) (bnd rfl (bnd (h0 s 1 hsl (by decide)) (bnd (getD_of 0 (by omega)) (bnd rfl (bnd (h0 s 2 hsl (by decide)) (bnd (getD_of 0 (by omega)) (bnd rfl (bnd (h0 s 3 hsl (by decide)) (bnd (getD_of 0 (by omega)) (bnd rfl ?_)))))))))))
      refine bnd (h0 s 0 hsl (by decide)) (bnd rfl (bnd (h0 _ 1 (by simpa using hsl) (by decide)) (bnd rfl (bnd (h0 _ 2 (by simpa using hsl) (by decide)) (bnd rfl (bnd (h0 _ 3 (by simpa using hsl) (by decide)) (bnd rfl (bnd (some_wrap (by omega) (by omega)) ?_))))))))
      rw [set4 s hsl]
      simp only [blockD, hW]
      rfl
  · exact cnd_f (decide_eq_false (by rw [hxl]; omega)) rfl
  have hs2l := runD_len initD x rfl m
  generalize runD initD x m = s2 at hs2l
  refine bndL (out_loop s2 hs2l (fun l i hi hl => ?_) (fun l => cnd_f (by decide) rfl)) ?_
  · refine cnd_t (decide_eq_true (by omega)) ?_
    refine bnd (quo_c i 4 4 rfl (by decide) (by omega)) (bnd (ixO_of (by omega)) (bnd (getD_of 0 (by omega)) (bnd (rem_c i 4 4 rfl (by decide)) (bnd (some_wrap (by omega) (by omega)) ?_))))
    have e : (8 : Int) * ((i % 4 : Nat) : Int) = ((8 * (i % 4) : Nat) : Int) := by omega
    rw [e, u64_nat _ (by omega)]
    refine bnd rfl (bnd (shr_of .u32 _ _ (by simp only [IntKind.bits]; omega)) (bnd rfl (bnd (ixO_of hi) (bnd (set_of _ (by omega)) (bnd (some_wrap (by omega) (by omega)) rfl)))))
  · exact bnd (ln_of rfl) (bnd (ln_of rfl) (bnd (ln_of rfl) (bnd (ln_of rfl) rfl)))

theorem rkeyed_eq (key text : List Int) (hk : key.length < 10000) (ht : text.length < 10000) : wherryref08_Keyed key text = some (hmacD (keyD key) text) := by
  unfold wherryref08_Keyed
  refine bnd (twin_of key (by omega)) ?_
  refine bndL (s := if 64 < key.length then sumD key else key) ?_ ?_
  · by_cases h : 64 < key.length
    · refine cnd_t (decide_eq_true (by omega)) ?_
      rw [if_pos h]
      exact bnd (rsum_eq key (by omega)) (bnd (ln_of rfl) (bnd (ln_of rfl) (bnd (ln_of rfl) (bnd (twin_of _ (by rw [sumD_len]; decide)) rfl))))
    · refine cnd_f (decide_eq_false (by omega)) ?_
      rw [if_neg h]
  obtain ⟨k0, hk0⟩ : ∃ k0, (if 64 < key.length then sumD key else key) = k0 := ⟨_, rfl⟩
  have hk0l : k0.length ≤ 64 := by
    rw [← hk0]; split
    · rw [sumD_len]; decide
    · omega
  have hkd : keyD key = k0 ++ List.replicate (64 - k0.length) 0 := by
    rw [← copy_zeros 64 k0 hk0l, ← hk0]
    unfold keyD
    split <;> rfl
  rw [hk0]
  refine bndL (s := keyD key) (loop_from (fun i => k0 ++ List.replicate i 0) (64 - k0.length) _ (by simp) (by simp only [BIG]; omega) (fun i hi => ?_) ?_) ?_
  · have hl : (k0 ++ List.replicate i (0 : Int)).length = k0.length + i := by simp
    refine cnd_t (decide_eq_true (by rw [hl]; omega)) ?_
    refine bnd (app_of (by rw [hl]; simp only [List.length_cons, List.length_nil]; omega) (by rw [hl]; simp only [List.length_cons, List.length_nil]; omega)) ?_
    rw [List.append_assoc, ← List.replicate_succ']
  · have hl : (k0 ++ List.replicate (64 - k0.length) (0 : Int)).length = 64 := by simp; omega
    refine cnd_f (decide_eq_false (by rw [hl]; decide)) ?_
    rw [hkd]
  have hkl := keyD_len key
  generalize keyD key = k at hkl
  refine bndL (s := (k.map (fun x => bits .xor .u8 x 54), k.map (fun x => bits .xor .u8 x 92))) (loop_from (fun i => ((k.take i).map (fun x => bits .xor .u8 x 54), (k.take i).map (fun x => bits .xor .u8 x 92), (i : Int))) 64 _ rfl (by decide) (fun i hi => ?_) ?_) ?_
  · refine cnd_t (decide_eq_true (by omega)) ?_
    have hg : k[i]? = some (k.getD i 0) := getD_of 0 (by omega)
    refine bnd (ixO_of (by omega)) (bnd hg (bnd rfl ?_))
    refine bnd (app_of (by simp only [List.length_map, List.length_take, List.length_cons, List.length_nil]; omega) (by simp only [List.length_map, List.length_take, List.length_cons, List.length_nil]; omega)) (bnd (ixO_of (by omega)) (bnd hg (bnd rfl (bnd (app_of (by simp only [List.length_map, List.length_take, List.length_cons, List.length_nil]; omega) (by simp only [List.length_map, List.length_take, List.length_cons, List.length_nil]; omega)) (bnd (some_wrap (by omega) (by omega)) ?_)))))
    rw [List.take_add_one, hg]
    simp only [Option.toList_some, List.map_append, List.map_cons, List.map_nil]
    rfl
  · refine cnd_f (by decide) ?_
    rw [List.take_of_length_le (by omega)]
  · refine bnd (app_of (by simp only [List.length_map]; omega) (by simp only [List.length_map]; omega)) (bnd (rsum_eq _ (by simp only [List.length_append, List.length_map]; omega)) (bnd (ln_of rfl) (bnd (ln_of rfl) (bnd (ln_of rfl) ?_))))
    refine bnd (app_of (by simp only [List.length_map, sumD_len]; omega) (by simp only [List.length_map, sumD_len]; omega)) (bnd (rsum_eq _ (by simp only [List.length_append, List.length_map, sumD_len]; omega)) (bnd (ln_of rfl) (bnd (ln_of rfl) (bnd (ln_of rfl) ?_))))
    rfl
end Go.Abs.Sh
