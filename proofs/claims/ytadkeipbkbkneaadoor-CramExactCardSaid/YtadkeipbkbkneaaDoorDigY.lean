import Derived.Test.YtadkeipbkbkneaaDoorDigB
namespace Go.Abs.Sh
set_option linter.unusedVariables false
set_option maxRecDepth 100000

def keyD (key : List Int) : List Int := if 64 < key.length then copyL (List.replicate 64 0) (sumD key) else copyL (List.replicate 64 0) key
theorem copy_len (k : Nat) (l : List Int) (h : l.length ≤ k) : (copyL (List.replicate k (0 : Int)) l).length = k := by
  rw [copy_zeros k l h]; simp only [List.length_append, List.length_replicate]; omega
theorem keyD_len (key : List Int) : (keyD key).length = 64 := by
  unfold keyD
  split
  · exact copy_len _ _ (by rw [sumD_len]; decide)
  · exact copy_len _ _ (by omega)
def hmacD (k text : List Int) : List Int :=
  sumD (k.map (fun x => bits .xor .u8 x 92) ++ sumD (k.map (fun x => bits .xor .u8 x 54) ++ text))
theorem hmacD_len (k t : List Int) : (hmacD k t).length = 16 := rfl
theorem keyed_eq (key text : List Int) (hk : key.length < 1000000) (ht : text.length < 1000000) : digest_Keyed key text = some (hmacD (keyD key) text) := by
  unfold digest_Keyed
  refine bndL (s := keyD key) ?_ ?_
  · unfold keyD
    by_cases h : 64 < key.length
    · refine cnd_t (decide_eq_true (by omega)) ?_
      rw [if_pos h]
      exact bnd (sum_eq key (by omega)) (bnd (ln_of rfl) (bnd (ln_of rfl) (bnd (ln_of rfl) (bnd (ln_of rfl) rfl))))
    · refine cnd_f (decide_eq_false (by omega)) ?_
      rw [if_neg h]
      exact bnd (ln_of rfl) rfl
  · have hkl := keyD_len key
    generalize keyD key = k at hkl
    refine bnd (some_wrap (by omega) (by omega)) (bnd (x := ()) (by unfold mkcO; rw [if_pos (by omega)]) (bnd (x := ()) rfl (bnd (ln_of hkl) ?_)))
    refine bndL (s := (k.map (fun x => bits .xor .u8 x 54), k.map (fun x => bits .xor .u8 x 92))) (loop_from (fun i => ((k.take i).map (fun x => bits .xor .u8 x 54), (k.take i).map (fun x => bits .xor .u8 x 92), (i : Int))) 64 _ rfl (by decide) (fun i hi => ?_) ?_) ?_
    · refine cnd_t (decide_eq_true (by omega)) ?_
      have hg : k[i]? = some (k.getD i 0) := getD_of 0 (by omega)
      refine bnd (ixO_of hi) (bnd hg (bnd rfl ?_))
      refine bnd (app_of (by simp only [List.length_map, List.length_take, List.length_cons, List.length_nil]; omega) (by simp only [List.length_map, List.length_take, List.length_cons, List.length_nil]; omega)) (bnd rfl (bnd (app_of (by simp only [List.length_map, List.length_take, List.length_cons, List.length_nil]; omega) (by simp only [List.length_map, List.length_take, List.length_cons, List.length_nil]; omega)) (bnd (some_wrap (by omega) (by omega)) ?_)))
      rw [List.take_add_one, hg]
      simp only [Option.toList_some, List.map_append, List.map_cons, List.map_nil]
      rfl
    · refine cnd_f (by decide) ?_
      rw [List.take_of_length_le (by omega)]
    · refine bnd (app_of (by simp only [List.length_map]; omega) (by simp only [List.length_map]; omega)) (bnd (sum_eq _ (by simp only [List.length_append, List.length_map]; omega)) (bnd (ln_of rfl) (bnd (ln_of rfl) (bnd (ln_of rfl) ?_))))
      refine bnd (app_of (by simp only [List.length_map, sumD_len]; omega) (by simp only [List.length_map, sumD_len]; omega)) (bnd (sum_eq _ (by simp only [List.length_append, List.length_map, sumD_len]; omega)) (bnd (ln_of rfl) (bnd (ln_of rfl) (bnd (ln_of rfl) ?_))))
      rfl
theorem key_zeros (key : List Int) (q : Nat) (h : key.length + q ≤ 64) : keyD (key ++ List.replicate q 0) = keyD key := by
  unfold keyD
  have h1 : (key ++ List.replicate q (0 : Int)).length = key.length + q := by simp
  rw [if_neg (by omega), if_neg (by omega), copy_zeros _ _ (by omega), copy_zeros _ _ (by omega), h1, List.append_assoc, List.replicate_append_replicate]
  congr 2
  omega
theorem key_sum (key : List Int) (h : 64 < key.length) : keyD (sumD key) = keyD key := by
  unfold keyD
  rw [if_pos h, if_neg (by rw [sumD_len]; decide)]
theorem rem_any (x : Int) (m : Nat) (hm : 0 < m) : ∃ d : Nat, d < m ∧ remO (IntKind.u64.wrap x) (m : Int) = some (d : Int) := by
  have h : IntKind.u64.wrap x = ((x % 18446744073709551616).toNat : Int) := by
    simp only [IntKind.wrap, IntKind.bits, IntKind.signed]
    have e : (2 : Int) ^ 64 = 18446744073709551616 := by decide
    simp only [e, Bool.false_and, Bool.false_eq_true, if_false]
    omega
  rw [h]
  exact ⟨_, Nat.mod_lt _ hm, rem_nat _ _ hm⟩
theorem twin_of (l : List Int) (h : l.length ≤ 1000000) : wherrykeep_Twin l = some l := by
  unfold wherrykeep_Twin
  exact bnd (app_of (by simp only [List.length_nil]; omega) (by simp only [List.length_nil]; omega)) rfl
end Go.Abs.Sh
