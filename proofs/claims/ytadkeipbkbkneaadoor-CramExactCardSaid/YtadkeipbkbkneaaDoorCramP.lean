import Derived.Test.YtadkeipbkbkneaaDoorCramF
import Derived.Test.YtadkeipbkbkneaaDoorDigY
namespace Go.Abs.Sh
set_option linter.unusedVariables false
set_option linter.unusedSimpArgs false
set_option maxRecDepth 100000

theorem u8_range (n : Int) : 0 ≤ IntKind.u8.wrap n ∧ IntKind.u8.wrap n < 256 := by
  simp only [IntKind.wrap, IntKind.bits, IntKind.signed]
  have e : (2 : Int) ^ 8 = 256 := by decide
  simp only [e, Bool.false_and, Bool.false_eq_true, if_false]
  omega
theorem byt_out (s : List Int) : byt (outD s) := by
  intro x hx
  obtain ⟨i, _, rfl⟩ := List.mem_map.1 hx
  exact u8_range _
def Hd (k t : List Int) : List Nat := (hmacD (keyD k) t).map Int.toNat
theorem Hd_eq (k t : List Int) : hmacD (keyD k) t = (Hd k t).map cI ∧ (∀ x ∈ Hd k t, x < 256) ∧ (Hd k t).length = 16 := by
  have hb : byt (hmacD (keyD k) t) := byt_out _
  refine ⟨?_, ?_, by simp [Hd, hmacD_len]⟩
  · unfold Hd
    rw [List.map_map]
    conv => lhs; rw [← List.map_id (hmacD (keyD k) t)]
    refine List.map_congr_left fun x hx => ?_
    have := hb x hx
    simp only [Function.comp, cI, id]; omega
  · intro x hx
    obtain ⟨y, hy, rfl⟩ := List.mem_map.1 hx
    have := hb y hy; omega
/-- What is answered. -/
def ansN (U : List Nat) (k t : List Int) : List Nat := U ++ [32] ++ hexN (Hd k t)
theorem ansN_lt {U : List Nat} (hU : ∀ x ∈ U, x < 256) (k t : List Int) : ∀ x ∈ ansN U k t, x < 256 := by
  intro x hx
  rcases List.mem_append.1 hx with h | h
  · rcases List.mem_append.1 h with h | h
    · exact hU x h
    · simp only [List.mem_cons, List.not_mem_nil, or_false] at h; omega
  · exact hexN_lt _ (Hd_eq k t).2.1 x h
theorem ansN_len (U : List Nat) (k t : List Int) : (ansN U k t).length = U.length + 33 := by
  simp only [ansN, List.length_append, List.length_cons, List.length_nil, hexN_len, (Hd_eq k t).2.2]
theorem cat_tx {l m : List Nat} (hl : ∀ x ∈ l, x < 256) (hm : ∀ x ∈ m, x < 256) (h : l.length + m.length ≤ 1000000) : catO (tx l) (tx m) = some (tx (l ++ m)) := by
  rw [cat_of (by rw [tx_size, tx_size]; omega), tx_bytes hl, tx_bytes hm, tx, List.map_append]
theorem answer_eq (U : List Nat) (hU : ∀ x ∈ U, x < 256) (hl : U.length ≤ 10000) (k t : ByteArray) (hk : k.size < 10000) (ht : t.size < 10000) : cram_Answer (tx U) k t = some (tx (encN (ansN U (sbytes k) (sbytes t)))) := by
  unfold cram_Answer
  obtain ⟨h1, h2, h3⟩ := Hd_eq (sbytes k) (sbytes t)
  have h32 : ∀ x ∈ [32], x < 256 := by intro x hx; simp only [List.mem_cons, List.not_mem_nil, or_false] at hx; omega
  refine bnd rfl (bnd rfl (bnd (keyed_eq _ _ (by rw [sbytes_len]; omega) (by rw [sbytes_len]; omega)) (bnd (ln_of rfl) (bnd (ln_of rfl) ?_))))
  refine bnd (show catO (tx U) (tx [32]) = some (tx (U ++ [32])) from cat_tx hU h32 (by simp only [List.length_cons, List.length_nil]; omega)) (bnd (ln_of rfl) ?_)
  rw [h1]
  refine bnd (hex_eq _ h2 (by omega)) ?_
  have hU32 : ∀ x ∈ U ++ [32], x < 256 := by
    intro x hx
    rcases List.mem_append.1 hx with h | h
    · exact hU x h
    · exact h32 x h
  refine bnd (cat_tx hU32 (hexN_lt _ h2) (by simp only [List.length_append, List.length_cons, List.length_nil, hexN_len]; omega)) (bnd rfl ?_)
  have hb := ansN_lt hU (sbytes k) (sbytes t)
  rw [show U ++ [32] ++ hexN (Hd (sbytes k) (sbytes t)) = ansN U (sbytes k) (sbytes t) from rfl, tx_bytes hb]
  exact bnd (enc_step _ hb (by rw [ansN_len]; omega)) rfl
theorem verify_eq (U : List Nat) (hU : ∀ x ∈ U, x < 256) (hl : U.length ≤ 10000) (k t line : ByteArray) (hk : k.size < 10000) (ht : t.size < 10000) : cram_Verify (tx U) k t line = some (decide (line = tx (encN (ansN U (sbytes k) (sbytes t))))) := by
  unfold cram_Verify
  refine bnd (answer_eq U hU hl k t hk ht) ?_
  rw [toList_beq]
theorem ans_user {U O : List Nat} {k t k' t' : List Int} (hU : ∀ x ∈ U, x < 256) (hO : ∀ x ∈ O, x < 256) (h : tx (encN (ansN U k t)) = tx (encN (ansN O k t))) : U = O := by
  have h1 := enc_inj (ansN_lt hU k t) (ansN_lt hO k t) h
  simp only [ansN, List.append_assoc] at h1
  exact List.append_cancel_right h1
theorem ans_hash {U : List Nat} {k t t' : List Int} (hU : ∀ x ∈ U, x < 256) (h : tx (encN (ansN U k t)) = tx (encN (ansN U k t'))) : Hd k t = Hd k t' := by
  have h1 := enc_inj (ansN_lt hU k t) (ansN_lt hU k t') h
  simp only [ansN] at h1
  exact hexN_inj _ _ (Hd_eq k t).2.1 (Hd_eq k t').2.1 (List.append_cancel_left h1)
theorem u8_xor1 (a : Nat) (ha : a < 256) : bits .xor .u8 (a : Int) 1 = ((a ^^^ 1 : Nat) : Int) := by
  have hx : a ^^^ 1 < 2 ^ 8 := Nat.xor_lt_two_pow (by omega) (by omega)
  show IntKind.u8.wrap ((BitVec.ofInt 8 (a : Int) ^^^ BitVec.ofInt 8 ((1 : Nat) : Int)).toNat : Int) = _
  have h : ∀ n : Nat, n < 256 → (BitVec.ofInt 8 (n : Int)).toNat = n := fun n hn => by
    rw [BitVec.ofInt_natCast, BitVec.toNat_ofNat]; omega
  rw [BitVec.toNat_xor, h a ha, h 1 (by omega), u8_mod]
  omega
theorem xor1_ne (a : Nat) : a ^^^ 1 ≠ a := by
  intro h
  have h2 := congrArg (fun n => n.testBit 0) h
  simp [Nat.testBit_xor] at h2
  omega
theorem cramProves_true (user secret challenge other : ByteArray) (at_ : Int) (h1 : wzS user) (h2 : wzS secret) (h3 : wzS challenge) (h4 : wzS other) : wherrylaw10_CramProves user secret challenge other at_ = some true := by
  unfold wherrylaw10_CramProves
  have z1 : user.size ≤ 1000000000000000000 := by simp only [wzS, reachBytes] at h1; omega
  have z2 : secret.size ≤ 1000000000000000000 := by simp only [wzS, reachBytes] at h2; omega
  have z3 : challenge.size ≤ 1000000000000000000 := by simp only [wzS, reachBytes] at h3; omega
  have z4 : other.size ≤ 1000000000000000000 := by simp only [wzS, reachBytes] at h4; omega
  refine bnd (some_wrap (by omega) (by omega)) (bnd (some_wrap (by omega) (by omega)) (bnd (some_wrap (by omega) (by omega)) ?_))
  by_cases hs : 800 < user.size + secret.size + challenge.size + other.size
  · exact cnd_t (decide_eq_true (by omega)) rfl
  refine cnd_f (decide_eq_false (by omega)) ?_
  obtain ⟨U, rfl, hU, hUl⟩ := tx_of user
  obtain ⟨O, rfl, hO, hOl⟩ := tx_of other
  rw [tx_size] at hUl hOl hs
  rw [tx_size] at hs
  obtain ⟨E, hE⟩ : ∃ E, encN (ansN U (sbytes secret) (sbytes challenge)) = E := ⟨_, rfl⟩
  have hEb : ∀ x ∈ E, x < 256 := by rw [← hE]; exact encN_lt _ _ (Nat.le_refl _)
  have hEl : E.length = (U.length + 35) / 3 * 4 := by rw [← hE, encN_len _ _ (Nat.le_refl _), ansN_len]
  refine bnd (answer_eq U hU (by omega) _ _ (by omega) (by omega)) ?_
  rw [hE]
  have hver : ∀ line, cram_Verify (tx U) secret challenge line = some (decide (line = tx E)) := fun line => by
    rw [verify_eq U hU (by omega) _ _ _ (by omega) (by omega), hE]
  have h61 : ∀ x ∈ [61], x < 256 := by intro x hx; simp only [List.mem_cons, List.not_mem_nil, or_false] at hx; omega
  refine bndL (s := false) (cnd_f (by rw [tx_size]; exact beq_eq_false_iff_ne.2 (by omega)) ?_) (cnd_f rfl ?_)
  · refine bnd (hver _) (cnd_f (by simp) (bnd (show catO (tx E) (tx [61]) = _ from cat_tx hEb h61 (by simp only [List.length_cons, List.length_nil]; omega)) (bnd (hver _) ?_)))
    have : ¬ tx (E ++ [61]) = tx E := fun h => by
      have := congrArg ByteArray.size h
      rw [tx_size, tx_size, List.length_append] at this
      simp at this
    rw [decide_eq_false this]
  obtain ⟨q, hq, hr⟩ := rem_any at_ E.length (by omega)
  refine bnd rfl (bnd (x := ((E.length : Nat) : Int)) (by rw [tx_size, u64_nat _ (by omega)]) (bnd hr (bnd (some_wrap (by omega) (by omega)) (bnd rfl ?_))))
  rw [tx_bytes hEb]
  have hml : (E.map cI).length = E.length := List.length_map _
  obtain ⟨e, he⟩ : ∃ e, E.getD q 0 = e := ⟨_, rfl⟩
  have heb : e < 256 := by
    rw [← he, List.getD_eq_getElem?_getD, List.getElem?_eq_getElem hq]; exact hEb _ (List.getElem_mem _)
  refine bnd (ixO_of (by rw [hml]; exact hq)) (bnd (getB E hq) (bnd rfl (bnd (ixO_of (by rw [hml]; exact hq)) (bnd rfl ?_))))
  rw [he, show cI e = ((e : Nat) : Int) from rfl, u8_xor1 e heb]
  have hset : (E.map cI).set q ((e ^^^ 1 : Nat) : Int) = (E.set q (e ^^^ 1)).map cI := by rw [List.map_set]; rfl
  rw [hset]
  have hx256 : e ^^^ 1 < 256 := Nat.xor_lt_two_pow (n := 8) (by omega) (by omega)
  have hne : ¬ tx (E.set q (e ^^^ 1)) = tx E := fun h => by
    have h5 := tx_inj (fun x hx => (List.mem_or_eq_of_mem_set hx).elim (hEb x) (fun h => h ▸ hx256)) hEb h
    have h6 := congrArg (fun l => l.getD q 0) h5
    simp only [List.getD_eq_getElem?_getD] at h6
    rw [List.getElem?_set_self hq] at h6
    rw [List.getD_eq_getElem?_getD] at he
    rw [he] at h6
    exact xor1_ne e h6
  refine bndL (s := false) ?_ (cnd_f rfl ?_)
  · refine bnd rfl (bnd (hver _) (cnd_f (decide_eq_false hne) ?_))
    rw [toList_beq]
    by_cases huo : tx U = tx O
    · exact cnd_f (by simp [huo]) rfl
    · refine cnd_t (by simp [huo]) (bnd (verify_eq O hO (by omega) _ _ _ (by omega) (by omega)) ?_)
      have : ¬ tx E = tx (encN (ansN O (sbytes secret) (sbytes challenge))) := fun h => by
        rw [← hE] at h
        exact huo (congrArg tx (ans_user (k' := []) (t' := []) hU hO h))
      rw [decide_eq_false this]
  · have hkl : ∀ t : ByteArray, t.size < 10000 → digest_Keyed (sbytes secret) (sbytes t) = some (hmacD (keyD (sbytes secret)) (sbytes t)) := fun t ht => keyed_eq _ _ (by rw [sbytes_len]; omega) (by rw [sbytes_len]; omega)
    refine bnd rfl (bnd rfl (bnd (hkl challenge (by omega)) (bnd rfl (bnd rfl (bnd (hkl (tx O) (by rw [tx_size]; omega)) (bnd (ln_of rfl) (bnd (ln_of rfl) (bnd (ln_of rfl) (bnd (ln_of rfl) ?_)))))))))
    refine bndL (s := true) ?_ rfl
    refine bnd (verify_eq U hU (by omega) _ _ _ (by omega) (by rw [tx_size]; omega)) (bnd (ln_of rfl) (bnd (ln_of rfl) (bnd (ln_of rfl) (bnd (ln_of rfl) (bnd rfl ?_)))))
    have key : (decide (tx E = tx (encN (ansN U (sbytes secret) (sbytes (tx O))))) == (hmacD (keyD (sbytes secret)) (sbytes challenge) == hmacD (keyD (sbytes secret)) (sbytes (tx O)))) = true := by
      rw [(Hd_eq (sbytes secret) (sbytes challenge)).1, (Hd_eq (sbytes secret) (sbytes (tx O))).1]
      by_cases hh : Hd (sbytes secret) (sbytes challenge) = Hd (sbytes secret) (sbytes (tx O))
      · have : tx E = tx (encN (ansN U (sbytes secret) (sbytes (tx O)))) := by rw [← hE, ansN, ansN, hh]
        rw [decide_eq_true this, hh]; simp
      · have : ¬ tx E = tx (encN (ansN U (sbytes secret) (sbytes (tx O)))) := fun h => by
          rw [← hE] at h
          exact hh (ans_hash hU h)
        rw [decide_eq_false this]
        have h2 : ¬ (Hd (sbytes secret) (sbytes challenge)).map cI = (Hd (sbytes secret) (sbytes (tx O))).map cI := fun h => hh (cI_map_inj h)
        simp [h2]
    exact cnd_t key (bnd cram_wakes rfl)
end Go.Abs.Sh
