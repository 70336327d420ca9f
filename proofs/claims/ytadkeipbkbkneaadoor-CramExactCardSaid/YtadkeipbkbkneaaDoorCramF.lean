import Derived.Test.YtadkeipbkbkneaaDoorCramE
namespace Go.Abs.Sh
set_option linter.unusedVariables false
set_option linter.unusedSimpArgs false
set_option maxRecDepth 100000

theorem getD_right (a b : List Nat) (i : Nat) : (a ++ b).getD (a.length + i) 0 = b.getD i 0 := by
  simp only [List.getD_eq_getElem?_getD]
  rw [List.getElem?_append_right (by omega), Nat.add_sub_cancel_left]
theorem grp_fill (p : List Nat) (h0 : 0 < p.length) (h3 : p.length ≤ 3) : (∀ i, i < 3 - p.length → (grp p).getD (3 - i) 0 = 61) ∧ (grp p).getD p.length 0 ≠ 61 := by
  have hm : ∀ n : Nat, sg (n % 64) ≠ 61 := fun n => (sg_lt _ (Nat.mod_lt _ (by decide))).2
  match p, h0, h3 with
  | [a], _, _ =>
    refine ⟨fun i hi => ?_, ?_⟩
    · have : i = 0 ∨ i = 1 := by simp at hi; omega
      rcases this with rfl | rfl <;> rfl
    · exact hm _
  | [a, b], _, _ =>
    refine ⟨fun i hi => ?_, ?_⟩
    · obtain rfl : i = 0 := by simp at hi; omega
      rfl
    · exact hm _
  | [a, b, c], _, _ => exact ⟨fun i hi => by simp at hi, hm _⟩
/-- How the last group is filled. -/
theorem enc_fill (B : List Nat) (h : 0 < B.length) : (∀ i, i < (3 - B.length % 3) % 3 → (encN B).getD ((encN B).length - 1 - i) 0 = 61) ∧ (encN B).getD ((encN B).length - 1 - (3 - B.length % 3) % 3) 0 ≠ 61 := by
  obtain ⟨k, hk⟩ : ∃ k, (B.length - 1) / 3 = k := ⟨_, rfl⟩
  have hp : (B.drop (3 * k)).length = B.length - 3 * k := List.length_drop
  have e : encN B = encN (B.take (3 * k)) ++ grp (B.drop (3 * k)) := by
    conv => lhs; rw [← List.take_append_drop (3 * k) B]
    rw [encN_app k _ _ (by rw [List.length_take]; omega), encN_one (B.drop (3 * k)) (by omega) (by omega)]
  have hl1 : (encN (B.take (3 * k))).length = 4 * k := by
    rw [encN_len _ _ (Nat.le_refl _), List.length_take]; omega
  have hl : (encN B).length = 4 * k + 4 := by rw [e, List.length_append, hl1, grp_len _ (by omega)]
  obtain ⟨g1, g2⟩ := grp_fill (B.drop (3 * k)) (by omega) (by omega)
  have hF : (3 - B.length % 3) % 3 = 3 - (B.drop (3 * k)).length := by omega
  rw [hF, hl]
  refine ⟨fun i hi => ?_, ?_⟩
  · have := getD_right (encN (B.take (3 * k))) (grp (B.drop (3 * k))) (3 - i)
    rw [← e, hl1, show 4 * k + (3 - i) = 4 * k + 4 - 1 - i by omega] at this
    rw [this]; exact g1 i hi
  · have := getD_right (encN (B.take (3 * k))) (grp (B.drop (3 * k))) (B.drop (3 * k)).length
    rw [← e, hl1, show 4 * k + (B.drop (3 * k)).length = 4 * k + 4 - 1 - (3 - (B.drop (3 * k)).length) by omega] at this
    rw [this]; exact g2
theorem cramHexes_true (b : List Int) (hb : wfL (wfI .u8) b) : wherrylaw10_CramHexes b = some true := by
  unfold wherrylaw10_CramHexes
  by_cases h1 : 300 < b.length
  · exact cnd_t (decide_eq_true (by omega)) rfl
  refine cnd_f (decide_eq_false (by omega)) ?_
  obtain ⟨B, rfl, hB⟩ := byt_nat (byt_of_wf hb)
  have hlen : (B.map cI).length = B.length := List.length_map _
  rw [hlen] at h1 ⊢
  have hel := encN_len _ B (Nat.le_refl _)
  have hel4 : (encN B).length ≤ 500 := by omega
  refine bnd (hex_eq B hB (by omega)) (bnd (enc_step B hB (by omega)) (bnd (some_wrap (by omega) (by omega)) ?_))
  refine cnd_f (by rw [tx_size, hexN_len, bne_eq_false_iff_eq]; omega) ?_
  refine bndL (s := ()) (loop_from (fun i => ((i : Nat) : Int)) B.length _ rfl (by simp only [BIG]; omega) (fun i hi => ?_) ?_) ?_
  · refine cnd_t (decide_eq_true (by omega)) ?_
    have hx : B.getD i 0 < 256 := by
      rw [List.getD_eq_getElem?_getD, List.getElem?_eq_getElem hi]; exact hB _ (List.getElem_mem _)
    obtain ⟨q1, q2⟩ := hexN_get B i hi
    have e1 : (2 : Int) * (i : Int) = ((2 * i : Nat) : Int) := by omega
    have e2 : ((2 * i : Nat) : Int) + 1 = ((2 * i + 1 : Nat) : Int) := by omega
    refine bnd (some_wrap (by omega) (by omega)) ?_
    rw [e1]
    refine bnd (tx_chr (hexN_lt B hB) (by rw [hexN_len]; omega)) ?_
    rw [q1]
    refine bnd (hx_dig _ (by omega)).2 (bnd (some_wrap (by omega) (by omega)) (bnd (some_wrap (by omega) (by omega)) (bnd (some_wrap (by omega) (by omega)) ?_)))
    rw [e2]
    refine bnd (tx_chr (hexN_lt B hB) (by rw [hexN_len]; omega)) ?_
    rw [q2]
    refine bnd (hx_dig _ (Nat.mod_lt _ (by decide))).2 (bnd (some_wrap (by omega) (by omega)) (bnd (ixO_of hi) (bnd (getB B hi) (bnd (some_wrap (by simp only [cI]; omega) (by simp only [cI]; omega)) ?_))))
    refine cnd_f (by rw [bne_eq_false_iff_eq]; simp only [cI]; omega) (bnd (some_wrap (by omega) (by omega)) rfl)
  · exact cnd_f (decide_eq_false (by omega)) rfl
  obtain ⟨F, hF⟩ : ∃ F, (3 - B.length % 3) % 3 = F := ⟨_, rfl⟩
  have hFl : F < 3 := by omega
  have hlast : bindS (S := Bool) (A := Bool) ((remO (B.length : Int) 3).bind fun v68 => (some (IntKind.i64.wrap (3 - v68))).bind fun v69 => (remO v69 3).bind fun v70 => cond (((F : Int) == v70)) ((wherrylaw10_wakes ).bind fun v71 => some (.inl v71)) (some (.inl false))) (fun (s72 : Bool) => some (s72)) some = some true := by
    refine bndL (s := true) ?_ rfl
    have r1 : remO (B.length : Int) 3 = some ((B.length % 3 : Nat) : Int) := rem_nat _ 3 (by decide)
    refine bnd r1 (bnd (some_wrap (by omega) (by omega)) ?_)
    have e : (3 : Int) - ((B.length % 3 : Nat) : Int) = ((3 - B.length % 3 : Nat) : Int) := by omega
    rw [e]
    have r2 : remO ((3 - B.length % 3 : Nat) : Int) 3 = some (((3 - B.length % 3) % 3 : Nat) : Int) := rem_nat _ 3 (by decide)
    refine bnd r2 (cnd_t (by rw [hF]; simp) (bnd cram_wakes rfl))
  refine bndL (s := ((F : Nat) : Int)) (loop_from (fun i => ((i : Nat) : Int)) F _ rfl (by simp only [BIG]; omega) (fun i hi => ?_) ?_) hlast
  · have h0 : 0 < B.length := by
      rcases Nat.eq_zero_or_pos B.length with h | h
      · rw [h] at hF; omega
      · exact h
    obtain ⟨f1, f2⟩ := enc_fill B h0
    refine bndL (s := true) (cnd_t (decide_eq_true (by rw [tx_size]; omega)) ?_) (cnd_t rfl (bnd (some_wrap (by omega) (by omega)) rfl))
    rw [tx_size]
    refine bnd (some_wrap (by omega) (by omega)) (bnd (some_wrap (by omega) (by omega)) ?_)
    have e : ((encN B).length : Int) - 1 - (i : Int) = (((encN B).length - 1 - i : Nat) : Int) := by omega
    rw [e]
    refine bnd (tx_chr (encN_lt _ _ (Nat.le_refl _)) (by omega)) ?_
    rw [f1 i (by omega)]
    rfl
  · rcases Nat.eq_zero_or_pos B.length with h | h0
    · refine bndL (s := false) (cnd_f (decide_eq_false (by rw [tx_size]; omega)) rfl) rfl
    · obtain ⟨f1, f2⟩ := enc_fill B h0
      refine bndL (s := false) (cnd_t (decide_eq_true (by rw [tx_size]; omega)) ?_) rfl
      rw [tx_size]
      refine bnd (some_wrap (by omega) (by omega)) (bnd (some_wrap (by omega) (by omega)) ?_)
      have e : ((encN B).length : Int) - 1 - (F : Int) = (((encN B).length - 1 - F : Nat) : Int) := by omega
      rw [e]
      refine bnd (tx_chr (encN_lt _ _ (Nat.le_refl _)) (by omega)) ?_
      rw [hF] at f2
      have : (cI ((encN B).getD ((encN B).length - 1 - F) 0) == 61) = false := by
        simp only [cI, beq_eq_false_iff_ne, ne_eq]; omega
      rw [this]

/-! Texts that are none. -/
theorem bad0 : cram_Decode (⟨#[89, 81, 61]⟩ : ByteArray) = some ([], 5) := by kernel_rfl
theorem u64_ten (z : Int) : ∃ q : Nat, q < 10 ∧ remO (IntKind.u64.wrap z) 10 = some (q : Int) := by
  have h : IntKind.u64.wrap z = ((z % 18446744073709551616).toNat : Int) := by
    simp only [IntKind.wrap, IntKind.bits, IntKind.signed]
    have e : (2 : Int) ^ 64 = 18446744073709551616 := by decide
    simp only [e, Bool.false_and, Bool.false_eq_true, if_false]
    omega
  rw [h]
  exact ⟨_, Nat.mod_lt _ (by decide), rem_nat _ 10 (by decide)⟩
def badL : List ByteArray := [(⟨#[89, 81, 61]⟩ : ByteArray), (⟨#[89, 82, 61, 61]⟩ : ByteArray), (⟨#[89, 87, 70, 61]⟩ : ByteArray), (⟨#[89, 61, 61, 61]⟩ : ByteArray), (⟨#[89, 32, 81, 61]⟩ : ByteArray), (⟨#[61, 89, 81, 61]⟩ : ByteArray), (⟨#[89, 81, 61, 61, 89, 81, 61, 61]⟩ : ByteArray), (⟨#[89, 95, 81, 61]⟩ : ByteArray), (⟨#[61, 61, 61, 61]⟩ : ByteArray), (⟨#[89, 81, 61, 10]⟩ : ByteArray)]
theorem bad_at (q : Nat) (h : q < 10) : ∃ t, getO badL q = some t ∧ cram_Decode t = some ([], 5) := by
  have : ∀ q, q < 10 → ((getO badL q).bind cram_Decode) = some ([], 5) := by decide +kernel
  have := this q h
  cases hq : getO badL q with
  | none => rw [hq] at this; cases this
  | some t => rw [hq] at this; exact ⟨t, rfl, this⟩
theorem cramBad_true (how : Int) (b : List Int) (hb : wfL (wfI .u8) b) : wherrylaw10_CramBad how b = some true := by
  unfold wherrylaw10_CramBad
  by_cases h1 : 60 < b.length
  · exact cnd_t (decide_eq_true (by omega)) rfl
  refine cnd_f (decide_eq_false (by omega)) ?_
  obtain ⟨B, rfl, hB⟩ := byt_nat (byt_of_wf hb)
  have hlen : (B.map cI).length = B.length := List.length_map _
  rw [hlen] at h1
  have htw : wherrykeep_Twin (B.map cI) = some (B.map cI) := by
    unfold wherrykeep_Twin
    exact bnd (app_of (by simp only [List.length_nil, hlen]; omega) (by simp only [List.length_nil, hlen]; omega)) rfl
  have hB' : ∀ x ∈ B ++ [1, 2, 3], x < 256 := by
    intro x hx
    rcases List.mem_append.1 hx with h | h
    · exact hB x h
    · simp only [List.mem_cons, List.not_mem_nil, or_false] at h; omega
  have happ : appO 1 (B.map cI) [1, 2, 3] = some ((B ++ [1, 2, 3]).map cI) := by
    rw [app1 _ _ (by simp only [hlen, List.length_cons, List.length_nil]; omega), List.map_append]; rfl
  refine bnd htw (bnd happ (bnd (enc_step _ hB' (by simp only [List.length_append, List.length_cons, List.length_nil]; omega)) (bnd rfl ?_)))
  obtain ⟨q, hq, hr⟩ := u64_ten how
  obtain ⟨t, ht, hd⟩ := bad_at q hq
  refine bnd hr (bnd (some_wrap (by omega) (by omega)) (bnd (ixO_of (show q < badL.length from hq)) (bnd (show getO badL q = some t from ht) (bnd hd ?_))))
  have hel := encN_len _ (B ++ [1, 2, 3]) (Nat.le_refl _)
  have hel2 : (encN (B ++ [1, 2, 3])).length ≤ 100 := by
    have : (B ++ [1, 2, 3]).length = B.length + 3 := by simp
    omega
  have hC : ∀ x ∈ encN (B ++ [1, 2, 3]) ++ [65], x < 256 := by
    intro x hx
    rcases List.mem_append.1 hx with h | h
    · exact encN_lt _ _ (Nat.le_refl _) x h
    · simp only [List.mem_cons, List.not_mem_nil, or_false] at h; omega
  have hcat : catO (tx (encN (B ++ [1, 2, 3]))) (⟨#[65]⟩ : ByteArray) = some (tx (encN (B ++ [1, 2, 3]) ++ [65])) := by
    rw [cat_of (by rw [tx_size]; have : (⟨#[65]⟩ : ByteArray).size = 1 := rfl; omega), tx_bytes (encN_lt _ _ (Nat.le_refl _)), tx, List.map_append]
    rfl
  refine bnd hcat (bnd (dec_eq _ hC (by simp only [List.length_append, List.length_cons, List.length_nil]; omega)) ?_)
  have hne : ¬ tx (encN (decT (encN (B ++ [1, 2, 3]) ++ [65]))) = tx (encN (B ++ [1, 2, 3]) ++ [65]) := by
    intro h
    have h2 := congrArg ByteArray.size h
    rw [tx_size, tx_size, encN_len _ _ (Nat.le_refl _), List.length_append, hel] at h2
    simp only [List.length_cons, List.length_nil] at h2
    omega
  rw [if_neg hne]
  refine bnd (show cram_Decode (⟨#[]⟩ : ByteArray) = some ([], 0) from by kernel_rfl) ?_
  refine bndL (s := true) ?_ rfl
  exact cnd_t rfl (cnd_t rfl (cnd_t rfl (cnd_t rfl (cnd_t rfl (cnd_t rfl (bnd cram_wakes rfl))))))
end Go.Abs.Sh
