import Derived.Test.YtabnbhknefibaaaDoorHedF
namespace Go.Abs.Sh
set_option linter.unusedVariables false
set_option linter.unusedSimpArgs false
def hpS (flips : List Bool) (v3 : Int) : ((List Int) × Int) → Option (((List Int) × Int) ⊕ (((List Int)) ⊕ Bool)) := (fun ((s41, s42) : (List Int) × Int) =>
      cond ((decide (s42 < v3)))
        (bindS (S := ByteArray) (A := (((List Int) × Int) ⊕ (((List Int)) ⊕ Bool)))
          (bindS (S := Bool) (A := (ByteArray ⊕ (((List Int) × Int) ⊕ (((List Int)) ⊕ Bool))))
            (cond ((decide (s42 < (flips.length : Int))))
              ((ixO s42 flips.length).bind fun v5 =>
              (getO flips v5).bind fun v6 =>
              some (.inl v6))
              (some (.inl false)))
            (fun (s75 : Bool) =>
              cond (s75)
                (some (.inl (⟨#[114, 69, 99, 69, 73, 86, 69, 68]⟩ : ByteArray)))
                (some (.inl (⟨#[82, 101, 99, 101, 105, 118, 101, 100]⟩ : ByteArray)))) some)
          (fun (s71 : ByteArray) =>
            (catO s71 (⟨#[58, 32, 120, 13, 10, 88, 58, 32, 121, 13, 10]⟩ : ByteArray)).bind fun v21 =>
            (appO 1 s41 (sbytes v21)).bind fun v22 =>
            (some (IntKind.i64.wrap (s42 + 1))).bind fun v23 =>
            some (.inl (v22, v23))) some)
        (some (.inr (.inl s41))))
def rcN (b : Bool) : ByteArray := cond b (⟨#[114, 69, 99, 69, 73, 86, 69, 68]⟩ : ByteArray) (⟨#[82, 101, 99, 101, 105, 118, 101, 100]⟩ : ByteArray)
def rcF (b : Bool) : T_Field := ⟨rcN b, ⟨#[32, 120]⟩⟩
def xyF : T_Field := ⟨⟨#[88]⟩, ⟨#[32, 121]⟩⟩
instance dec_cln (l : List Int) : Decidable (cln l) := inferInstanceAs (Decidable (∀ x ∈ l, x ≠ 13 ∧ x ≠ 10))
instance dec_byt (l : List Int) : Decidable (byt l) := inferInstanceAs (Decidable (∀ x ∈ l, 0 ≤ x ∧ x < 256))
theorem rcN_ok (b : Bool) : nameOK (rcN b) := by cases b <;> exact ⟨by decide, of_decide_eq_true (by kernel_rfl)⟩
theorem xyN_ok : nameOK xyF.Name := ⟨by decide, of_decide_eq_true (by kernel_rfl)⟩
theorem rcH (b : Bool) : hopB (rcF b) = true := by cases b <;> kernel_rfl
theorem xyH : hopB xyF = false := by kernel_rfl
theorem rc_cat (b : Bool) : ∃ v, catO (rcN b) (⟨#[58, 32, 120, 13, 10, 88, 58, 32, 121, 13, 10]⟩ : ByteArray) = some v ∧ sbytes v = lineF (rcF b) ++ ([13, 10] ++ (lineF xyF ++ [13, 10])) := by
  cases b <;> exact ⟨_, rfl, by kernel_rfl⟩
theorem hp_step (flips : List Bool) {n i : Nat} (hi : i < n) (hn : n ≤ 11) {A : List Int} {fs : List T_Field} (h : InvF (2 * i) A fs) (hk : fs.countP hopB = i) :
    ∃ A' fs', hpS flips (n : Int) (A, (i : Int)) = some (.inl (A', ((i + 1 : Nat) : Int))) ∧ InvF (2 * (i + 1)) A' fs' ∧ fs'.countP hopB = i + 1 := by
  have hA : A.length ≤ 200 * i := by
    obtain ⟨L, g1, _, _, _, g5, g6⟩ := h
    rw [g1, jn_len]; omega
  obtain ⟨b, hb⟩ : ∃ b : Bool, (cond ((decide ((i : Int) < (flips.length : Int))))
              ((ixO (i : Int) flips.length).bind fun v5 =>
              (getO flips v5).bind fun v6 =>
              some (.inl v6))
              (some (.inl false)) : Option (Bool ⊕ (ByteArray ⊕ (((List Int) × Int) ⊕ (((List Int)) ⊕ Bool))))) = some (.inl b) := by
    by_cases hf : i < flips.length
    · exact ⟨_, cnd_t (decide_eq_true (by omega)) (bnd (ixO_of hf) (bnd (getO_of hf) rfl))⟩
    · exact ⟨false, cnd_f (decide_eq_false (by omega)) rfl⟩
  obtain ⟨v, hv, hs⟩ := rc_cat b
  have hz1 : (rcF b).Name.size = 8 := by cases b <;> rfl
  have hz2 : (rcF b).Body.size = 2 := by cases b <;> rfl
  have i1 := inv_add (f := rcF b) h (rcN_ok b) (by cases b <;> exact of_decide_eq_true (by kernel_rfl)) (by omega) (by omega)
  have i2 := inv_add (f := xyF) i1 xyN_ok (of_decide_eq_true (by kernel_rfl)) (by decide) (by decide)
  refine ⟨_, _, ?_, i2, ?_⟩
  · unfold hpS
    refine cnd_t (decide_eq_true (by omega)) (bndL (s := rcN b) (bndL (s := b) hb (by cases b <;> rfl)) (bnd hv (bnd (x := (((A ++ lineF (rcF b)) ++ [13, 10]) ++ lineF xyF) ++ [13, 10]) ?_ (bnd (some_wrap (by omega) (by omega)) rfl))))
    have hlen : (sbytes v).length = 19 := by rw [hs]; cases b <;> rfl
    rw [app_of (by rw [hlen]; omega) (by rw [hlen]; omega), hs]
    simp only [List.append_assoc]
  · rw [List.countP_append, List.countP_append, hk]
    simp [rcH, xyH]
theorem hp_loop (flips : List Bool) {n : Nat} (hn : n ≤ 11) : ∀ (k i fuel : Nat) (A : List Int) (fs : List T_Field), n - i = k → i ≤ n → k < fuel → InvF (2 * i) A fs → fs.countP hopB = i →
    ∃ A' fs', loopF (hpS flips (n : Int)) fuel (A, (i : Int)) = some (.inl A') ∧ InvF (2 * n) A' fs' ∧ fs'.countP hopB = n := by
  intro k
  induction k with
  | zero =>
    intro i fuel A fs hk hi hf h hc
    obtain ⟨f, rfl⟩ : ∃ f, fuel = f + 1 := ⟨fuel - 1, by omega⟩
    have : i = n := by omega
    subst this
    exact ⟨A, fs, loop_exit (by unfold hpS; exact cnd_f (decide_eq_false (by omega)) rfl), h, hc⟩
  | succ k ih =>
    intro i fuel A fs hk hi hf h hc
    obtain ⟨f, rfl⟩ : ∃ f, fuel = f + 1 := ⟨fuel - 1, by omega⟩
    obtain ⟨A', fs', hs, h', hc'⟩ := hp_step flips (by omega) hn h hc
    obtain ⟨A2, fs2, hl, h3, h4⟩ := ih (i + 1) f A' fs' (by omega) (by omega) (by omega) h' hc'
    exact ⟨A2, fs2, by rw [loop_next hs]; exact hl, h3, h4⟩
theorem u64_12 (z : Int) : ∃ q : Nat, q < 12 ∧ remO (IntKind.u64.wrap z) 12 = some (q : Int) := by
  have h : IntKind.u64.wrap z = ((z % 18446744073709551616).toNat : Int) := by
    simp only [IntKind.wrap, IntKind.bits, IntKind.signed]
    have e : (2 : Int) ^ 64 = 18446744073709551616 := by decide
    simp only [e, Bool.false_and, Bool.false_eq_true, if_false]
    omega
  exact ⟨(z % 18446744073709551616).toNat % 12, Nat.mod_lt _ (by decide), by rw [h]; exact rem_nat _ 12 (by decide)⟩
theorem headHops_true (n : Int) (flips : List Bool) (at_ : Int) : wherrylaw15_HeadHops n flips at_ = some true := by
  unfold wherrylaw15_HeadHops
  obtain ⟨q, hq, hr⟩ := u64_12 n
  refine bnd rfl (bnd hr (bnd (some_wrap (by omega) (by omega)) ?_))
  obtain ⟨A, fs, hl, ⟨L, rfl, hcl, hyl, hsc, ht, hfl⟩, hcnt⟩ := hp_loop flips (n := q) (by omega) q 0 BIG [] [] (by omega) (by omega) (by unfold BIG; omega) ⟨[], rfl, fun l hl => by simp at hl, fun l hl => by simp at hl, fun t => rfl, by simp [tot], by simp⟩ rfl
  refine bndL hl ?_
  have hlast : sbytes (⟨#[13, 10, 82, 101, 99, 101, 105, 118, 101, 100, 58, 32, 122, 13, 10]⟩ : ByteArray) = jn [[], [82, 101, 99, 101, 105, 118, 101, 100, 58, 32, 122]] := by kernel_rfl
  have hc : ∀ l ∈ L ++ [[], [82, 101, 99, 101, 105, 118, 101, 100, 58, 32, 122]], cln l := fun l hl => by
    rcases List.mem_append.1 hl with hl | hl
    · exact hcl l hl
    · simp only [List.mem_cons, List.not_mem_nil, or_false] at hl
      rcases hl with rfl | rfl
      · exact fun x hx => by simp at hx
      · exact of_decide_eq_true (by kernel_rfl)
  have hy : ∀ l ∈ L ++ [[], [82, 101, 99, 101, 105, 118, 101, 100, 58, 32, 122]], byt l := fun l hl => by
    rcases List.mem_append.1 hl with hl | hl
    · exact hyl l hl
    · simp only [List.mem_cons, List.not_mem_nil, or_false] at hl
      rcases hl with rfl | rfl
      · exact fun x hx => by simp at hx
      · exact of_decide_eq_true (by kernel_rfl)
  have hh := hops_eq hc hy (by rw [tot_app]; simp only [tot, List.length_nil, List.length_cons]; omega)
  rw [hsc] at hh
  simp only [scn, stp_nil, hcnt, jn_app] at hh
  refine bnd (x := jn L ++ jn [[], [82, 101, 99, 101, 105, 118, 101, 100, 58, 32, 122]]) (by
    have hz : (sbytes (⟨#[13, 10, 82, 101, 99, 101, 105, 118, 101, 100, 58, 32, 122, 13, 10]⟩ : ByteArray)).length = 15 := by kernel_rfl
    rw [app_of (by rw [jn_len, hz]; omega) (by rw [jn_len, hz]; omega), hlast]) (bnd hh ?_)
  have w2 : head_Stamp (⟨#[97]⟩ : ByteArray) (⟨#[120]⟩ : ByteArray) 1099511627776 = some (([82, 101, 99, 101, 105, 118, 101, 100, 58, 32, 102, 114, 111, 109, 32, 97, 32, 98, 121, 32, 120, 32, 119, 105, 116, 104, 32, 69, 83, 77, 84, 80, 59, 32, 49, 48, 57, 57, 53, 49, 49, 54, 50, 55, 55, 55, 54, 13, 10] : List Int), 0) := by kernel_rfl
  have w3 : head_Stamp (⟨#[97]⟩ : ByteArray) (⟨#[120]⟩ : ByteArray) 1099511627777 = some ([], 1) := by kernel_rfl
  have w4 : head_Stamp (⟨#[97]⟩ : ByteArray) (⟨#[120]⟩ : ByteArray) (-1) = some ([], 1) := by kernel_rfl
  have w5 : head_Stamp (⟨#[97, 32, 98]⟩ : ByteArray) (⟨#[120]⟩ : ByteArray) 1 = some ([], 5) := by kernel_rfl
  refine bnd w5 (bnd w3 (bnd w2 (bnd w4 (bndL (s := true) (cnd_t rfl (cnd_t (by simp) (cnd_t rfl (cnd_t rfl (cnd_t rfl (cnd_t rfl (bnd rfl (cnd_t ?_ (bnd wakes15 rfl))))))))) rfl))))
  kernel_rfl
end Go.Abs.Sh
