import Derived.Test.YtabnbhknefibaaaDoorHedG
import Derived.Test.YtabnbhknefibaaaDoorDigM
namespace Go.Abs.Sh
set_option linter.unusedVariables false
set_option linter.unusedSimpArgs false
def recN : ByteArray := ⟨#[82, 101, 99, 101, 105, 118, 101, 100]⟩
def dgs (n : Nat) : List Int := dgA 12 n []
def stB (helo site : ByteArray) (n : Nat) : List Int := [32, 102, 114, 111, 109, 32] ++ (sbytes helo ++ ([32, 98, 121, 32] ++ (sbytes site ++ ([32, 119, 105, 116, 104, 32, 69, 83, 77, 84, 80, 59, 32] ++ dgs n))))
def stF (helo site : ByteArray) (n : Nat) : T_Field := ⟨recN, bstr (stB helo site n)⟩
theorem dgs_of {n : Nat} (h : n ≤ 1099511627776) : (∀ x ∈ dgs n, dig1 x) ∧ (dgs n).length ≤ 13 := by
  obtain ⟨t, e, h1, _, h3⟩ := dgA_ok 12 n [] (Nat.lt_of_le_of_lt h (by decide))
  have : dgs n = t := by unfold dgs; rw [e, List.append_nil]
  rw [this]; exact ⟨h1, h3⟩
theorem byt_dgs {n : Nat} (h : n ≤ 1099511627776) : byt (dgs n) := fun x hx => by
  have := (dgs_of h).1 x hx
  unfold dig1 at this
  omega
theorem byt_stB (helo site : ByteArray) {n : Nat} (h : n ≤ 1099511627776) : byt (stB helo site n) :=
  byt_app (of_decide_eq_true (by kernel_rfl)) (byt_app (byt_sbytes _) (byt_app (of_decide_eq_true (by kernel_rfl)) (byt_app (byt_sbytes _) (byt_app (of_decide_eq_true (by kernel_rfl)) (byt_dgs h)))))
theorem len_stB (helo site : ByteArray) {n : Nat} (h : n ≤ 1099511627776) : (stB helo site n).length ≤ helo.size + site.size + 36 := by
  have := (dgs_of h).2
  simp only [stB, List.length_append, sbytes_len, List.length_cons, List.length_nil]
  omega
theorem sb_stF (helo site : ByteArray) {n : Nat} (h : n ≤ 1099511627776) : sbytes (stF helo site n).Body = stB helo site n := sbytes_bstr (byt_stB helo site h)
theorem line_stF (helo site : ByteArray) {n : Nat} (h : n ≤ 1099511627776) : lineF (stF helo site n) = [82, 101, 99, 101, 105, 118, 101, 100] ++ 58 :: stB helo site n := by
  unfold lineF
  rw [sb_stF helo site h]
  rfl
theorem stamp_bytes {helo site : ByteArray} {n : Nat} (h : n ≤ 1099511627776) : sbytes (((((((⟨#[82, 101, 99, 101, 105, 118, 101, 100, 58, 32, 102, 114, 111, 109, 32]⟩ : ByteArray) ++ helo) ++ (⟨#[32, 98, 121, 32]⟩ : ByteArray)) ++ site) ++ (⟨#[32, 119, 105, 116, 104, 32, 69, 83, 77, 84, 80, 59, 32]⟩ : ByteArray)) ++ bstr (dgs n)) ++ (⟨#[13, 10]⟩ : ByteArray)) = lineF (stF helo site n) ++ [13, 10] := by
  have ha : ∀ s t : ByteArray, sbytes (s ++ t) = sbytes s ++ sbytes t := fun s t => by simp [sbytes]
  rw [line_stF helo site h]
  have cA : sbytes (⟨#[82, 101, 99, 101, 105, 118, 101, 100, 58, 32, 102, 114, 111, 109, 32]⟩ : ByteArray) = [82, 101, 99, 101, 105, 118, 101, 100, 58, 32, 102, 114, 111, 109, 32] := by kernel_rfl
  have cB : sbytes (⟨#[32, 98, 121, 32]⟩ : ByteArray) = [32, 98, 121, 32] := by kernel_rfl
  have cC : sbytes (⟨#[32, 119, 105, 116, 104, 32, 69, 83, 77, 84, 80, 59, 32]⟩ : ByteArray) = [32, 119, 105, 116, 104, 32, 69, 83, 77, 84, 80, 59, 32] := by kernel_rfl
  have cD : sbytes (⟨#[13, 10]⟩ : ByteArray) = [13, 10] := by kernel_rfl
  simp only [ha, sbytes_bstr (byt_dgs h), stB, List.append_assoc, cA, cB, cC, cD, List.cons_append, List.nil_append]
theorem ct15 {s t : ByteArray} (h : s.size + t.size ≤ 9000000) : catO s t = some (s ++ t) := by unfold catO; rw [if_pos (by omega)]
theorem stamp_eq (helo site : ByteArray) (at_ : Int) (h1 : helo.size ≤ 1000000) (h2 : site.size ≤ 1000000) : head_Stamp helo site at_ = some (if domB (sbytes helo) = true ∧ domB (sbytes site) = true then (if 0 ≤ at_ ∧ at_ ≤ 1099511627776 then (lineF (stF helo site at_.toNat) ++ [13, 10], 0) else ([], 1)) else ([], 5)) := by
  have d1 := dom_eq helo (by omega)
  have d2 := dom_eq site (by omega)
  unfold head_Stamp
  cases b1 : domB (sbytes helo)
  · rw [b1] at d1
    rw [if_neg (by simp)]
    exact bndL (s := true) (bnd d1 (cnd_t rfl rfl)) (cnd_t rfl rfl)
  cases b2 : domB (sbytes site)
  · rw [b1] at d1
    rw [b2] at d2
    rw [if_neg (by simp)]
    exact bndL (s := true) (bnd d1 (cnd_f rfl (bnd d2 rfl))) (cnd_t rfl rfl)
  rw [b1] at d1
  rw [b2] at d2
  rw [if_pos ⟨rfl, rfl⟩]
  refine bndL (s := false) (bnd d1 (cnd_f rfl (bnd d2 rfl))) (cnd_f rfl ?_)
  by_cases h0 : at_ < 0
  · rw [if_neg (by omega)]
    exact bndL (s := true) (cnd_t (decide_eq_true h0) rfl) (cnd_t rfl rfl)
  by_cases hM : 1099511627776 < at_
  · rw [if_neg (by omega)]
    exact bndL (s := true) (cnd_f (decide_eq_false h0) (by rw [decide_eq_true hM])) (cnd_t rfl rfl)
  rw [if_pos (by omega)]
  obtain ⟨n, rfl⟩ : ∃ n : Nat, at_ = (n : Int) := ⟨at_.toNat, by omega⟩
  have hn : n ≤ 1099511627776 := by omega
  rw [Int.toNat_natCast]
  have hd := (dgs_of hn).2
  refine bndL (s := false) (cnd_f (decide_eq_false h0) (by rw [decide_eq_false hM])) (cnd_f rfl ?_)
  have zA : (⟨#[82, 101, 99, 101, 105, 118, 101, 100, 58, 32, 102, 114, 111, 109, 32]⟩ : ByteArray).size = 15 := rfl
  have zB : (⟨#[32, 98, 121, 32]⟩ : ByteArray).size = 4 := rfl
  have zC : (⟨#[32, 119, 105, 116, 104, 32, 69, 83, 77, 84, 80, 59, 32]⟩ : ByteArray).size = 13 := rfl
  have zD : (⟨#[13, 10]⟩ : ByteArray).size = 2 := rfl
  have zE : (bstr (dgs n)).size ≤ 13 := by rw [bstr_size]; exact hd
  refine bnd (ct15 (by omega)) (bnd (ct15 (by rw [ByteArray.size_append]; omega)) (bnd (ct15 (by rw [ByteArray.size_append, ByteArray.size_append]; omega)) (bnd (ct15 (by rw [ByteArray.size_append, ByteArray.size_append, ByteArray.size_append]; omega)) (bnd (itoa_eq 12 n (Nat.lt_of_le_of_lt hn (by decide)) (by omega)) (bnd (ct15 (by rw [ByteArray.size_append, ByteArray.size_append, ByteArray.size_append, ByteArray.size_append]; show _ + (bstr (dgs n)).size ≤ _; omega)) (bnd (ct15 (by rw [ByteArray.size_append, ByteArray.size_append, ByteArray.size_append, ByteArray.size_append, ByteArray.size_append]; show _ + _ + _ + _ + _ + (bstr (dgs n)).size + _ ≤ _; omega)) (bnd rfl ?_)))))))
  exact congrArg (fun l => some (l, (0 : Int))) (stamp_bytes hn)
theorem len_line {helo site : ByteArray} {n : Nat} (h : n ≤ 1099511627776) : (lineF (stF helo site n)).length ≤ helo.size + site.size + 45 := by
  have := len_stB helo site h
  rw [line_stF helo site h]
  simp only [List.length_append, List.length_cons, List.length_nil]
  omega
theorem byt_of_wz {l : List Int} (h : wzL 1 (wfI .u8) l) : byt l := byt_of_wf ⟨by have := h.1; simp only [reachBytes] at this; simp only [maxLen]; omega, h.2⟩
end Go.Abs.Sh
