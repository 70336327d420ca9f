import Derived.Test.YthfmdofkkkpbkaaDoorPatC
import Derived.Test.YthfmdofkkkpbkaaDoorVrbX
namespace Go.Abs.Sh
set_option linter.unusedVariables false
set_option linter.unusedSimpArgs false
set_option maxRecDepth 100000

def vfy : List Int := [86, 82, 70, 89, 32]
theorem byt_line (d : Int) (hd : 33 ≤ d ∧ d ≤ 126) (k : Nat) : byt (vfy ++ List.replicate k d) := by
  intro x hx
  rcases List.mem_append.1 hx with h | h
  · simp only [vfy, List.mem_cons, List.not_mem_nil, or_false] at h; omega
  · rw [(List.mem_replicate.1 h).2]; omega
theorem verb_wakes : wherrylaw12_wakes = some true := by kernel_rfl
theorem line_size (d : Int) (k : Nat) : (bstr (vfy ++ List.replicate k d)).size = k + 5 := by
  rw [bstr_size]; simp [vfy]
theorem line_print (d : Int) (hd : 33 ≤ d ∧ d ≤ 126) (k : Nat) (hk : k ≤ 1000) : verb_printable (bstr (vfy ++ List.replicate k d)) = some true := by
  have hb := byt_line d hd k
  unfold verb_printable
  rw [line_size]
  refine bndL (s := ()) (loop_from (fun i => (i : Int)) (k + 5) _ rfl (by simp only [BIG]; omega) (fun i hi => ?_) ?_) rfl
  · refine cnd_t (decide_eq_true (by omega)) ?_
    have hs : i < (bstr (vfy ++ List.replicate k d)).size := by rw [line_size]; exact hi
    have hc := chr_of hs
    have hall : ∀ x ∈ sbytes (bstr (vfy ++ List.replicate k d)), 32 ≤ x ∧ x ≤ 126 := by
      rw [sbytes_bstr hb]
      intro x hx
      rcases List.mem_append.1 hx with h | h
      · simp only [vfy, List.mem_cons, List.not_mem_nil, or_false] at h; omega
      · rw [(List.mem_replicate.1 h).2]; omega
    obtain ⟨x, hx1, hx2⟩ : ∃ x, (sbytes (bstr (vfy ++ List.replicate k d)))[i]'(by rw [sbytes_len]; exact hs) = x ∧ (32 ≤ x ∧ x ≤ 126) := ⟨_, rfl, hall _ (List.getElem_mem _)⟩
    rw [hx1] at hc
    refine bndL (s := false) (bnd hc (cnd_f (decide_eq_false (by omega)) (bnd hc (by rw [decide_eq_false (by omega)])))) (cnd_f rfl (bnd (some_wrap (by omega) (by omega)) rfl))
  · exact cnd_f (decide_eq_false (by omega)) rfl
theorem line_cut (d : Int) (hd : 33 ≤ d ∧ d ≤ 126) (k : Nat) (hk : k ≤ 1000) : strings_Cut (bstr (vfy ++ List.replicate k d)) (⟨#[32]⟩ : ByteArray) = some (bstr [86, 82, 70, 89], bstr (List.replicate k d), true) := by
  have := cut_eq (n := 32) (by decide) (bstr (vfy ++ List.replicate k d)) (by rw [line_size]; omega)
  rw [sbytes_bstr (byt_line d hd k)] at this
  have hi : idx1 ((32 : Nat) : Int) (vfy ++ List.replicate k d) = some 4 := idx1_app (p := [86, 82, 70, 89]) (by decide)
  rw [hi] at this
  exact this
theorem vrfy_fold : path_Fold (bstr [86, 82, 70, 89]) = some (bstr [118, 114, 102, 121]) := by kernel_rfl
theorem line_kind (d : Int) (hd : 33 ≤ d ∧ d ≤ 126) (k : Nat) (hk : k ≤ 1000) : verb_kindOf (bstr (vfy ++ List.replicate k d)) = some 6 := by
  unfold verb_kindOf
  refine bnd (line_cut d hd k hk) (bnd vrfy_fold ?_)
  refine Eq.trans (b := some 6) ?_ rfl
  kernel_rfl
theorem auth_no : verb_equalFold (bstr [86, 82, 70, 89, 32]) (⟨#[65, 85, 84, 72, 32]⟩ : ByteArray) = some false := by kernel_rfl
theorem line_mech (d : Int) (hd : 33 ≤ d ∧ d ≤ 126) (k : Nat) (hk : k ≤ 1000) : verb_otherMechanism (bstr (vfy ++ List.replicate k d)) = some false := by
  unfold verb_otherMechanism
  have hc : verb_cutFold (bstr (vfy ++ List.replicate k d)) (⟨#[65, 85, 84, 72, 32]⟩ : ByteArray) = some ((⟨#[]⟩ : ByteArray), false) := by
    unfold verb_cutFold
    have h5 : ((⟨#[65, 85, 84, 72, 32]⟩ : ByteArray).size : Int) = ((5 : Nat) : Int) := rfl
    rw [h5, line_size]
    have hs := sub_of (s := bstr (vfy ++ List.replicate k d)) (a := 0) (b := 5) (by omega) (by rw [line_size]; omega)
    rw [sbytes_bstr (byt_line d hd k)] at hs
    refine bndL (s := true) (cnd_f (decide_eq_false (by omega)) (bnd (x := bstr [86, 82, 70, 89, 32]) hs (bnd auth_no rfl))) (cnd_t rfl rfl)
  refine bnd hc (bndL (s := true) (cnd_t rfl rfl) (cnd_t rfl rfl))
def nopath : T_Path := T_Path.mk false (⟨#[]⟩ : ByteArray) (⟨#[]⟩ : ByteArray)
theorem line_parse (d : Int) (hd : 33 ≤ d ∧ d ≤ 126) (k : Nat) (h0 : 0 < k) (hk : k ≤ 505) : verb_Parse (bstr (vfy ++ List.replicate k d)) = some (T_Cmd.mk 6 (bstr (List.replicate k d)) nopath [], 0) := by
  unfold verb_Parse
  have hne : ((bstr (List.replicate k d)).toList == (⟨#[]⟩ : ByteArray).toList) = false := by
    rw [toList_beq]
    refine decide_eq_false fun e => ?_
    have := congrArg ByteArray.size e
    rw [bstr_size, List.length_replicate] at this
    have z : (⟨#[]⟩ : ByteArray).size = 0 := rfl
    omega
  have hcmd : verb_command (bstr (vfy ++ List.replicate k d)) = some (T_Cmd.mk 6 (bstr (List.replicate k d)) nopath [], true) := by
    unfold verb_command
    refine bnd (line_cut d hd k (by omega)) (bnd (line_kind d hd k (by omega)) ?_)
    refine bndL (s := false) (cnd_f rfl rfl) (cnd_f rfl ?_)
    refine bndL (s := false) (cnd_f rfl rfl) (cnd_f rfl (cnd_t rfl ?_))
    simp only [hne]
    rfl
  refine bndL (s := false) (cnd_f (decide_eq_false (by rw [line_size]; omega)) (bnd (line_print d hd k (by omega)) (cnd_f rfl (bnd (line_kind d hd k (by omega)) rfl)))) (cnd_f rfl ?_)
  refine bnd (line_mech d hd k (by omega)) (cnd_f rfl (bnd hcmd (cnd_f rfl rfl)))
theorem line_text (d : Int) (hd : 33 ≤ d ∧ d ≤ 126) (k : Nat) (h0 : 0 < k) (hk : k ≤ 505) : verb_Text (T_Cmd.mk 6 (bstr (List.replicate k d)) nopath []) = some (bstr (vfy ++ List.replicate k d), 0) := by
  unfold verb_Text
  have hbr : byt (List.replicate k d) := fun x hx => by rw [(List.mem_replicate.1 hx).2]; omega
  have hf : verb_format (T_Cmd.mk 6 (bstr (List.replicate k d)) nopath []) = some (bstr (vfy ++ List.replicate k d)) := by
    unfold verb_format
    refine cnd_f rfl (bndL (s := false) (cnd_f rfl rfl) (cnd_f rfl (cnd_f rfl (cnd_f rfl (cnd_t rfl ?_)))))
    have hc := cat_of (s := (⟨#[86, 82, 70, 89, 32]⟩ : ByteArray)) (t := bstr (List.replicate k d)) (by rw [bstr_size, List.length_replicate]; have : (⟨#[86, 82, 70, 89, 32]⟩ : ByteArray).size = 5 := rfl; omega)
    rw [sbytes_bstr hbr] at hc
    exact bnd hc rfl
  have hsame : verb_same (T_Cmd.mk 6 (bstr (List.replicate k d)) nopath []) (T_Cmd.mk 6 (bstr (List.replicate k d)) nopath []) = some true := by
    unfold verb_same
    refine bndL (s := true) (cnd_t rfl (cnd_t (by simp) (cnd_t (by simp) (bnd (x := true) (by kernel_rfl) rfl)))) rfl
  refine bnd hf (bnd (line_parse d hd k h0 hk) (bndL (s := false) (cnd_f rfl (bnd hsame rfl)) (cnd_f rfl rfl)))
theorem verbLong_true (over c : Int) : wherrylaw12_VerbLong over c = some true := by
  unfold wherrylaw12_VerbLong
  obtain ⟨_, q, hq, hr⟩ := u64_n over 2 (by decide) (by decide)
  refine bnd rfl (bnd hr (bnd (some_wrap (by omega) (by omega)) ?_))
  obtain ⟨d, hd, hs9⟩ : ∃ d : Int, (33 ≤ d ∧ d ≤ 126) ∧ (bindS (S := Bool) (A := (Int ⊕ Bool))
      (cond ((decide (c < 33)))
        (some (.inl true))
        (some (.inl ((decide (126 < c))))))
      (fun (s13 : Bool) =>
        cond (s13)
          (some (.inl 120))
          (some (.inl c))) some : Option (Int ⊕ Bool)) = some (.inl d) := by
    by_cases h1 : c < 33
    · exact ⟨120, by decide, bndL (s := true) (cnd_t (decide_eq_true h1) rfl) rfl⟩
    · by_cases h2 : 126 < c
      · exact ⟨120, by decide, bndL (s := true) (cnd_f (decide_eq_false h1) (by rw [decide_eq_true h2])) rfl⟩
      · exact ⟨c, by omega, bndL (s := false) (cnd_f (decide_eq_false h1) (by rw [decide_eq_false h2])) rfl⟩
  refine bndL hs9 ?_
  have hb1 : byt [d] := fun x hx => by simp only [List.mem_cons, List.not_mem_nil, or_false] at hx; omega
  refine bndL (s := bstr (vfy ++ List.replicate (505 + q) d)) (loop_from (fun i => bstr (vfy ++ List.replicate i d)) (505 + q) _ rfl (by simp only [BIG]; omega) (fun i hi => ?_) ?_) ?_
  · refine bnd (some_wrap (by omega) (by omega)) (cnd_t (decide_eq_true (by rw [line_size]; omega)) (bnd rfl ?_))
    have hc := cat_of (s := bstr (vfy ++ List.replicate i d)) (t := bstr [d]) (by rw [line_size, bstr_size]; simp; omega)
    rw [sbytes_bstr (byt_line d hd i), sbytes_bstr hb1] at hc
    refine bnd hc ?_
    rw [List.append_assoc, ← List.replicate_succ']
  · exact bnd (some_wrap (by omega) (by omega)) (cnd_f (decide_eq_false (by rw [line_size]; omega)) rfl)
  · have h01 : q = 0 ∨ q = 1 := by omega
    rcases h01 with rfl | rfl
    · refine bnd (line_parse d hd 505 (by decide) (by decide)) (cnd_f rfl (bnd (line_text d hd 505 (by decide) (by decide)) ?_))
      refine bndL (s := true) (cnd_t rfl (cnd_t rfl (cnd_t ?_ (cnd_t rfl (cnd_t (by simp) (bnd verb_wakes rfl)))))) rfl
      rw [bstr_size, List.length_replicate]; rfl
    · have hp : verb_Parse (bstr (vfy ++ List.replicate 506 d)) = some (T_Cmd.mk 0 (⟨#[]⟩ : ByteArray) nopath [], 500) := by
        unfold verb_Parse
        exact bndL (s := true) (cnd_t (decide_eq_true (by rw [line_size]; decide)) rfl) (cnd_t rfl rfl)
      refine bnd hp (cnd_t rfl (bndL (s := true) (cnd_t rfl (bnd (x := true) (by kernel_rfl) (cnd_t rfl (bnd verb_wakes rfl)))) rfl))
end Go.Abs.Sh
