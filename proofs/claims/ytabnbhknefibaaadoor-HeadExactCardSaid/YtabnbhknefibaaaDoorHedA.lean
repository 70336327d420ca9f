import Derived.Test.YtabnbhknefibaaaDoorDotH
import Derived.Test.YtabnbhknefibaaaDoorPatA
namespace Go.Abs.Sh
set_option linter.unusedVariables false
set_option linter.unusedSimpArgs false
theorem wakes15 : wherrylaw15_wakes = some true := by kernel_rfl
theorem pre15 (s p : ByteArray) (h : s.size < 4611686018427387904) (hp : p.size = 1) : ∃ r, strings_HasPrefix s p = some r := by
  unfold strings_HasPrefix internal_stringslite_HasPrefix
  by_cases hc : 1 ≤ s.size
  · refine ⟨_, bnd (bndL (cnd_t (decide_eq_true (by omega)) (bnd (x := bstr ((sbytes s).take 1)) ?_ rfl)) rfl) rfl⟩
    have := sub_of (s := s) (a := 0) (b := 1) (by omega) (by omega)
    rw [hp]
    simpa using this
  · exact ⟨_, bnd (bndL (cnd_f (decide_eq_false (by omega)) rfl) rfl) rfl⟩
theorem con_tot (s : ByteArray) (h : s.size < 4611686018427387904) : ∃ r, head_continues s = some r := by
  unfold head_continues
  obtain ⟨a, ha⟩ := pre15 s ⟨#[32]⟩ h rfl
  obtain ⟨b, hb⟩ := pre15 s ⟨#[9]⟩ h rfl
  cases a
  · exact ⟨_, bndL (bnd ha (cnd_f rfl (bnd hb rfl))) rfl⟩
  · exact ⟨_, bndL (bnd ha (cnd_t rfl rfl)) rfl⟩
theorem cut15 (s : ByteArray) (hs : s.size < 4611686018427387904) : ∃ v : ByteArray × ByteArray × Bool, strings_Cut s ⟨#[58]⟩ = some v ∧ v.1.size ≤ s.size ∧ v.2.1.size ≤ s.size := by
  unfold strings_Cut internal_stringslite_Cut
  have hI := sIndex (n := 58) (by omega) s
  cases hi : idx1 (58 : Nat) (sbytes s) with
  | none =>
    rw [hi] at hI
    exact ⟨(s, (⟨#[]⟩ : ByteArray), false), bnd (bnd hI (cnd_f rfl rfl)) rfl, Nat.le_refl _, Nat.zero_le _⟩
  | some e =>
    rw [hi] at hI
    obtain ⟨h1, _, _⟩ := idx1_some hi
    rw [sbytes_len] at h1
    have e1 : subO s 0 (e : Int) = some (bstr ((sbytes s).take e)) := by
      have := sub_of (s := s) (a := 0) (b := e) (by omega) (by omega)
      simpa using this
    have e2 : subO s ((e : Int) + 1) (s.size : Int) = some (bstr ((sbytes s).drop (e + 1))) := by
      have := sub_of (s := s) (a := e + 1) (b := s.size) (by omega) (by omega)
      rw [List.take_of_length_le (by simp [sbytes_len])] at this
      simpa using this
    have w2 : some (IntKind.i64.wrap ((e : Int) + ((⟨#[58]⟩ : ByteArray).size : Int))) = some ((e : Int) + 1) := by
      show some (IntKind.i64.wrap ((e : Int) + 1)) = _
      rw [wrap_i (by omega) (by omega)]
    refine ⟨(bstr ((sbytes s).take e), bstr ((sbytes s).drop (e + 1)), true), bnd (bnd hI (cnd_t (decide_eq_true (by show (0 : Int) ≤ (e : Int); omega)) (bnd e1 (bnd w2 (bnd e2 rfl))))) rfl, ?_, ?_⟩
    · rw [bstr_size, List.length_take, sbytes_len]; omega
    · rw [bstr_size, List.length_drop, sbytes_len]; omega
theorem chr_ex {s : ByteArray} {i : Nat} (hi : i < s.size) : ∃ c, chrO s (i : Int) = some c := ⟨_, chr_of hi⟩
theorem fst_tot (s : ByteArray) (hs : s.size < 4611686018427387904) : ∃ v : ByteArray × ByteArray × Bool, head_first s = some v ∧ v.2.1.size ≤ s.size := by
  obtain ⟨v, hv, h1, h2⟩ := cut15 s hs
  unfold head_first
  cases hb : v.2.2
  · exact ⟨_, bnd hv (bndL (s := true) (cnd_t (by rw [hb]; rfl) rfl) (cnd_t rfl rfl)), Nat.zero_le _⟩
  cases he : (v.1.toList == (⟨#[]⟩ : ByteArray).toList)
  case true => exact ⟨_, bnd hv (bndL (s := true) (cnd_f (by rw [hb]; rfl) (by rw [he])) (cnd_t rfl rfl)), Nat.zero_le _⟩
  have key := loop_all (R := ByteArray × ByteArray × Bool) (f := fun (s23 : Int) =>
            cond ((decide (s23 < (v.1.size : Int))))
              (bindS (S := Bool) (A := ((Int) ⊕ ((Unit) ⊕ (ByteArray × ByteArray × Bool))))
                ((chrO v.1 s23).bind fun v8 =>
                cond ((decide (v8 < 33)))
                  (some (.inl true))
                  ((chrO v.1 s23).bind fun v9 =>
                  some (.inl ((decide (126 < v9))))))
                (fun (s37 : Bool) =>
                  cond (s37)
                    (some (.inr (.inr (((⟨#[]⟩ : ByteArray), (⟨#[]⟩ : ByteArray), false)))))
                    ((some (IntKind.i64.wrap (s23 + 1))).bind fun v15 =>
                    some (.inl v15))) some)
              (some (.inr (.inl ())))) (fun i => match chrO v.1 (i : Int) with | some c => !(decide (c < 33) || decide (126 < c)) | none => false) v.1.size ((⟨#[]⟩ : ByteArray), (⟨#[]⟩ : ByteArray), false) (fuel := BIG) (by unfold BIG; omega)
    (fun i hi hp => by
      obtain ⟨c, hc⟩ := chr_ex hi
      rw [hc] at hp
      simp only [Bool.not_eq_true', Bool.or_eq_false_iff] at hp
      exact cnd_t (decide_eq_true (by omega)) (bndL (s := false) (bnd hc (cnd_f hp.1 (bnd hc (by rw [hp.2])))) (cnd_f rfl (bnd (some_wrap (by omega) (by omega)) rfl))))
    (fun i hi hp => by
      obtain ⟨c, hc⟩ := chr_ex hi
      rw [hc] at hp
      by_cases h33 : c < 33
      · exact cnd_t (decide_eq_true (by omega)) (bndL (s := true) (bnd hc (cnd_t (decide_eq_true h33) rfl)) (cnd_t rfl rfl))
      · have h126 : decide (126 < c) = true := by
          simp only [decide_eq_false h33, Bool.false_or, Bool.not_eq_false'] at hp
          exact hp
        exact cnd_t (decide_eq_true (by omega)) (bndL (s := true) (bnd hc (cnd_f (decide_eq_false h33) (bnd hc (by rw [h126])))) (cnd_t rfl rfl)))
    (cnd_f (decide_eq_false (by omega)) rfl)
  split at key
  · exact ⟨_, bnd hv (bndL (s := false) (cnd_f (by rw [hb]; rfl) (by rw [he])) (cnd_f rfl (bndL (s := ()) key rfl))), h2⟩
  · exact ⟨_, bnd hv (bndL (s := false) (cnd_f (by rw [hb]; rfl) (by rw [he])) (cnd_f rfl (bndR key rfl))), Nat.zero_le _⟩
end Go.Abs.Sh
