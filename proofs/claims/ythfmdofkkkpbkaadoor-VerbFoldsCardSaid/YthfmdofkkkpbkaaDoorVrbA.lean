import Derived.Test.YthfmdofkkkpbkaaDoorVrbB
namespace Go.Abs.Sh
set_option linter.unusedVariables false
set_option linter.unusedSimpArgs false
set_option maxRecDepth 100000
/-! What a command's line is. -/
theorem fmtP_two : ∀ qs : List T_Param, qs.length * 2 ≤ (fmtP qs).length ∧ ∀ q ∈ qs, q.Key.size ≤ (fmtP qs).length ∧ q.Val.size ≤ (fmtP qs).length
  | [] => ⟨by simp, fun q hq => by cases hq⟩
  | q :: qs => by
    have ih := fmtP_two qs
    have e : (fmtP (q :: qs)).length = (fq q).length + (fmtP qs).length + 1 := by
      rw [fmtP_cons, List.length_cons, List.length_append]
    have e2 : (fq q).length = q.Key.size + q.Val.size + 1 := by
      unfold fq; rw [List.length_append, List.length_cons, sbytes_len, sbytes_len]; omega
    refine ⟨by rw [List.length_cons]; omega, fun x hx => ?_⟩
    rcases List.mem_cons.1 hx with rfl | hx
    · omega
    · have := ih.2 x hx; omega
theorem light_text {k : Int} {t : List Int} (h : t.length ≤ 3000) : LightC ⟨k, bstr t, noP, []⟩ :=
  ⟨by rw [bstr_size]; exact h, Nat.zero_le _, Nat.zero_le _, Nat.zero_le _, fun q hq => by cases hq⟩
theorem light_box {k : Int} {r : List Int} {c : T_Cmd} (hr : r.all prB = true) (hl : r.length ≤ 510) (h : boxedL k r = some c) : LightC c := by
  obtain ⟨p, ps, _, rfl, hp, _, hlen, _, _⟩ := boxed_ok hr h
  rw [List.length_append] at hlen
  have h2 := fmtP_two ps
  have hpl : p.Local.size ≤ 510 ∧ p.Domain.size ≤ 510 := by
    cases hn : p.Null with
    | true =>
      unfold patB at hp
      rw [hn] at hp
      simp only [cond_true, Bool.and_eq_true, List.isEmpty_iff] at hp
      rw [← sbytes_len, ← sbytes_len, hp.1, hp.2]; simp
    | false =>
      have : (txtL p).length = p.Local.size + p.Domain.size + 3 := by
        unfold txtL; rw [hn]; simp [sbytes_len]; omega
      omega
  exact ⟨Nat.zero_le _, by simp only; omega, by simp only; omega, by simp only; omega, fun q hq => by have := h2.2 q hq; omega⟩
theorem light_cmd {l : List Int} {c : T_Cmd} (hr : l.all prB = true) (hl : l.length ≤ 510) (h : cmdL l = some c) : LightC c := by
  have hcl := cutW_len 32 l
  have ht : ∀ k, LightC ⟨k, bstr (cutW 32 l).2.1, noP, []⟩ := fun k => light_text (by omega)
  have he : ∀ k, LightC ⟨k, e0, noP, []⟩ := fun k => light_text (t := []) (by simp)
  unfold cmdL at h
  simp only at h
  split at h
  · cases hp : pfx (openW (kindL l)) l with
    | none => rw [hp] at h; cases h
    | some r =>
      rw [hp, Option.bind_some] at h
      obtain ⟨a, e, _, _⟩ := pfx_some hp
      refine light_box ?_ ?_ h
      · rw [e, List.all_append, Bool.and_eq_true] at hr; exact hr.2
      · rw [e, List.length_append] at hl; omega
  split at h
  · split at h
    · cases h; exact ht _
    · cases h
  split at h
  · split at h
    · cases h
    · cases h; exact ht _
  split at h
  · split at h
    · cases h
    · cases h; exact ht _
  split at h
  · split at h
    · cases h; exact he _
    · cases h
  split at h
  · cases h; exact he _
  split at h
  · cases h
  · cases h; exact he _
theorem light_of {l : List Int} {c : T_Cmd} (h : vparse l = (c, 0)) : LightC c := by
  obtain ⟨hl, hp, _, _, hc⟩ := vparse_ok' h
  exact light_cmd hp hl hc
end Go.Abs.Sh
