import Derived.Test.YthfmdofkkkpbkaaGreatDoorPatH
import Derived.Test.YthfmdofkkkpbkaaGreatDoorPatG
namespace Go.Abs.Sh
set_option linter.unusedVariables false
set_option linter.unusedSimpArgs false
theorem txt_par {l : List Int} {p : T_Path} (hb : byt l) (h : parL l = some p) : txtL p = l ∧ patB p = true := by
  unfold parL at h
  split at h
  · rename_i e
    cases h
    exact ⟨e.symm, rfl⟩
  · rcases mid_cases l with ⟨m, hm, hmid⟩ | hmid
    · rw [hmid] at h
      simp only [boxL] at h
      cases hi : idx1 64 m with
      | none => rw [hi] at h; cases h
      | some e =>
        rw [hi] at h
        dsimp only at h
        split at h
        · rename_i hp
          cases h
          obtain ⟨h1, h2, h3⟩ := idx1_some hi
          have hbm : byt m := by
            rw [hm] at hb
            intro x hx
            exact hb x (by simp [hx])
          refine ⟨?_, hp⟩
          unfold txtL
          simp only [cond_false]
          rw [sbytes_bstr (byt_take hbm _), sbytes_bstr (byt_drop hbm _), hm]
          conv => rhs; rw [h2]
          simp
        · cases h
    · rw [hmid] at h; cases h
theorem txt_len (p : T_Path) : (txtL p).length ≤ p.Local.size + p.Domain.size + 3 := by
  unfold txtL
  cases p.Null
  · simp [sbytes_len]; omega
  · simp
end Go.Abs.Sh
