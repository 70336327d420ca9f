import Derived.Test.YtenfngliiibiiaaFrameK
namespace Go.Abs.Sh
set_option linter.unusedVariables false
set_option linter.unusedSimpArgs false

theorem wrap_u64 {n : Int} (h0 : 0 ≤ n) (h1 : n < 18446744073709551616) : IntKind.u64.wrap n = n := by
  simp only [IntKind.wrap, IntKind.bits, IntKind.signed]
  have e : (2 : Int) ^ 64 = 18446744073709551616 := by decide
  simp only [e, Bool.false_and, Bool.false_eq_true, if_false]
  omega
theorem wrap_u64_nn (n : Int) : 0 ≤ IntKind.u64.wrap n := by
  simp only [IntKind.wrap, IntKind.bits, IntKind.signed]
  have e : (2 : Int) ^ 64 = 18446744073709551616 := by decide
  simp only [e, Bool.false_and, Bool.false_eq_true, if_false]
  omega
theorem whole_length (f : T_Frame) : (whole f).length = 9 + f.Data.length := by simp [whole, body]; omega
theorem whole_six (f : T_Frame) : (whole f)[6]? = some (f.Data.length : Int) := by simp [whole, body]
theorem whole_bytes {f : T_Frame} (h : good f = true) (hb : isBytes f.Data) : isBytes (whole f) := by
  have hbo := body_bytes h hb
  have hs := sumOf_lt hbo
  intro n hn
  rcases List.mem_append.1 hn with hn | hn
  · exact hbo n hn
  · simp only [List.mem_cons, List.not_mem_nil, or_false] at hn
    rcases hn with hn | hn <;> omega

theorem bad_read (b : List Int) (hb : isBytes b) (hl : b.length ≤ 300) (h6 : ∀ m : Nat, b[6]? = some (m : Int) → b.length ≠ 9 + m) : ∃ x : T_Frame × Int, frame_Read b = some x ∧ (x.2 != 0) = true := by
  rcases read_cases b hb hl with h | h | ⟨k, _, _, _, hw⟩
  · exact ⟨_, h, rfl⟩
  · exact ⟨_, h, rfl⟩
  · exact absurd (by rw [← hw]; exact whole_length k) (h6 k.Data.length (by rw [← hw]; exact whole_six k))

theorem frameCuts_true (f : T_Frame) (cut more : Int) (hb : isBytes f.Data) (hm : 0 ≤ more ∧ more < 256) : wherrylaw20_FrameCuts f cut more = some true := by
  unfold wherrylaw20_FrameCuts
  by_cases l1 : 300 < f.Data.length
  · have e : decide (300 < (f.Data.length : Int)) = true := by simp; omega
    rw [e]; rfl
  have e1 : decide (300 < (f.Data.length : Int)) = false := by simp; omega
  rw [e1]
  simp only [cond_false]
  rcases bytes_cases f hb with ⟨gf, h⟩ | ⟨gf, h⟩
  case inr =>
    refine bnd h ?_
    refine bndL (s := true) rfl ?_
    simp only [cond_true]
    refine bndL (s := true) ?_ rfl
    simp only [show ((1 : Int) != 0) = true from rfl, cond_true]
    exact bnd wakes20 rfl
  refine bnd h ?_
  have hlen := whole_length f
  have h48 := (good_num gf).2.2.2.2
  have hwb := whole_bytes gf hb
  refine bndL (s := false) ?_ ?_
  · have : (((whole f).length : Int) == 0) = false := by rw [beq_eq_false_iff_ne]; omega
    simp only [show ((0 : Int) != 0) = false from rfl, cond_false, this]
  have w1 : IntKind.u64.wrap ((whole f).length : Int) = ((whole f).length : Int) := wrap_u64 (by omega) (by omega)
  have w0 : 0 ≤ IntKind.u64.wrap cut := wrap_u64_nn cut
  have hne : ((whole f).length : Int) ≠ 0 := by omega
  obtain ⟨k, hk, hklt⟩ : ∃ k : Nat, remO (IntKind.u64.wrap cut) ((whole f).length : Int) = some (k : Int) ∧ k < (whole f).length := by
    have hpos : (0 : Int) < ((whole f).length : Int) := by omega
    have h1 := Int.emod_nonneg (IntKind.u64.wrap cut) (show ((whole f).length : Int) ≠ 0 by omega)
    have h2 := Int.emod_lt_of_pos (IntKind.u64.wrap cut) hpos
    refine ⟨(IntKind.u64.wrap cut % ((whole f).length : Int)).toNat, ?_, by omega⟩
    simp only [remO]
    rw [if_neg (by omega), Int.tmod_eq_emod_of_nonneg w0, Int.toNat_of_nonneg h1]
  simp only [cond_false]
  have s1 : sliO (whole f) 0 (k : Int) = some ((whole f).take k) := by
    simp only [sliO]; rw [if_pos (by omega)]; simp
  have c1 : isBytes ((whole f).take k) := fun n hn => hwb n (List.mem_of_mem_take hn)
  have l2 : ((whole f).take k).length = k := by simp; omega
  obtain ⟨x, hx, hx0⟩ := bad_read ((whole f).take k) c1 (by omega) (by
    intro m hm6
    rw [List.getElem?_take] at hm6
    split at hm6
    · rw [whole_six] at hm6
      simp at hm6
      omega
    · cases hm6)
  have c2 : isBytes (whole f ++ [more]) := by
    intro n hn
    rcases List.mem_append.1 hn with hn | hn
    · exact hwb n hn
    · simp at hn; omega
  obtain ⟨y, hy, hy0⟩ := bad_read (whole f ++ [more]) c2 (by simp; omega) (by
    intro m hm6
    rw [List.getElem?_append_left (by omega), whole_six] at hm6
    simp at hm6
    simp; omega)
  refine bnd (x := IntKind.u64.wrap cut) rfl (bnd (x := ((whole f).length : Int)) (by rw [w1]) (bnd hk (bnd (x := (k : Int)) (by rw [wrap_i64 (by omega) (by omega)]) (bnd s1 (bnd hx (bnd (twin_eq (whole f) (by omega)) (bnd (app_of _ _ (by simp; omega)) (bnd hy ?_))))))))
  refine bndL (s := true) ?_ rfl
  rw [hx0, hy0]
  simp only [cond_true]
  exact bnd wakes20 rfl
end Go.Abs.Sh
