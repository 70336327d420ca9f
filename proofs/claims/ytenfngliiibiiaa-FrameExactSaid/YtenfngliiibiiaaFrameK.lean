import Derived.Test.YtenfngliiibiiaaFrameR
namespace Go.Abs.Sh
set_option linter.unusedVariables false
set_option linter.unusedSimpArgs false

theorem read_whole {f : T_Frame} (h : good f = true) (hb : isBytes f.Data) : frame_Read (whole f) = some (f, 0) := by
  obtain ⟨h1, h2, h3, h4, h5⟩ := good_num h
  have hbo := body_bytes h hb
  have hs := sumOf_lt hbo
  have := read_eq f.Kind (f.Number / 256) (f.Number % 256) (f.Offset / 256) (f.Offset % 256) f.Seq (f.Data.length : Int) f.Data (sumOf (body f) % 256) (sumOf (body f) / 256) hbo (by omega) (by omega) h5
  have e1 : f.Number / 256 * 256 + f.Number % 256 = f.Number := by omega
  have e2 : f.Offset / 256 * 256 + f.Offset % 256 = f.Offset := by omega
  rw [e1, e2] at this
  have e3 : T_Frame.mk f.Kind f.Number f.Offset f.Seq f.Data = f := rfl
  rw [e3, h] at this
  refine this.trans ?_
  rw [if_neg, if_neg]
  · simp
  · show ¬ (sumOf (body f) ≠ _)
    omega

theorem read_cases (b : List Int) (hb : isBytes b) (hl : b.length ≤ 300) : frame_Read b = some (zeroF, 3) ∨ frame_Read b = some (zeroF, 6) ∨ ∃ h, good h = true ∧ isBytes h.Data ∧ frame_Read b = some (h, 0) ∧ whole h = b := by
  by_cases h9 : b.length < 9
  · left
    unfold frame_Read
    have c1 : decide ((b.length : Int) < 9) = true := by simp; omega
    rw [c1]; rfl
  by_cases h57 : 57 < b.length
  · left
    unfold frame_Read
    have c1 : decide ((b.length : Int) < 9) = false := by simp; omega
    have c2 : decide (57 < (b.length : Int)) = true := by simp; omega
    rw [c1, c2]; rfl
  have hsplit : b = b.take (b.length - 2) ++ b.drop (b.length - 2) := (List.take_append_drop _ _).symm
  obtain ⟨q0, q1, hq⟩ : ∃ q0 q1, b.drop (b.length - 2) = [q0, q1] := by
    have : (b.drop (b.length - 2)).length = 2 := by simp; omega
    match b.drop (b.length - 2), this with
    | [x, y], _ => exact ⟨x, y, rfl⟩
  obtain ⟨a0, a1, a2, a3, a4, a5, a6, d, hp⟩ : ∃ a0 a1 a2 a3 a4 a5 a6 d, b.take (b.length - 2) = a0 :: a1 :: a2 :: a3 :: a4 :: a5 :: a6 :: d := by
    have : 7 ≤ (b.take (b.length - 2)).length := by simp; omega
    match b.take (b.length - 2), this with
    | x0 :: x1 :: x2 :: x3 :: x4 :: x5 :: x6 :: d, _ => exact ⟨_, _, _, _, _, _, _, _, rfl⟩
  have hd : d.length ≤ 48 := by
    have := congrArg List.length hp
    simp at this; omega
  rw [hp, hq] at hsplit
  have hpb : isBytes (a0 :: a1 :: a2 :: a3 :: a4 :: a5 :: a6 :: d) := fun n hn => hb n (by rw [hsplit]; exact List.mem_append_left _ hn)
  have hq0 := hb q0 (by rw [hsplit]; simp)
  have hq1 := hb q1 (by rw [hsplit]; simp)
  have hr := read_eq a0 a1 a2 a3 a4 a5 a6 d q0 q1 hpb hq0 hq1 hd
  rw [← hsplit] at hr
  split at hr
  · exact .inr (.inl hr)
  split at hr
  · exact .inl hr
  · rename_i hs hg
    refine .inr (.inr ⟨_, ?_, ?_, hr, ?_⟩)
    · cases hgg : good (T_Frame.mk a0 (a1 * 256 + a2) (a3 * 256 + a4) a5 d)
      · exact absurd (.inr hgg) hg
      · rfl
    · exact fun n hn => hpb n (by simp [hn])
    · have k1 := hpb a1 (by simp)
      have k2 := hpb a2 (by simp)
      have k3 := hpb a3 (by simp)
      have k4 := hpb a4 (by simp)
      have h6 : a6 = (d.length : Int) := by
        apply Classical.byContradiction
        intro h; exact hg (.inl h)
      have hbody : body (T_Frame.mk a0 (a1 * 256 + a2) (a3 * 256 + a4) a5 d) = a0 :: a1 :: a2 :: a3 :: a4 :: a5 :: a6 :: d := by
        simp only [body]
        rw [show (a1 * 256 + a2) / 256 = a1 by omega, show (a1 * 256 + a2) % 256 = a2 by omega, show (a3 * 256 + a4) / 256 = a3 by omega, show (a3 * 256 + a4) % 256 = a4 by omega, ← h6]
        rfl
      have hsum : sumOf (a0 :: a1 :: a2 :: a3 :: a4 :: a5 :: a6 :: d) = q1 * 256 + q0 := by
        apply Classical.byContradiction
        intro h; exact hs h
      unfold whole
      rw [hbody, hsum, show (q1 * 256 + q0) % 256 = q0 by omega, show (q1 * 256 + q0) / 256 = q1 by omega]
      exact hsplit.symm

theorem bytes_cases (f : T_Frame) (hb : isBytes f.Data) : (good f = true ∧ frame_Bytes f = some (whole f, 0)) ∨ (good f = false ∧ frame_Bytes f = some ([], 1)) := by
  cases h : good f
  · exact .inr ⟨rfl, bytes_bad f h⟩
  · exact .inl ⟨rfl, bytes_good h hb⟩

theorem whole_len {f : T_Frame} (h : good f = true) : (whole f).length < 4294967296 := by
  have := (good_num h).2.2.2.2
  simp [whole, body]; omega

theorem frameBack_true (f g : T_Frame) (b : List Int) (hf : isBytes f.Data) (hg : isBytes g.Data) (hb : isBytes b) : wherrylaw20_FrameBack f g b = some true := by
  unfold wherrylaw20_FrameBack
  by_cases l1 : 300 < f.Data.length
  · have e : decide (300 < (f.Data.length : Int)) = true := by simp; omega
    rw [e]; rfl
  have e1 : decide (300 < (f.Data.length : Int)) = false := by simp; omega
  by_cases l2 : 300 < g.Data.length
  · have e : decide (300 < (g.Data.length : Int)) = true := by simp; omega
    rw [e1, e]; rfl
  have e2 : decide (300 < (g.Data.length : Int)) = false := by simp; omega
  by_cases l3 : 300 < b.length
  · have e : decide (300 < (b.length : Int)) = true := by simp; omega
    rw [e1, e2, e]; rfl
  have e3 : decide (300 < (b.length : Int)) = false := by simp; omega
  rw [e1, e2, e3]
  refine bndL (s := false) rfl ?_
  simp only [cond_false]
  obtain ⟨x, ex⟩ : ∃ x, frame_Bytes f = some x := by rcases bytes_cases f hf with h | h <;> exact ⟨_, h.2⟩
  obtain ⟨y, ey⟩ : ∃ y, frame_Bytes g = some y := by rcases bytes_cases g hg with h | h <;> exact ⟨_, h.2⟩
  refine bnd ex (bnd ey ?_)
  have hf4 : f.Data.length < 4294967296 := by omega
  refine bndL (s := ()) ?_ ?_
  · rcases bytes_cases f hf with ⟨gf, h⟩ | ⟨gf, h⟩
    · rw [h] at ex; cases ex
      simp only [beq_self_eq_true, cond_true]
      refine bnd (read_whole gf hf) ?_
      refine bndL (s := false) ?_ rfl
      have z : ((0 : Int) != 0) = false := rfl
      simp only [z, cond_false]
      refine bnd (keepFrame_eq f f hf4) ?_
      simp only [decide_true, Bool.not_true, cond_false]
      rcases bytes_cases g hg with ⟨gg, h'⟩ | ⟨gg, h'⟩
      · rw [h'] at ey; cases ey
        simp only [beq_self_eq_true, cond_true]
        refine bnd (keepBytes_eq _ _ (whole_len gf)) (bnd (keepFrame_eq f g hf4) ?_)
        have hiff : decide (whole f = whole g) = decide (f = g) := by
          by_cases hfg : f = g
          · simp [hfg]
          · have : ¬ whole f = whole g := fun e => hfg (by
              have r1 := read_whole gf hf
              rw [e, read_whole gg hg] at r1
              simp at r1; exact r1.symm)
            simp [hfg, this]
        rw [hiff]
        simp
      · rw [h'] at ey; cases ey
        rfl
    · rw [h] at ex; cases ex
      rfl
  · rcases read_cases b hb (by omega) with h | h | ⟨k, gk, kb, h, hw⟩
    · refine bnd h ?_
      have hz := keepFrame_eq zeroF zeroF (by simp [zeroF])
      have hz' : wherrykeep_Frame zeroF (T_Frame.mk 0 0 0 0 []) = some true := by rw [show T_Frame.mk 0 0 0 0 [] = zeroF from rfl, hz]; simp
      simp only [show ((3 : Int) != 0) = true from rfl, show ((3 : Int) == 3) = true from rfl, cond_true]
      refine bndL (s := true) ?_ rfl
      exact bnd hz' (by rw [wakes20]; rfl)
    · refine bnd h ?_
      have hz := keepFrame_eq zeroF zeroF (by simp [zeroF])
      have hz' : wherrykeep_Frame zeroF (T_Frame.mk 0 0 0 0 []) = some true := by rw [show T_Frame.mk 0 0 0 0 [] = zeroF from rfl, hz]; simp
      simp only [show ((6 : Int) != 0) = true from rfl, show ((6 : Int) == 3) = false from rfl, show ((6 : Int) == 6) = true from rfl, cond_true, cond_false]
      refine bndL (s := true) ?_ rfl
      exact bnd hz' (by rw [wakes20]; rfl)
    · refine bnd h ?_
      simp only [show ((0 : Int) != 0) = false from rfl, cond_false]
      refine bnd (bytes_good gk kb) ?_
      refine bndL (s := true) ?_ rfl
      refine bnd (keepBytes_eq (whole k) b (whole_len gk)) ?_
      rw [hw]
      simp [wakes20]
end Go.Abs.Sh
