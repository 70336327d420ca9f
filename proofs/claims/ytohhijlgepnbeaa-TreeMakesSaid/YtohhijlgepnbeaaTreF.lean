import Derived.Test.YtohhijlgepnbeaaTreE
namespace Go.Abs.Sh
set_option linter.unusedVariables false
set_option linter.unusedSimpArgs false
theorem inv_wts {w : List Int} (h2 : 2 ≤ (pos w).length) : Inv (wts w) ((wts w).length - 1) (mst (wts w) ((wts w).length - 1)) :=
  inv_all wts_asc (fun k hk => wts_pos hk) _ (by rw [wts_len]; omega)
theorem inv_okP {W0 : List Int} {s : MS} (h2 : 2 ≤ W0.length) (v : Inv W0 (W0.length - 1) s) : okP s.P (2 * W0.length - 1) := by
  intro k hk
  have hm : k ∈ s.C := (v.mem k).2 (by have := v.cnt; have := v.mg2; have := v.lf; omega)
  obtain ⟨j, hj, rfl⟩ := List.getElem_of_mem hm
  have e : s.C[j] = s.C.getD j 0 := by simp [hj]
  rw [v.cl] at hj
  rw [e, v.par j hj]
  have := v.clt j hj
  omega
theorem take_succ_app {l : List Int} {i : Nat} (h : i < l.length) : l.take (i + 1) = l.take i ++ [l.getD i 0] := by
  rw [List.take_add_one, List.getElem?_eq_getElem h, ← getD_at h]; rfl
theorem rep_succ_app (i : Nat) : List.replicate (i + 1) (0 : Int) = List.replicate i 0 ++ [0] := by
  rw [List.replicate_succ']
theorem depths_eq {w : List Int} (hw : okW w) : tree_depths w = some (dep w) := by
  have hl := hw.1
  have hpl := pos_len w
  unfold tree_depths
  refine bnd (x := List.replicate w.length (0 : Int)) (by unfold mkO; rw [if_pos (by omega)]; simp) (bnd (positive_eq w hl) ?_)
  by_cases h0 : (pos w).length = 0
  · exact cnd_t (by simp [h0]) (by rw [dep, if_pos h0])
  refine cnd_f (by simp; intro e; apply h0; rw [e]; rfl) ?_
  by_cases h1 : (pos w).length = 1
  · have hm : (pos w).getD 0 0 ∈ pos w := by rw [← getD_at (by omega)]; exact List.getElem_mem _
    have hx := posN_lt w w.length _ hm
    refine cnd_t (by simp [h1]) (bnd (ixO_of (i := 0) (by omega)) (bnd (getO_D (by omega)) (bnd (x := ((pos w).getD 0 0).toNat) (by unfold ixO; rw [if_pos (by simp only [List.length_replicate]; omega)]) (bnd rfl ?_))))
    rw [dep, if_neg h0, if_pos h1]
  refine cnd_f (by simp; omega) ?_
  have h2 : 2 ≤ (pos w).length := by omega
  have hsl := srt_len w
  have hwl := wts_len w
  have hWs := wts_sum hw
  refine bnd (sort_eq hw (by omega)) (bnd (x := ((2 * (pos w).length : Nat) : Int)) (by rw [hsl, wrap_i64 (by omega) (by omega)]; simp) (bnd (x := ()) (by unfold mkcO; rw [if_pos (by omega)]) ?_))
  refine bndL (s := zw (wts w) (List.replicate (wts w).length 0)) ?_ ?_
  · refine loop_from (fun i => (zw ((wts w).take i) (List.replicate i 0), (i : Int))) (srt w).length BIG rfl (by unfold BIG; omega) (fun i hi => ?_) (cnd_f (by simp) ?_)
    · have hx := srt_mem hi
      have hti : ((wts w).take i).length = i := by rw [List.length_take]; omega
      refine cnd_t (by simp; omega) (bnd (ixO_of hi) (bnd (getO_D hi) (bnd (x := ((srt w).getD i 0).toNat) (by unfold ixO; rw [if_pos (by omega)]) (bnd (getO_D (by omega)) (bnd (app_of (by rw [zw_len (by simp; omega)]; simp; omega) (by rw [zw_len (by simp; omega)]; simp; omega)) (bnd (x := ((i + 1 : Nat) : Int)) (by rw [wrap_succ (by omega)]) ?_))))))
      rw [zw_app (by simp; omega), take_succ_app (by omega), rep_succ_app, wts_at hi]
    · rw [hsl, ← hwl, List.take_length]
  have hmg := merge_eq (W0 := wts w) wts_asc (fun k hk => wts_pos hk) (by omega) (by omega) (by omega)
  refine bnd hmg ?_
  have v := inv_wts h2
  have hP := inv_okP (by omega) v
  have hz := zw_len (W := (mst (wts w) ((wts w).length - 1)).W) (P := (mst (wts w) ((wts w).length - 1)).P) (by rw [v.wl, v.pl])
  have hwL := v.wl
  have hpL := v.pl
  obtain ⟨L, hL⟩ : ∃ L, L = 2 * (wts w).length - 1 := ⟨_, rfl⟩
  have hzL : (zw (mst (wts w) ((wts w).length - 1)).W (mst (wts w) ((wts w).length - 1)).P).length = L := by omega
  have hcd : dep w = place (List.replicate w.length 0) (srt w) (dst (mst (wts w) ((wts w).length - 1)).P L (L - 1)) (srt w).length := by
    rw [dep, if_neg h0, if_neg h1, coreD, hL]
    rfl
  rw [hcd]
  rw [← hL] at hP
  generalize (mst (wts w) ((wts w).length - 1)).P = P at *
  generalize (mst (wts w) ((wts w).length - 1)).W = W at *
  refine bnd (x := List.replicate L (0 : Int)) (by unfold mkO; rw [hzL, if_pos (by omega)]; simp) (bnd (x := ((L : Int) - 2)) (by rw [hzL, wrap_i64 (by omega) (by omega)]) ?_)
  refine bndL (s := dst P L (L - 1)) ?_ ?_
  · refine loop_from (fun j => (dst P L j, (L : Int) - 2 - (j : Int))) (L - 1) BIG (by simp [dst]) (by unfold BIG; omega) (fun j hj => ?_) (cnd_f (decide_eq_false (by omega)) rfl)
    have hk := hP (L - 2 - j) (by omega)
    have hb := dst_bound P L j (P.getD (L - 2 - j) 0).toNat
    have hdl := dst_len P L j
    have ek : (L : Int) - 2 - (j : Int) = ((L - 2 - j : Nat) : Int) := by omega
    simp only
    rw [ek]
    refine cnd_t (decide_eq_true (by omega)) (bnd (ixO_of (by rw [hzL]; omega)) (bnd (zw_get (by omega) (by omega)) (bnd (x := (P.getD (L - 2 - j) 0).toNat) (by unfold ixO; rw [if_pos (by rw [hdl]; simp only; omega)]) (bnd (getO_D (by omega)) (bnd (x := (dst P L j).getD (P.getD (L - 2 - j) 0).toNat 0 + 1) (by rw [wrap_i64 (by omega) (by omega)]) (bnd (ixO_of (by omega)) (bnd rfl (bnd (x := (L : Int) - 2 - ((j + 1 : Nat) : Int)) (by rw [wrap_i64 (by omega) (by omega)]; congr 1; omega) ?_))))))))
    rfl
  refine bndL (s := place (List.replicate w.length 0) (srt w) (dst P L (L - 1)) (srt w).length) ?_ rfl
  have hdl := dst_len P L (L - 1)
  refine loop_from (fun i => (place (List.replicate w.length 0) (srt w) (dst P L (L - 1)) i, (i : Int))) (srt w).length BIG rfl (by unfold BIG; omega) (fun i hi => ?_) (cnd_f (by simp) rfl)
  have hx := srt_mem hi
  have hpll := place_len (List.replicate w.length 0) (srt w) (dst P L (L - 1)) i
  rw [List.length_replicate] at hpll
  exact cnd_t (by simp; omega) (bnd (ixO_of hi) (bnd (getO_D hi) (bnd (ixO_of (by omega)) (bnd (getO_D (by omega)) (bnd (x := ((srt w).getD i 0).toNat) (by unfold ixO; rw [if_pos (by omega)]) (bnd rfl (bnd (x := ((i + 1 : Nat) : Int)) (by rw [wrap_succ (by omega)]) rfl)))))))
end Go.Abs.Sh
