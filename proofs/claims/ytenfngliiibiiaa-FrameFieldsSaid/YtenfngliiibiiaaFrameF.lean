import Derived.Test.YtenfngliiibiiaaFrameC
import Derived.Test.YtenfngliiibiiaaBitM
namespace Go.Abs.Sh
set_option linter.unusedVariables false
set_option linter.unusedSimpArgs false

theorem frameFields_true (f : T_Frame) (hb : isBytes f.Data) : wherrylaw20_FrameFields f = some true := by
  unfold wherrylaw20_FrameFields
  by_cases l1 : 300 < f.Data.length
  · exact bndL (s := true) (cnd_t (by simp; omega) rfl) (cnd_t rfl rfl)
  have href := refFrame_eq f (by omega)
  cases hg : good f with
  | false =>
    rw [hg] at href
    exact bndL (s := true) (cnd_f (by simp; omega) (bnd href rfl)) (cnd_t rfl rfl)
  | true =>
    rw [hg] at href
    refine bndL (s := false) (cnd_f (by simp; omega) (bnd href rfl)) (cnd_f rfl ?_)
    obtain ⟨h1, h2, h3, h4, h5⟩ := good_num hg
    have hlen := whole_length f
    have wi : ∀ n : Int, 0 ≤ n → n < 65536 → IntKind.i64.wrap n = n := fun n a b => wrap_i64 (by omega) (by omega)
    have w9 : IntKind.i64.wrap (9 + (f.Data.length : Int)) = 9 + (f.Data.length : Int) := wrap_i64 (by omega) (by omega)
    have w7 : IntKind.i64.wrap (7 + (f.Data.length : Int)) = 7 + (f.Data.length : Int) := wrap_i64 (by omega) (by omega)
    refine bnd (bytes_good hg hb) (bndL (s := false) (cnd_f rfl (bnd (x := 9 + (f.Data.length : Int)) (by rw [w9]) ?_)) (cnd_f rfl ?_))
    · have : (((whole f).length : Int) != 9 + (f.Data.length : Int)) = false := by
        simp only [bne_eq_false_iff_eq]; omega
      rw [this]
    have ix : ∀ k : Nat, k < 7 → ixO (k : Int) (whole f).length = some k := fun k hk => ixO_of (by omega)
    have g : ∀ k : Nat, k < 7 → ∀ x, [f.Kind, f.Number / 256, f.Number % 256, f.Offset / 256, f.Offset % 256, f.Seq, (f.Data.length : Int)][k]? = some x → getO (whole f) k = some x := by
      intro k hk x hx
      have e : whole f = [f.Kind, f.Number / 256, f.Number % 256, f.Offset / 256, f.Offset % 256, f.Seq, (f.Data.length : Int)] ++ (f.Data ++ [sumOf (body f) % 256, sumOf (body f) / 256]) := by simp [whole, body]
      rw [e]
      simp only [getO]
      rw [List.getElem?_append_left (by simpa using hk)]
      exact hx
    have hor1 := or_hi (f.Number / 256) (f.Number % 256) (by omega) (by omega)
    have hor2 := or_hi (f.Offset / 256) (f.Offset % 256) (by omega) (by omega)
    refine bndL (s := true) (bnd (ix 0 (by omega)) (bnd (g 0 (by omega) _ rfl) (bnd (x := f.Kind) (by rw [wi _ (by omega) (by omega)]) (cnd_t (by simp) ?_)))) rfl
    refine bnd (ix 1 (by omega)) (bnd (g 1 (by omega) _ rfl) (bnd (x := f.Number / 256) (by rw [wi _ (by omega) (by omega)]) (bnd (shl8 _ (by omega)) (bnd (ix 2 (by omega)) (bnd (g 2 (by omega) _ rfl) (bnd (x := f.Number % 256) (by rw [wi _ (by omega) (by omega)]) (bnd (x := f.Number) (by rw [hor1]; congr 1; omega) (cnd_t (by simp) ?_))))))))
    refine bnd (ix 3 (by omega)) (bnd (g 3 (by omega) _ rfl) (bnd (x := f.Offset / 256) (by rw [wi _ (by omega) (by omega)]) (bnd (shl8 _ (by omega)) (bnd (ix 4 (by omega)) (bnd (g 4 (by omega) _ rfl) (bnd (x := f.Offset % 256) (by rw [wi _ (by omega) (by omega)]) (bnd (x := f.Offset) (by rw [hor2]; congr 1; omega) (cnd_t (by simp) ?_))))))))
    refine bnd (ix 5 (by omega)) (bnd (g 5 (by omega) _ rfl) (bnd (x := f.Seq) (by rw [wi _ (by omega) (by omega)]) (cnd_t (by simp) ?_)))
    refine bnd (ix 6 (by omega)) (bnd (g 6 (by omega) _ rfl) (bnd (x := (f.Data.length : Int)) (by rw [wi _ (by omega) (by omega)]) (cnd_t (by simp) (bnd (x := 7 + (f.Data.length : Int)) (by rw [w7]) ?_))))
    have hs : sliO (whole f) 7 (7 + (f.Data.length : Int)) = some f.Data := by
      simp only [sliO]
      rw [if_pos (by omega)]
      have e : whole f = [f.Kind, f.Number / 256, f.Number % 256, f.Offset / 256, f.Offset % 256, f.Seq, (f.Data.length : Int)] ++ (f.Data ++ [sumOf (body f) % 256, sumOf (body f) / 256]) := by simp [whole, body]
      rw [e, show (7 + (f.Data.length : Int)).toNat = 7 + f.Data.length by omega, show (7 : Int).toNat = 7 from rfl]
      simp
    refine bnd hs (bnd (keepBytes_eq f.Data f.Data (by omega)) (cnd_t (by simp) (bnd wakes20 rfl)))
end Go.Abs.Sh
