import Derived.Test.YtepkcpjfogjfhaaMatF
import Derived.KernelRfl
namespace Go.Abs.Sh
set_option linter.unusedVariables false
set_option linter.unusedSimpArgs false
set_option maxRecDepth 10000
theorem wakes04 : wherrylaw04_wakes = some true := by kernel_rfl
theorem mc_loop (l : List T_Tok) (hl : l.length ≤ 1000000) : ∀ (k i fuel n : Nat), i + k = l.length → k < fuel → n ≤ 258 * i → loopF (mcS l) fuel ((n : Int), (i : Int)) = some (match chkF (l.drop i) n with | some m => .inl (m : Int) | none => .inr 1)
  | 0, i, fuel, n, hk, hf, hn => by
    obtain ⟨fu, rfl⟩ : ∃ fu, fuel = fu + 1 := ⟨fuel - 1, by omega⟩
    rw [List.drop_of_length_le (by omega)]
    exact loop_exit (cnd_f (decide_eq_false (by omega)) rfl)
  | k + 1, i, fuel, n, hk, hf, hn => by
    obtain ⟨fu, rfl⟩ : ∃ fu, fuel = fu + 1 := ⟨fuel - 1, by omega⟩
    have hi : i < l.length := by omega
    have hs := mc_step l hi (by omega) (by omega : n ≤ 1000000000000)
    rw [List.drop_eq_getElem_cons hi]
    simp only [chkF]
    by_cases ho : okT l[i] n = true
    · rw [if_pos ho] at hs ⊢
      have := tl_le ho
      exact (loop_next hs).trans (mc_loop l hl k (i + 1) fu (n + tl l[i]) (by omega) (by omega) (by omega))
    · rw [if_neg ho] at hs ⊢
      exact loop_exit hs
def ckE (l : List T_Tok) : Int := match chkF l 0 with | some n => if 4096 < n then 2 else 0 | none => 1
theorem check_eq {l : List T_Tok} (hl : l.length ≤ 1000000) : match_Check l = some (ckE l) := by
  have h := mc_loop l hl l.length 0 BIG 0 (by omega) (by simp only [BIG]; omega) (by omega)
  rw [List.drop_zero] at h
  unfold match_Check ckE
  cases hc : chkF l 0 with
  | none =>
    rw [hc] at h
    exact bndR h rfl
  | some n =>
    rw [hc] at h
    refine bndL h ?_
    by_cases h4 : 4096 < n
    · simp only [if_pos h4]; exact cnd_t (decide_eq_true (by omega)) rfl
    · simp only [if_neg h4]; exact cnd_f (decide_eq_false (by omega)) rfl
theorem cpy_len (d : Nat) : ∀ (b : List Int) (k : Nat), (cpy d b k).length = b.length + k
  | b, 0 => rfl
  | b, k + 1 => by
    unfold cpy
    rw [cpy_len d _ k]
    simp; omega
theorem exT_len {b : List Int} {t : T_Tok} {n : Int} (h : okT t n = true) : (exT b t).length = b.length + tl t := by
  unfold okT at h
  rw [decide_eq_true_eq] at h
  unfold exT tl
  split
  · simp
  · rw [cpy_len]
theorem mi_loop {t : T_Tok} (hd : 1 ≤ t.Dist) (hL2 : t.Len ≤ 100000000) : ∀ (k j fuel : Nat) (s : List Int), t.Len = ((j + k : Nat) : Int) → k < fuel → t.Dist ≤ (s.length : Int) → s.length + k ≤ 100000000 →
    loopF (miS t) fuel (s, (j : Int)) = some (.inl (cpy t.Dist.toNat s k))
  | 0, j, fuel, s, hL, hf, hs, hb => by
    obtain ⟨fu, rfl⟩ : ∃ fu, fuel = fu + 1 := ⟨fuel - 1, by omega⟩
    exact loop_exit (cnd_f (decide_eq_false (by omega)) rfl)
  | k + 1, j, fuel, s, hL, hf, hs, hb => by
    obtain ⟨fu, rfl⟩ : ∃ fu, fuel = fu + 1 := ⟨fuel - 1, by omega⟩
    have hlt : s.length - t.Dist.toNat < s.length := by omega
    have hw : IntKind.i64.wrap ((s.length : Int) - t.Dist) = ((s.length - t.Dist.toNat : Nat) : Int) := by rw [wrap_i64 (by omega) (by omega)]; omega
    have hg : getO s (s.length - t.Dist.toNat) = some (s.getD (s.length - t.Dist.toNat) 0) := by
      rw [List.getD_eq_getElem?_getD, List.getElem?_eq_getElem hlt, Option.getD_some]; exact getO_of hlt
    unfold cpy
    exact (loop_next (cnd_t (decide_eq_true (by omega)) (bnd (congrArg some hw) (bnd (ixO_of hlt) (bnd hg (bnd (app_of (by simp only [List.length_cons, List.length_nil]; omega) (by simp only [List.length_cons, List.length_nil]; omega)) (bnd (congrArg some (wrap_succ (n := j) (by omega))) rfl))))))).trans (mi_loop hd hL2 k (j + 1) fu _ (by omega) (by omega) (by simp; omega) (by simp; omega))
theorem me_loop (l : List T_Tok) (hl : l.length ≤ 1000000) : ∀ (k i fuel m : Nat) (s : List Int), i + k = l.length → k < fuel → chkF (l.drop i) s.length = some m → m ≤ 4096 → loopF (meS l) fuel (s, (i : Int)) = some (.inl (exF (l.drop i) s))
  | 0, i, fuel, m, s, hk, hf, hc, hm => by
    obtain ⟨fu, rfl⟩ : ∃ fu, fuel = fu + 1 := ⟨fuel - 1, by omega⟩
    rw [List.drop_of_length_le (by omega)]
    exact loop_exit (cnd_f (decide_eq_false (by omega)) rfl)
  | k + 1, i, fuel, m, s, hk, hf, hc, hm => by
    obtain ⟨fu, rfl⟩ : ∃ fu, fuel = fu + 1 := ⟨fuel - 1, by omega⟩
    have hi : i < l.length := by omega
    have hg := getO_of hi
    rw [List.drop_eq_getElem_cons hi] at hc ⊢
    generalize l[i] = t at hg hc
    simp only [chkF] at hc
    split at hc
    case isFalse => cases hc
    rename_i ho
    have hle := chkF_le _ _ _ hc
    have htl := tl_le ho
    have hel := exT_len (b := s) ho
    have ho2 := ho
    unfold okT at ho2
    rw [decide_eq_true_eq] at ho2
    rw [← hel] at hc
    have hn := me_loop l hl k (i + 1) fu m (exT s t) (by omega) (by omega) hc hm
    have hwi : IntKind.i64.wrap ((i : Int) + 1) = ((i + 1 : Nat) : Int) := wrap_succ (by omega)
    refine (loop_next (cnd_t (decide_eq_true (by omega)) (bnd (ixO_of hi) (bnd hg ?_)))).trans hn
    by_cases hz : t.Len = 0
    · have he : exT s t = s ++ [t.Byte] := by unfold exT; rw [if_pos hz]
      rw [he]
      have hlp : loopF (miS t) BIG (s ++ [t.Byte], 0) = some (.inl (s ++ [t.Byte])) := loop_exit (cnd_f (decide_eq_false (by omega)) rfl)
      exact bndL (s := s ++ [t.Byte]) (cnd_t (beq_iff_eq.2 hz) (bnd (app_of (by simp only [List.length_cons, List.length_nil]; omega) (by simp only [List.length_cons, List.length_nil]; omega)) rfl)) (bndL hlp (bnd (congrArg some hwi) rfl))
    · have he : exT s t = cpy t.Dist.toNat s t.Len.toNat := by unfold exT; rw [if_neg hz]
      rw [he]
      have htl2 : tl t = t.Len.toNat := by unfold tl; rw [if_neg hz]
      have hlp := mi_loop (t := t) (by omega) (by omega) t.Len.toNat 0 BIG s (by omega) (by simp only [BIG]; omega) (by omega) (by omega)
      exact bndL (s := s) (cnd_f (beq_eq_false_iff_ne.2 hz) rfl) (bndL hlp (bnd (congrArg some hwi) rfl))
def exE (l : List T_Tok) : List Int × Int := match chkF l 0 with | some n => if 4096 < n then ([], 2) else (exF l [], 0) | none => ([], 1)
theorem expand_eq {l : List T_Tok} (hl : l.length ≤ 1000000) : match_Expand l = some (exE l) := by
  have hck := check_eq hl
  unfold match_Expand exE
  unfold ckE at hck
  cases hc : chkF l 0 with
  | none =>
    rw [hc] at hck
    exact bnd hck (cnd_t rfl rfl)
  | some n =>
    rw [hc] at hck
    by_cases h4 : 4096 < n
    · simp only [if_pos h4] at hck ⊢
      exact bnd hck (cnd_t rfl rfl)
    · simp only [if_neg h4] at hck ⊢
      have hlp := me_loop l hl l.length 0 BIG n [] (by omega) (by simp only [BIG]; omega) (by rw [List.drop_zero]; exact hc) (by omega)
      rw [List.drop_zero] at hlp
      exact bnd hck (cnd_f rfl (bndL hlp rfl))
/-! A text's own tokens. -/
theorem chk_toks (b : List Int) (m : Nat) : ∀ (k at_ : Nat), b.length - at_ ≤ k → at_ ≤ b.length → chkF (toks b k at_) (m + at_) = some (m + b.length)
  | 0, at_, hk, ha => by
    obtain rfl : at_ = b.length := by omega
    rfl
  | k + 1, at_, hk, ha => by
    unfold toks
    split
    · rename_i he
      rcases bestS_cases b at_ with h0 | ⟨c1, c2, c3, c4, c5, c6⟩
      · rw [h0, if_pos rfl]
        simp only [chkF]
        have ho : okT ⟨b.getD at_ 0, 0, 0⟩ ((m + at_ : Nat) : Int) = true := by unfold okT; rw [decide_eq_true_eq]; exact .inl ⟨rfl, rfl⟩
        rw [if_pos ho]
        exact chk_toks b m k (at_ + 1) (by omega) (by omega)
      · rw [if_neg (by omega)]
        simp only [chkF]
        have ho : okT ⟨0, ((bestS b at_).1 : Int), ((bestS b at_).2 : Int)⟩ ((m + at_ : Nat) : Int) = true := by
          unfold okT; rw [decide_eq_true_eq]
          exact .inr ⟨⟨rfl, by show (3 : Int) ≤ ((bestS b at_).1 : Int); omega, by show ((bestS b at_).1 : Int) ≤ 258; omega, by show (1 : Int) ≤ ((bestS b at_).2 : Int); omega, by show ((bestS b at_).2 : Int) ≤ 2048; omega⟩, by show ((bestS b at_).2 : Int) ≤ ((m + at_ : Nat) : Int); omega⟩
        rw [if_pos ho]
        have htl : tl ⟨0, ((bestS b at_).1 : Int), ((bestS b at_).2 : Int)⟩ = (bestS b at_).1 := by unfold tl; rw [if_neg (by show ¬ ((bestS b at_).1 : Int) = 0; omega)]; simp
        rw [htl, Nat.add_assoc]
        exact chk_toks b m k (at_ + (bestS b at_).1) (by omega) (by omega)
    · simp only [chkF]
      rw [show at_ = b.length by omega]
end Go.Abs.Sh
