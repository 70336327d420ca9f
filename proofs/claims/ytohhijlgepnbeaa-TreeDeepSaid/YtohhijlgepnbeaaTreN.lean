import Derived.Test.YtohhijlgepnbeaaTreM
namespace Go.Abs.Sh
set_option linter.unusedVariables false
set_option linter.unusedSimpArgs false
def fb : Nat → Int × Int
  | 0 => (1, 1)
  | i + 1 => ((fb i).2, (fb i).1 + (fb i).2)
def fbL : Nat → List Int
  | 0 => []
  | i + 1 => fbL i ++ [(fb i).1]
theorem fbL_len : ∀ n, (fbL n).length = n
  | 0 => rfl
  | n + 1 => by rw [fbL, List.length_append, fbL_len n]; rfl
theorem fb_all : (List.range 28).all (fun i => decide (1 ≤ (fb i).1 ∧ (fb i).1 ≤ 1048576 ∧ 1 ≤ (fb i).2 ∧ (fb i).2 ≤ 1048576)) = true := by decide
theorem fb_bd {i : Nat} (h : i < 28) : 1 ≤ (fb i).1 ∧ (fb i).1 ≤ 1048576 ∧ 1 ≤ (fb i).2 ∧ (fb i).2 ≤ 1048576 := by
  have := List.all_eq_true.1 fb_all i (List.mem_range.2 h)
  exact of_decide_eq_true this
theorem fbL_at : ∀ n k, k < n → (fbL n).getD k 0 = (fb k).1
  | 0, k, h => by omega
  | n + 1, k, h => by
    rw [fbL]
    by_cases e : k = n
    · subst e
      have := getD_app_n (l := fbL k) (x := (fb k).1)
      rw [fbL_len] at this
      exact this
    · rw [getD_app_l (by rw [fbL_len]; omega)]
      exact fbL_at n k (by omega)
theorem fbL_ok {n : Nat} (h : n ≤ 28) : okW (fbL n) := by
  refine ⟨by rw [fbL_len]; omega, fun i hi => ?_⟩
  rw [fbL_len] at hi
  rw [fbL_at n i hi]
  have := fb_bd (i := i) (by omega)
  omega
def mx (l : List Int) : Int := l.foldl (fun s x => if x > s then x else s) 0
set_option maxRecDepth 100000 in
theorem deep_all : (List.range 15).all (fun a => mx (dep (fbL (a + 2))) == ((a + 1 : Nat) : Int)) = true := by kernel_rfl
theorem deep_of {n : Nat} (h2 : 2 ≤ n) (h : n ≤ 16) : mx (dep (fbL n)) = (n : Int) - 1 := by
  have := List.all_eq_true.1 deep_all (n - 2) (List.mem_range.2 (by omega))
  rw [show n - 2 + 2 = n by omega, show n - 2 + 1 = n - 1 by omega] at this
  have := eq_of_beq this
  omega
theorem mx_take {l : List Int} {i : Nat} (h : i < l.length) : mx (l.take (i + 1)) = if l.getD i 0 > mx (l.take i) then l.getD i 0 else mx (l.take i) := by
  rw [take_succ_app h]
  unfold mx
  rw [List.foldl_append]
  rfl
theorem mx_ge (l : List Int) : ∀ n, n ≤ l.length → ∀ i, i < n → l.getD i 0 ≤ mx (l.take n)
  | 0, _, i, h => by omega
  | n + 1, h, i, hi => by
    rw [mx_take (by omega)]
    by_cases e : i = n
    · subst e; split <;> omega
    · have := mx_ge l n (by omega) i (by omega)
      split <;> omega
theorem mx_le {l : List Int} {b : Int} (h0 : 0 ≤ b) (hb : ∀ i, i < l.length → l.getD i 0 ≤ b) : ∀ n, n ≤ l.length → mx (l.take n) ≤ b
  | 0, _ => h0
  | n + 1, h => by
    rw [mx_take (by omega)]
    have := mx_le h0 hb n (by omega)
    have := hb n (by omega)
    split <;> omega
theorem treeDeep_true (n limit : Int) : wherrylaw03_TreeDeep n limit = some true := by
  unfold wherrylaw03_TreeDeep
  obtain ⟨p, hp, hr⟩ := remu_eq n 26 (by omega) (by omega)
  obtain ⟨q, hq, hr2⟩ := remu_eq limit 7 (by omega) (by omega)
  obtain ⟨m, hm⟩ : ∃ m : Nat, m = p + 2 := ⟨_, rfl⟩
  obtain ⟨L, hL⟩ : ∃ L : Int, L = ((q + 9 : Nat) : Int) := ⟨_, rfl⟩
  refine bnd rfl (bnd hr (bnd (x := (p : Int)) (by rw [wrap_nat _ (by omega)]) (bnd (x := (m : Int)) (by rw [wrap_i64 (by omega) (by omega)]; congr 1; omega) (bnd rfl (bnd hr2 (bnd (x := (q : Int)) (by rw [wrap_nat _ (by omega)]) (bnd (x := L) (by rw [wrap_i64 (by omega) (by omega)]; congr 1; omega) ?_)))))))
  refine bndL (s := fbL m) ?_ ?_
  · refine loop_from (fun i => ((fb i).1, (fb i).2, fbL i, (i : Int))) m BIG rfl (by unfold BIG; omega) (fun i hi => ?_) (cnd_f (by simp) rfl)
    have hb := fb_bd (i := i) (by omega)
    exact cnd_t (decide_eq_true (by omega)) (bnd (app_of (by rw [fbL_len]; simp; omega) (by rw [fbL_len]; simp; omega)) (bnd (x := (fb i).1 + (fb i).2) (by rw [wrap_i64 (by omega) (by omega)]) (bnd (x := ((i + 1 : Nat) : Int)) (by rw [wrap_succ (by omega)]) rfl)))
  have hw := fbL_ok (n := m) (by omega)
  have hokL : okL (fbL m) L := by
    unfold okL
    refine ⟨?_, by omega⟩
    split <;> omega
  obtain ⟨J, hJ, hno, hyes, hlen⟩ := lengths_eq hw hokL
  have hwJ := hvN_ok hw J
  have hchk := dep_check hwJ hyes (by omega)
  have hdl : (dep (hvN (fbL m) J)).length = m := by rw [dep_len, hvN_len, fbL_len]
  have hle : ∀ i, i < (dep (hvN (fbL m) J)).length → (dep (hvN (fbL m) J)).getD i 0 ≤ L := fun i hi => hyes i (by rw [hvN_len, fbL_len]; omega)
  refine bnd hlen (bndL (s := false) (cnd_f rfl (cnd_f (by simp only [hdl]; simp) (bnd hchk rfl))) (cnd_f rfl ?_))
  refine bndL (s := mx (dep (hvN (fbL m) J))) ?_ ?_
  · refine loop_from (fun i => (mx ((dep (hvN (fbL m) J)).take i), (i : Int))) m BIG rfl (by unfold BIG; omega) (fun i hi => ?_) (cnd_f (by simp) (by rw [List.take_of_length_le (by omega)]))
    refine cnd_t (decide_eq_true (by omega)) (bnd (ixO_of (by show i < (dep (hvN (fbL m) J)).length; omega)) (bnd (getO_D (by show i < (dep (hvN (fbL m) J)).length; omega)) (bnd (x := mx ((dep (hvN (fbL m) J)).take (i + 1))) (by rw [mx_take (by omega)]) (bnd (x := ((i + 1 : Nat) : Int)) (by rw [wrap_succ (by omega)]) rfl))))
  have hmx := mx_le (l := dep (hvN (fbL m) J)) (b := L) (by omega) hle _ (Nat.le_refl _)
  rw [List.take_length] at hmx
  refine bndL (s := true) (bnd (x := (m : Int) - 1) (by rw [wrap_i64 (by omega) (by omega)]) ?_) rfl
  by_cases hc : L < (m : Int) - 1
  · exact cnd_t (decide_eq_true hc) (cnd_t (decide_eq_true hmx) (bnd wakes03 rfl))
  refine cnd_f (decide_eq_false hc) (bnd (x := (m : Int) - 1) (by rw [wrap_i64 (by omega) (by omega)]) ?_)
  have hd := deep_of (n := m) (by omega) (by omega)
  have hJ0 : J = 0 := by
    rcases Nat.eq_zero_or_pos J with h | h
    · exact h
    · refine absurd (fun i hi => ?_) (hno 0 h)
      have hi' : i < (dep (fbL m)).length := by rw [dep_len]; exact hi
      have := mx_ge (dep (fbL m)) _ (Nat.le_refl _) i hi'
      rw [List.take_length, hd] at this
      show (dep (fbL m)).getD i 0 ≤ L
      omega
  subst hJ0
  have hd' : mx (dep (hvN (fbL m) 0)) = (m : Int) - 1 := hd
  exact cnd_t (by rw [hd']; simp) (cnd_t (decide_eq_true hmx) (bnd wakes03 rfl))
end Go.Abs.Sh
