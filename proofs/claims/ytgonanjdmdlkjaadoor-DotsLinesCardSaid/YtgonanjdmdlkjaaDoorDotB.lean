import Derived.Test.YtgonanjdmdlkjaaDoorDotA
import Derived.Test.YtgonanjdmdlkjaaDoorKeepM
namespace Go.Abs.Sh
set_option linter.unusedVariables false
set_option linter.unusedSimpArgs false
theorem wakes14 : wherrylaw14_wakes = some true := by kernel_rfl
theorem hasDot {x : List Int} (hb : byt x) (hl : x.length < 4294967281) : bytes_HasPrefix x [46] = some (decide (x.head? = some 46)) := by
  unfold bytes_HasPrefix
  cases x with
  | nil => rfl
  | cons y x =>
    refine bndL (s := decide (y = 46)) (cnd_t (decide_eq_true (by simp only [List.length_cons, List.length_nil]; omega)) ?_) (by simp)
    have e1 : sliO (y :: x) 0 (([46] : List Int).length : Int) = some [y] := by
      have := sli_nat (y :: x) (a := 0) (b := 1) (by omega) (by simp)
      simpa using this
    refine bnd e1 (bnd (x := decide (y = 46)) ?_ rfl)
    unfold bytes_Equal
    refine bnd rfl (bnd rfl ?_)
    rw [toList_beq]
    congr 1
    refine decide_eq_decide.2 ⟨fun h => ?_, fun h => by rw [h]⟩
    have := congrArg sbytes h
    rw [sbytes_bstr (by intro z hz; rw [List.mem_singleton] at hz; rw [hz]; exact hb y (by simp)), sbytes_bstr (by decide)] at this
    simpa using this
def stf (l : List Int) : List Int := if l.head? = some 46 then 46 :: l else l
theorem stf_len (l : List Int) : (stf l).length ≤ l.length + 1 := by unfold stf; split <;> simp
theorem tot_stf : ∀ ls : List (List Int), tot (ls.map stf) ≤ 2 * tot ls
  | [] => by simp [tot]
  | l :: ls => by
    have h1 := stf_len l
    have h2 := tot_stf ls
    simp only [List.map_cons, tot]; omega
theorem tot_app : ∀ a b : List (List Int), tot (a ++ b) = tot a + tot b
  | [], b => by simp [tot]
  | x :: a, b => by simp only [List.cons_append, tot, tot_app a b]; omega
def stuffS : List Int → List Int → Option (List Int ⊕ Unit) := fun (x : (List Int)) (s21 : (List Int)) =>
        bindS (S := (List Int)) (A := (((List Int)) ⊕ (Unit)))
          ((bytes_HasPrefix x [46]).bind fun v4 =>
          cond (v4)
            ((appO 1 s21 (sbytes (⟨#[46]⟩ : ByteArray))).bind fun v6 =>
            some (.inl v6))
            (some (.inl s21)))
          (fun (s29 : (List Int)) =>
            (appO 1 s29 x).bind fun v12 =>
            (appO 1 v12 (sbytes (⟨#[13, 10]⟩ : ByteArray))).bind fun v13 =>
            some (.inl v13)) some
theorem sb46 : sbytes (⟨#[46]⟩ : ByteArray) = [46] := rfl
theorem sbE : sbytes (⟨#[13, 10]⟩ : ByteArray) = [13, 10] := rfl
theorem sbD : sbytes (⟨#[46, 13, 10]⟩ : ByteArray) = [46, 13, 10] := rfl
theorem stuff_step {x s : List Int} (hb : byt x) (hl : s.length + x.length < 4294960000) : stuffS x s = some (.inl (s ++ (stf x ++ [13, 10]))) := by
  unfold stuffS
  rw [sb46, sbE]
  by_cases h : x.head? = some 46
  · have e : stf x = 46 :: x := by unfold stf; rw [if_pos h]
    rw [e]
    refine bndL (s := s ++ [46]) (bnd (hasDot hb (by omega)) (cnd_t (decide_eq_true h) (bnd (app_of (by simp; omega) (by simp; omega)) rfl))) ?_
    refine bnd (app_of (by simp; omega) (by simp; omega)) (bnd (app_of (by simp; omega) (by simp; omega)) ?_)
    simp
  · have e : stf x = x := by unfold stf; rw [if_neg h]
    rw [e]
    refine bndL (s := s) (bnd (hasDot hb (by omega)) (cnd_f (decide_eq_false h) rfl)) ?_
    refine bnd (app_of (by omega) (by omega)) (bnd (app_of (by simp; omega) (by simp; omega)) ?_)
    simp
theorem fol_stuff : ∀ (ls : List (List Int)) (s : List Int), (∀ l ∈ ls, byt l) → s.length + 2 * tot ls < 4294960000 → folS stuffS ls s = some (.inl (s ++ jn (ls.map stf)))
  | [], s, _, _ => by simp [folS, jn]
  | l :: ls, s, hb, hs => by
    simp only [tot] at hs
    have h1 := stf_len l
    simp only [folS]
    rw [stuff_step (hb l (by simp)) (by omega)]
    refine (fol_stuff ls _ (fun m hm => hb m (by simp [hm])) (by simp only [List.length_append, List.length_cons, List.length_nil]; omega)).trans ?_
    simp [jn]
theorem stuff_ok {ls : List (List Int)} (h : ∀ l ∈ ls, cln l) (hb : ∀ l ∈ ls, byt l) (hl : tot ls < 1000000000) : dots_Stuff (jn ls) = some (jn (ls.map stf ++ [[46]]), 0) := by
  unfold dots_Stuff dots_lines
  refine bnd (check_ok h hb (by omega)) (cnd_f rfl (bnd rfl ?_))
  refine bndL (s := jn (ls.map stf)) (lines_range stuffS (lns_jn h) (jn_byt hb) (by rw [jn_len]; omega) _ _ ?_) ?_
  · have := fol_stuff ls [] hb (by simp; omega)
    simpa using this
  · have h2 := tot_stf ls
    rw [sbD]
    refine bnd (app_of (by rw [jn_len]; simp; omega) (by rw [jn_len]; simp; omega)) ?_
    rw [jn_app]; rfl
def linesS : List Int → List (List Int) → Option (List (List Int) ⊕ Unit) := fun (x : (List Int)) (s7 : (List (List Int))) =>
      (appO 1 ([] : List Int) x).bind fun v2 =>
      (appO 24 s7 [v2]).bind fun v3 =>
      some (.inl v3)
theorem fol_lines : ∀ (ls s : List (List Int)), s.length * 24 + tot ls * 24 < 140737488355328 → folS linesS ls s = some (.inl (s ++ ls))
  | [], s, _ => by simp [folS]
  | l :: ls, s, hs => by
    simp only [tot] at hs
    have e : linesS l s = some (.inl (s ++ [l])) := by
      unfold linesS
      refine bnd (x := l) (by rw [app_of (by simp; omega) (by simp; omega)]; rfl) (bnd (app_of (by simp; omega) (by simp; omega)) rfl)
    simp only [folS]
    rw [e]
    refine (fol_lines ls _ (by simp only [List.length_append, List.length_cons, List.length_nil]; omega)).trans ?_
    simp
theorem lines14 {b : List Int} {ls : List (List Int)} {r : List Int} (H : Lns b ls r) (hb : byt b) (hl : b.length < 4000000000) : dots_Lines b = some ls := by
  have hj := lns_join H
  have ht : b.length = tot ls + r.length := by rw [hj, List.length_append, jn_len]
  unfold dots_Lines dots_lines
  refine bnd rfl ?_
  refine bndL (s := ls) (lines_range linesS H hb (by omega) _ _ ?_) rfl
  have := fol_lines ls [] (by simp; omega)
  simpa using this
end Go.Abs.Sh
