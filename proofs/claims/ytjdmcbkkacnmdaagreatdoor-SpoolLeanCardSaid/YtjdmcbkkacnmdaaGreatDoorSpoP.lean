import Derived.Test.YtjdmcbkkacnmdaaGreatDoorSpoM
import Derived.Test.YtjdmcbkkacnmdaaGreatDoorSpoT
namespace Go.Abs.Sh
set_option linter.unusedVariables false
set_option linter.unusedSimpArgs false
theorem spoolLean_true (l more : List T_Rec) (hw : wzL 208 T_Rec.wz l) (hm : wzL 208 T_Rec.wz more) : wherrylaw19_SpoolLean l more = some true := by
  obtain ⟨b, hh, hb⟩ := heavy_rok l hw
  obtain ⟨b2, hh2, hb2⟩ := heavy_rok more hm
  unfold wherrylaw19_SpoolLean
  cases b
  case true => exact bndL (s := true) (bnd hh (cnd_t rfl rfl)) (cnd_t rfl rfl)
  cases b2
  case true => exact bndL (s := true) (bnd hh (cnd_f rfl (bnd hh2 rfl))) (cnd_t rfl rfl)
  obtain ⟨hl, hr⟩ := hb rfl
  obtain ⟨hl2, hr2⟩ := hb2 rfl
  refine bndL (s := false) (bnd hh (cnd_f rfl (bnd hh2 rfl))) (cnd_f rfl ?_)
  obtain ⟨ha, hf, _⟩ := foldS_split newSp l
  have hle := foldS_le newSp l
  have hin := foldS_inv l newSp 0 (by omega) hr inv_new
  have hrm : ∀ r ∈ l.take (foldS newSp l).2, Rok r := fun r h => hr r (List.mem_of_mem_take h)
  have hml : (l.take (foldS newSp l).2).length = (foldS newSp l).2 := by rw [List.length_take]; omega
  obtain ⟨hk1, hk2, hk3⟩ := lean_main (l.take (foldS newSp l).2) ha
  have hkk : leanS l = leanF (lastF 0 0 (l.take (foldS newSp l).2)) (runS newSp (l.take (foldS newSp l).2)).Done 0 (l.take (foldS newSp l).2) := by
    unfold leanS; rw [hf]
  have hsub := lean_sub (lastF 0 0 (l.take (foldS newSp l).2)) (runS newSp (l.take (foldS newSp l).2)).Done 0 (l.take (foldS newSp l).2)
  have hlen := lean_len (lastF 0 0 (l.take (foldS newSp l).2)) (runS newSp (l.take (foldS newSp l).2)).Done 0 (l.take (foldS newSp l).2)
  rw [← hkk] at hk1 hk2 hk3 hsub hlen
  rw [hml] at hlen
  have hrk : ∀ r ∈ leanS l, Rok r := fun r h => hrm r (hsub r h)
  have hfk : foldS newSp (leanS l) = (runS newSp (leanS l), (leanS l).length) := foldS_ok hk1
  have hlk : leanS (leanS l) = leanS l := by
    have e : ∀ k : List T_Rec, foldS newSp k = (runS newSp k, k.length) → leanS k = leanF (lastF 0 0 k) (runS newSp k).Done 0 k := by
      intro k h
      unfold leanS
      rw [h]
      simp only [List.take_length]
    rw [e (leanS l) hfk, hk2]; exact hk3
  have hFk : spool_Fold (leanS l) = some ((foldS newSp l).1, ((leanS l).length : Int)) := by
    rw [fold_eq _ hrk (by omega), hfk, hk2, ← hf]
  refine bnd (fold_eq l hr (by omega)) (bnd (lean_eq l hr (by omega)) (bnd hFk ?_))
  have hne : ∀ x : Int, (x != x) = false := fun x => by simp
  refine bndL (s := false) ?_ (cnd_f rfl ?_)
  · refine cnd_f (decide_eq_false (by show ¬ (((foldS newSp l).2 : Nat) : Int) < 0; omega)) (cnd_f (decide_eq_false (by show ¬ (l.length : Int) < (((foldS newSp l).2 : Nat) : Int); omega)) (cnd_f (hne _) (cnd_f (decide_eq_false (by show ¬ (((foldS newSp l).2 : Nat) : Int) < ((leanS l).length : Int); omega)) (bnd (spool_refl hin) (cnd_f rfl ?_)))))
    have h2 := lean_eq (leanS l) hrk (by omega)
    rw [hlk] at h2
    exact bnd h2 (bnd (recs_refl _ (fun r h => (hrk r h).1) (by omega)) rfl)
  · have hs0 := sli_nat l (a := 0) (b := (foldS newSp l).2) (by omega) (by omega)
    rw [List.drop_zero, Nat.sub_zero] at hs0
    have hrb : ∀ r ∈ l.take (foldS newSp l).2 ++ more, Rok r := fun r h => (List.mem_append.1 h).elim (hrm r) (hr2 r)
    have hrc : ∀ r ∈ leanS l ++ more, Rok r := fun r h => (List.mem_append.1 h).elim (hrk r) (hr2 r)
    have happ : ∀ (a : List T_Rec) (s : T_Spool), allOk s a → (foldS s (a ++ more)).1 = (foldS (runS s a) more).1 := by
      intro a
      induction a with
      | nil => intro s _; rfl
      | cons r a ih =>
        intro s h
        simp only [List.cons_append, foldS, if_pos h.1, runS]
        exact ih _ h.2
    have hx := happ _ newSp ha
    have hy := happ _ newSp hk1
    rw [hk2, ← hx] at hy
    have hinx := foldS_inv (l.take (foldS newSp l).2 ++ more) newSp 0 (by rw [List.length_append, hml]; omega) hrb inv_new
    refine bnd hs0 (bnd (twins_eq _ (fun r h => (hrm r h).1) (by omega)) (bnd (app_of (by rw [hml]; omega) (by rw [hml]; omega)) (bnd (fold_eq _ hrb (by rw [List.length_append, hml]; omega)) (bnd (twins_eq _ (fun r h => (hrk r h).1) (by omega)) (bnd (app_of (by omega) (by omega)) (bnd (fold_eq _ hrc (by rw [List.length_append]; omega)) ?_))))))
    rw [hy]
    exact bndL (s := true) (bnd (spool_refl hinx) (cnd_t rfl (bnd wakes19 rfl))) rfl
end Go.Abs.Sh
