import Derived.Test.YtbioodcjmceefaaLoopM
namespace Go.Abs.Sh
set_option linter.unusedVariables false
def hvIn (l : List T_Mail) (s67 : Int) : ((Int × Int)) → Option ((Int × Int) ⊕ ((Int) ⊕ ((Int × Int) ⊕ ((Int) ⊕ Bool)))) := (fun ((s98, s99) : Int × Int) =>
            (ixO s67 l.length).bind fun v18 =>
            (getO l v18).bind fun v19 =>
            cond ((decide (s99 < (v19.To.length : Int))))
              ((ixO s67 l.length).bind fun v21 =>
              (getO l v21).bind fun v22 =>
              (ixO s99 v22.To.length).bind fun v23 =>
              (getO v22.To v23).bind fun v24 =>
              (some (IntKind.i64.wrap (s98 + (v24.Local.size : Int)))).bind fun v25 =>
              (ixO s67 l.length).bind fun v26 =>
              (getO l v26).bind fun v27 =>
              (ixO s99 v27.To.length).bind fun v28 =>
              (getO v27.To v28).bind fun v29 =>
              (some (IntKind.i64.wrap (v25 + (v29.Domain.size : Int)))).bind fun v30 =>
              (some (IntKind.i64.wrap (s99 + 1))).bind fun v31 =>
              some (.inl (v30, v31)))
              (some (.inr (.inl s98))))
def hvOut (l : List T_Mail) : ((Int × Int)) → Option ((Int × Int) ⊕ ((Int) ⊕ Bool)) := (fun ((s66, s67) : Int × Int) =>
    cond ((decide (s67 < (l.length : Int))))
      ((ixO s67 l.length).bind fun v3 =>
      (getO l v3).bind fun v4 =>
      (some (IntKind.i64.wrap (s66 + (v4.Body.length : Int)))).bind fun v5 =>
      (ixO s67 l.length).bind fun v6 =>
      (getO l v6).bind fun v7 =>
      (some (IntKind.i64.wrap (v5 + (v7.Helo.size : Int)))).bind fun v8 =>
      (ixO s67 l.length).bind fun v9 =>
      (getO l v9).bind fun v10 =>
      (some (IntKind.i64.wrap (v8 + (v10.From.Local.size : Int)))).bind fun v11 =>
      (ixO s67 l.length).bind fun v12 =>
      (getO l v12).bind fun v13 =>
      (some (IntKind.i64.wrap (v11 + (v13.From.Domain.size : Int)))).bind fun v14 =>
      (ixO s67 l.length).bind fun v15 =>
      (getO l v15).bind fun v16 =>
      cond ((decide (40 < (v16.To.length : Int))))
        (some (.inr (.inr (true))))
        (bindS (S := (Int)) (A := ((Int × Int) ⊕ ((Int) ⊕ Bool)))
          (loopF (S := (Int × Int)) (O := (Int) ⊕ ((Int × Int) ⊕ ((Int) ⊕ Bool))) (fun ((s98, s99) : Int × Int) =>
            (ixO s67 l.length).bind fun v18 =>
            (getO l v18).bind fun v19 =>
            cond ((decide (s99 < (v19.To.length : Int))))
              ((ixO s67 l.length).bind fun v21 =>
              (getO l v21).bind fun v22 =>
              (ixO s99 v22.To.length).bind fun v23 =>
              (getO v22.To v23).bind fun v24 =>
              (some (IntKind.i64.wrap (s98 + (v24.Local.size : Int)))).bind fun v25 =>
              (ixO s67 l.length).bind fun v26 =>
              (getO l v26).bind fun v27 =>
              (ixO s99 v27.To.length).bind fun v28 =>
              (getO v27.To v28).bind fun v29 =>
              (some (IntKind.i64.wrap (v25 + (v29.Domain.size : Int)))).bind fun v30 =>
              (some (IntKind.i64.wrap (s99 + 1))).bind fun v31 =>
              some (.inl (v30, v31)))
              (some (.inr (.inl s98))))
            BIG (v14, 0))
          (fun (s101 : Int) =>
            (some (IntKind.i64.wrap (s67 + 1))).bind fun v46 =>
            some (.inl (s101, v46))) some))
      (some (.inr (.inl s66))))
def hv18 (l : List T_Rec) : ((Int)) → Option ((Int) ⊕ ((Unit) ⊕ Bool)) := (fun (s23 : Int) =>
    cond ((decide (s23 < (l.length : Int))))
      (bindS (S := Bool) (A := ((Int) ⊕ ((Unit) ⊕ Bool)))
        ((ixO s23 l.length).bind fun v3 =>
        (getO l v3).bind fun v4 =>
        cond ((decide (600 < (v4.Data.length : Int))))
          (some (.inl true))
          ((ixO s23 l.length).bind fun v5 =>
          (getO l v5).bind fun v6 =>
          cond ((decide (60 < (v6.Ids.length : Int))))
            (some (.inl true))
            ((ixO s23 l.length).bind fun v7 =>
            (getO l v7).bind fun v8 =>
            (wherrylaw17_Heavy [(T_Mail.mk (T_Path.mk v8.Mail.From.Null v8.Mail.From.Local v8.Mail.From.Domain) v8.Mail.To v8.Mail.Body v8.Mail.Quiet v8.Mail.Helo v8.Mail.At)]).bind fun v9 =>
            some (.inl v9))))
        (fun (s37 : Bool) =>
          cond (s37)
            (some (.inr (.inr (true))))
            ((some (IntKind.i64.wrap (s23 + 1))).bind fun v15 =>
            some (.inl v15))) some)
      (some (.inr (.inl ()))))
theorem wadd {a b : Nat} (h : a + b < 9223372036854775808) : some (IntKind.i64.wrap ((a : Int) + (b : Int))) = some ((a + b : Nat) : Int) := by
  rw [wrap_i64 (by omega) (by omega)]; simp
def pW (p : T_Path) : Nat := p.Local.size + p.Domain.size
def psum : List T_Path → Nat
  | [] => 0
  | p :: l => pW p + psum l
def mW (m : T_Mail) : Nat := m.Body.length + m.Helo.size + m.From.Local.size + m.From.Domain.size + psum m.To
def msum : List T_Mail → Nat
  | [] => 0
  | m :: l => mW m + msum l
theorem psum_take (l : List T_Path) (k : Nat) (hk : k < l.length) : psum (l.take (k + 1)) = psum (l.take k) + pW l[k] := by
  induction l generalizing k with
  | nil => simp at hk
  | cons p l ih =>
    cases k with
    | zero => simp [psum]
    | succ k =>
      simp only [List.take_succ_cons, psum, List.getElem_cons_succ]
      rw [ih k (by simpa using hk)]; omega
theorem msum_take (l : List T_Mail) (k : Nat) (hk : k < l.length) : msum (l.take (k + 1)) = msum (l.take k) + mW l[k] := by
  induction l generalizing k with
  | nil => simp at hk
  | cons p l ih =>
    cases k with
    | zero => simp [msum]
    | succ k =>
      simp only [List.take_succ_cons, msum, List.getElem_cons_succ]
      rw [ih k (by simpa using hk)]; omega
theorem psum_le (B : Nat) : ∀ (l : List T_Path), (∀ p ∈ l, pW p ≤ B) → psum l ≤ l.length * B
  | [], _ => by simp [psum]
  | p :: l, h => by
    have h1 := h p (by simp)
    have h2 := psum_le B l (fun q hq => h q (by simp [hq]))
    simp only [psum, List.length_cons, Nat.add_mul]; omega
theorem msum_le (B : Nat) : ∀ (l : List T_Mail), (∀ p ∈ l, mW p ≤ B) → msum l ≤ l.length * B
  | [], _ => by simp [msum]
  | p :: l, h => by
    have h1 := h p (by simp)
    have h2 := msum_le B l (fun q hq => h q (by simp [hq]))
    simp only [msum, List.length_cons, Nat.add_mul]; omega
theorem mW_le_msum {m : T_Mail} : ∀ {l : List T_Mail}, m ∈ l → mW m ≤ msum l
  | x :: l, h => by
    rcases List.mem_cons.1 h with rfl | h
    · simp only [msum]; omega
    · have := mW_le_msum h; simp only [msum]; omega
def mRe (m : T_Mail) : Prop := m.Body.length < 140737488355328 ∧ m.Helo.size < 140737488355328 ∧ m.From.Local.size < 140737488355328 ∧ m.From.Domain.size < 140737488355328 ∧ m.To.length < 140737488355328 ∧ ∀ p ∈ m.To, p.Local.size < 140737488355328 ∧ p.Domain.size < 140737488355328
theorem hvIn_run (l : List T_Mail) (i : Nat) (hi : i < l.length) (hm : mRe l[i]) (ht : l[i].To.length ≤ 40) (A : Nat) (hA : A < 1152921504606846976) :
    loopF (hvIn l (i : Int)) BIG ((A : Int), 0) = some (.inl ((A + psum l[i].To : Nat) : Int)) := by
  have hix : ixO (i : Int) l.length = some i := ixO_of hi
  have hg : getO l i = some l[i] := by simp [getO, hi]
  obtain ⟨m, hmm⟩ : ∃ m, m = l[i] := ⟨_, rfl⟩
  rw [← hmm] at hm ht hg ⊢
  have hp : ∀ p ∈ m.To, pW p ≤ 281474976710656 := fun p hp => by have := hm.2.2.2.2.2 p hp; simp only [pW]; omega
  have hb : ∀ k, psum (m.To.take k) ≤ 40 * 281474976710656 := fun k => by
    have h1 := psum_le 281474976710656 (m.To.take k) (fun p hq => hp p (List.mem_of_mem_take hq))
    have h2 : (m.To.take k).length ≤ 40 := by rw [List.length_take]; omega
    exact Nat.le_trans h1 (Nat.mul_le_mul_right _ h2)
  refine loop_from (fun k => (((A + psum (m.To.take k) : Nat) : Int), (k : Int))) m.To.length BIG (by simp [psum]) (by simp only [BIG]; omega) (fun k hk => ?_) ?_
  · have hk' : k < m.To.length := hk
    have hix2 : ixO (k : Int) m.To.length = some k := ixO_of hk'
    have hg2 : getO m.To k = some m.To[k] := by simp [getO, hk']
    have hb1 := hb k
    have hpk := hm.2.2.2.2.2 m.To[k] (List.getElem_mem _)
    have hs := psum_take m.To k hk'
    refine bnd hix (bnd hg (cnd_t (decide_eq_true (by omega)) (bnd hix (bnd hg (bnd hix2 (bnd hg2 (bnd (wadd (by omega)) (bnd hix (bnd hg (bnd hix2 (bnd hg2 (bnd (wadd (by omega)) (bnd (congrArg some (wrap_succ (by omega))) ?_))))))))))))) 
    rw [hs]
    simp only [pW, Nat.add_assoc]
  · refine bnd hix (bnd hg (cnd_f (decide_eq_false (by omega)) ?_))
    simp only [List.take_length]
def LM (m : T_Mail) : Prop := m.To.length ≤ 40 ∧ mW m ≤ 20000
theorem mW_le {m : T_Mail} (hm : mRe m) (ht : m.To.length ≤ 40) : mW m ≤ 44 * 281474976710656 := by
  have h1 := psum_le 281474976710656 m.To (fun p hq => by have := hm.2.2.2.2.2 p hq; simp only [pW]; omega)
  have h2 : m.To.length * 281474976710656 ≤ 40 * 281474976710656 := Nat.mul_le_mul_right _ ht
  have := hm.1; have := hm.2.1; have := hm.2.2.1; have := hm.2.2.2.1
  simp only [mW]; omega
theorem heavy17 (l : List T_Mail) (hr : ∀ m ∈ l, mRe m) : ∃ b, wherrylaw17_Heavy l = some b ∧ (b = false → l.length ≤ 20 ∧ ∀ m ∈ l, LM m) := by
  by_cases hl : 20 < l.length
  · refine ⟨true, ?_, fun h => by cases h⟩
    simp only [wherrylaw17_Heavy]
    exact cnd_t (decide_eq_true (by omega)) rfl
  · have go : ∀ i, (hi : i < l.length) → l[i].To.length ≤ 40 → msum (l.take i) ≤ 20 * (44 * 281474976710656) → hvOut l (((msum (l.take i) : Nat) : Int), (i : Int)) = some (.inl (((msum (l.take (i + 1)) : Nat) : Int), ((i + 1 : Nat) : Int))) := by
      intro i hi ht hb
      have hix : ixO (i : Int) l.length = some i := ixO_of hi
      have hg : getO l i = some l[i] := by simp [getO, hi]
      have hm := hr l[i] (List.getElem_mem _)
      have hm1 := hm.1; have hm2 := hm.2.1; have hm3 := hm.2.2.1; have hm4 := hm.2.2.2.1
      refine cnd_t (decide_eq_true (by omega)) (bnd hix (bnd hg (bnd (wadd (by omega)) (bnd hix (bnd hg (bnd (wadd (by omega)) (bnd hix (bnd hg (bnd (wadd (by omega)) (bnd hix (bnd hg (bnd (wadd (by omega)) (bnd hix (bnd hg (cnd_f (decide_eq_false (by omega)) (bndL (hvIn_run l i hi hm ht _ (by omega)) (bnd (congrArg some (wrap_succ (by omega))) ?_)))))))))))))))))
      rw [msum_take l i hi]
      simp only [mW, Nat.add_assoc]
    have hs : ∀ k, k ≤ l.length → (∀ i, i < k → (h : i < l.length) → l[i].To.length ≤ 40) → msum (l.take k) ≤ 20 * (44 * 281474976710656) := by
      intro k hk ht
      have h1 := msum_le (44 * 281474976710656) (l.take k) (fun m hq => by
        obtain ⟨j, hj, e⟩ := List.mem_iff_getElem.1 hq
        rw [List.getElem_take] at e
        rw [List.length_take] at hj
        rw [← e]
        exact mW_le (hr _ (List.getElem_mem _)) (ht j (by omega) (by omega)))
      have h2 : (l.take k).length ≤ 20 := by rw [List.length_take]; omega
      exact Nat.le_trans h1 (Nat.mul_le_mul_right _ h2)
    rcases first_fail (fun i => decide (∀ h : i < l.length, l[i].To.length ≤ 40)) l.length with h | ⟨k, hk, h1, h2⟩
    · have ht : ∀ i, (h : i < l.length) → l[i].To.length ≤ 40 := fun i hi => of_decide_eq_true (h i hi) hi
      have hrun : loopF (hvOut l) BIG (0, 0) = some (.inl ((msum l : Nat) : Int)) := by
        refine loop_from (fun k => (((msum (l.take k) : Nat) : Int), (k : Int))) l.length BIG rfl (by simp only [BIG]; omega) (fun i hi => go i hi (ht i hi) (hs i (by omega) (fun j _ hj => ht j hj))) ?_
        refine cnd_f (decide_eq_false (by omega)) ?_
        simp only [List.take_length]
      refine ⟨decide ((20000 : Int) < ((msum l : Nat) : Int)), ?_, fun hd => ⟨by omega, fun m hm => ⟨?_, ?_⟩⟩⟩
      · simp only [wherrylaw17_Heavy]
        exact cnd_f (decide_eq_false (by omega)) (bndL hrun rfl)
      · obtain ⟨j, hj, e⟩ := List.mem_iff_getElem.1 hm
        rw [← e]; exact ht j hj
      · have := mW_le_msum hm
        have := of_decide_eq_false hd
        omega
    · have h2' : 40 < l[k].To.length := by
        have := of_decide_eq_false h2
        apply Classical.byContradiction
        intro hh
        exact this (fun _ => Nat.le_of_not_lt hh)
      have ht : ∀ i, i < k → (h : i < l.length) → l[i].To.length ≤ 40 := fun i hi h => of_decide_eq_true (h1 i hi) h
      have hrun : loopF (hvOut l) BIG (0, 0) = some (.inr true) := by
        refine loop_from (fun k => (((msum (l.take k) : Nat) : Int), (k : Int))) k BIG rfl (by simp only [BIG]; omega) (fun i hi => go i (by omega) (ht i hi (by omega)) (hs i (by omega) (fun j hj h => ht j (by omega) h))) ?_
        have hix : ixO (k : Int) l.length = some k := ixO_of hk
        have hg : getO l k = some l[k] := by simp [getO, hk]
        have hm := hr l[k] (List.getElem_mem _)
        have hm1 := hm.1; have hm2 := hm.2.1; have hm3 := hm.2.2.1; have hm4 := hm.2.2.2.1
        have hb := hs k (by omega) ht
        exact cnd_t (decide_eq_true (by omega)) (bnd hix (bnd hg (bnd (wadd (by omega)) (bnd hix (bnd hg (bnd (wadd (by omega)) (bnd hix (bnd hg (bnd (wadd (by omega)) (bnd hix (bnd hg (bnd (wadd (by omega)) (bnd hix (bnd hg (cnd_t (decide_eq_true (by omega)) rfl)))))))))))))))
      refine ⟨true, ?_, fun h => by cases h⟩
      simp only [wherrylaw17_Heavy]
      exact cnd_f (decide_eq_false (by omega)) (bndR hrun rfl)
def LR (r : T_Rec) : Prop := r.Data.length ≤ 600 ∧ r.Ids.length ≤ 60 ∧ LM r.Mail
theorem heavy18 (l : List T_Rec) (hr : ∀ r ∈ l, mRe r.Mail ∧ r.Data.length < 140737488355328 ∧ r.Ids.length < 140737488355328) (hn : l.length < 140737488355328) : ∃ b, wherrylaw18_Heavy l = some b ∧ (b = false → l.length ≤ 60 ∧ ∀ r ∈ l, LR r) := by
  by_cases hl : 60 < l.length
  · refine ⟨true, ?_, fun h => by cases h⟩
    simp only [wherrylaw18_Heavy]
    exact cnd_t (decide_eq_true (by omega)) rfl
  · -- a round
    have go : ∀ i, (hi : i < l.length) → ∃ b : Bool, hv18 l (i : Int) = some (if b then .inr (.inr true) else .inl ((i + 1 : Nat) : Int)) ∧ (b = false → LR l[i]) := by
      intro i hi
      have hix : ixO (i : Int) l.length = some i := ixO_of hi
      have hg : getO l i = some l[i] := by simp [getO, hi]
      have hm := hr l[i] (List.getElem_mem _)
      by_cases h1 : 600 < l[i].Data.length
      · refine ⟨true, cnd_t (decide_eq_true (by omega)) (bndL (bnd hix (bnd hg (cnd_t (decide_eq_true (by omega)) rfl))) rfl), fun h => by cases h⟩
      · by_cases h2 : 60 < l[i].Ids.length
        · refine ⟨true, cnd_t (decide_eq_true (by omega)) (bndL (bnd hix (bnd hg (cnd_f (decide_eq_false (by omega)) (bnd hix (bnd hg (cnd_t (decide_eq_true (by omega)) rfl)))))) rfl), fun h => by cases h⟩
        · obtain ⟨b, hb, hbl⟩ := heavy17 [l[i].Mail] (fun m hq => by rw [List.mem_singleton.1 hq]; exact hm.1)
          refine ⟨b, cnd_t (decide_eq_true (by omega)) (bndL (s := b) (bnd hix (bnd hg (cnd_f (decide_eq_false (by omega)) (bnd hix (bnd hg (cnd_f (decide_eq_false (by omega)) (bnd hix (bnd hg (bnd hb rfl))))))))) ?_), fun h => ⟨by omega, by omega, (hbl h).2 _ (List.mem_singleton.2 rfl)⟩⟩
          cases b
          · exact cnd_f rfl (bnd (congrArg some (wrap_succ (by omega))) rfl)
          · rfl
    have hc : ∃ p : Nat → Bool, ∀ i, (hi : i < l.length) → hv18 l (i : Int) = some (if p i then .inl ((i + 1 : Nat) : Int) else .inr (.inr true)) ∧ (p i = true → LR l[i]) := by
      classical
      refine ⟨fun i => if hi : i < l.length then !(Classical.choose (go i hi)) else true, fun i hi => ?_⟩
      have := Classical.choose_spec (go i hi)
      simp only [hi, dif_pos]
      generalize Classical.choose (go i hi) = b at this
      cases b
      · exact ⟨this.1, fun _ => this.2 rfl⟩
      · exact ⟨this.1, fun h => by simp at h⟩
    obtain ⟨p, hp⟩ := hc
    have hrun := loop_all (f := hv18 l) p l.length true (fuel := BIG) (by simp only [BIG]; omega) (fun i hi h => by have := (hp i hi).1; rw [h] at this; exact this) (fun i hi h => by have := (hp i hi).1; rw [h] at this; exact this) (cnd_f (decide_eq_false (by omega)) rfl)
    by_cases h : ∀ i, i < l.length → p i = true
    · rw [if_pos h] at hrun
      refine ⟨false, ?_, fun _ => ⟨by omega, fun r hq => ?_⟩⟩
      · simp only [wherrylaw18_Heavy]
        exact cnd_f (decide_eq_false (by omega)) (bndL hrun rfl)
      · obtain ⟨j, hj, e⟩ := List.mem_iff_getElem.1 hq
        rw [← e]; exact (hp j hj).2 (h j hj)
    · rw [if_neg h] at hrun
      refine ⟨true, ?_, fun h => by cases h⟩
      simp only [wherrylaw18_Heavy]
      exact cnd_f (decide_eq_false (by omega)) (bndR hrun rfl)
end Go.Abs.Sh
