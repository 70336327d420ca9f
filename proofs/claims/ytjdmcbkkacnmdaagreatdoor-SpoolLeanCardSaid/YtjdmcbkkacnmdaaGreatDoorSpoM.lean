import Derived.Test.YtjdmcbkkacnmdaaGreatDoorSpoJ
namespace Go.Abs.Sh
set_option linter.unusedVariables false
set_option linter.unusedSimpArgs false
/-! What is lean tells the same. -/
def base (s : T_Spool) : T_Spool := ⟨s.Items, s.Packs, s.Sent, [], -1, s.Done⟩
def begB (r : T_Rec) : Prop := r.Kind = 5 ∧ r.Offset = 0
def OInv (s : T_Spool) : Prop := (s.Of = -1 ∧ s.Part = []) ∨ (1 ≤ s.Of ∧ s.Of ∉ s.Done)
theorem opn_of {s : T_Spool} {n : Int} (h : opn s n = true) : 1 ≤ n ∧ n ≤ 65535 ∧ n ∉ s.Done := by
  simp only [opn, Bool.and_eq_true, decide_eq_true_eq, Bool.not_eq_true', decide_eq_false_iff_not] at h
  exact ⟨h.1.1, h.1.2, h.2⟩
theorem oinv_eff {s : T_Spool} {r : T_Rec} (hs : OInv s) (ho : okS s r = true) : OInv (eff s r) := by
  rcases okS_ok ho with ⟨k, _⟩ | ⟨k, _⟩ | ⟨k, _⟩ | ⟨k, _⟩ | ⟨k, a, b⟩ | ⟨k, a⟩
  · rw [eff1 k]; exact hs
  · rw [eff2 k]; exact hs
  · rw [eff3 k]; exact hs
  · rw [eff4 k]; exact hs
  · rw [eff5 k]
    have h := opn_of a
    simp only [ckB, Bool.and_eq_true, Bool.or_eq_true, decide_eq_true_eq] at b
    by_cases h0 : r.Offset = 0
    · rw [if_pos h0, if_pos h0]
      exact .inr ⟨h.1, h.2.2⟩
    · rw [if_neg h0, if_neg h0]
      have h1 := (b.2.resolve_left h0).1
      exact .inr ⟨by rw [h1]; exact h.1, by rw [h1]; exact h.2.2⟩
  · rw [eff6 k]
    by_cases h0 : s.Of = r.Number
    · rw [if_pos h0, if_pos h0]
      exact .inl ⟨rfl, rfl⟩
    · rw [if_neg h0, if_neg h0]
      rcases hs with h | h
      · exact .inl h
      · exact .inr ⟨h.1, fun hm => (insS_mem.1 hm).elim h0 h.2⟩
theorem oinv_run : ∀ (l : List T_Rec) (s : T_Spool), OInv s → allOk s l → OInv (runS s l)
  | [], s, h, _ => h
  | r :: l, s, h, ha => oinv_run l (eff s r) (oinv_eff h ha.1) ha.2
theorem base_ok {s : T_Spool} {r : T_Rec} (h5 : r.Kind ≠ 5) : okS (base s) r = okS s r := by
  unfold okS
  rw [if_neg h5, if_neg h5]
  rfl
theorem base_eff {s : T_Spool} {r : T_Rec} (h5 : r.Kind ≠ 5) (ho : okS s r = true) : eff (base s) r = base (eff s r) := by
  rcases okS_ok ho with ⟨k, _⟩ | ⟨k, _⟩ | ⟨k, _⟩ | ⟨k, _⟩ | ⟨k, a, b⟩ | ⟨k, a⟩
  · rw [eff1 k, eff1 k]; rfl
  · rw [eff2 k, eff2 k]; rfl
  · rw [eff3 k, eff3 k]; rfl
  · rw [eff4 k, eff4 k]; rfl
  · exact absurd k h5
  · rw [eff6 k, eff6 k]
    have h := opn_of a
    have hne : ¬ ((-1 : Int) = r.Number) := by omega
    show (⟨s.Items, s.Packs, s.Sent, if (-1 : Int) = r.Number then [] else [], if (-1 : Int) = r.Number then -1 else -1, insS s.Done r.Number⟩ : T_Spool) = _
    rw [if_neg hne, if_neg hne]; rfl
theorem base_chunk {s : T_Spool} {r : T_Rec} (h5 : r.Kind = 5) : base (eff s r) = base s := by rw [eff5 h5]; rfl
theorem nc_run : ∀ (l : List T_Rec) (s : T_Spool), allOk s l → allOk (base s) (nc l) ∧ runS (base s) (nc l) = base (runS s l)
  | [], s, _ => ⟨trivial, rfl⟩
  | r :: l, s, h => by
    have ih := nc_run l (eff s r) h.2
    by_cases h5 : r.Kind = 5
    · have e : nc (r :: l) = nc l := by simp [nc, h5]
      rw [e]
      rw [base_chunk h5] at ih
      exact ih
    · have e : nc (r :: l) = r :: nc l := by simp [nc, h5]
      rw [e]
      rw [← base_eff h5 h.1] at ih
      exact ⟨⟨by rw [base_ok h5]; exact h.1, ih.1⟩, ih.2⟩
theorem base_beg {s : T_Spool} {r : T_Rec} (hb : begB r) : okS (base s) r = okS s r ∧ eff (base s) r = eff s r := by
  obtain ⟨h5, h0⟩ := hb
  refine ⟨?_, ?_⟩
  · unfold okS ckB
    rw [if_pos h5, if_pos h5, decide_eq_true h0, Bool.true_or, Bool.true_or]
    rfl
  · rw [eff5 h5, eff5 h5, if_pos h0, if_pos h0, if_pos h0, if_pos h0]; rfl
theorem same_bundle (N : Int) : ∀ (l : List T_Rec) (s : T_Spool), allOk s l → (∀ r ∈ l, ¬ begB r) → (s.Of = N ∨ s.Of = -1) → (∀ r ∈ l, r.Kind = 5 → r.Number = N ∧ 1 ≤ N) ∧ ((runS s l).Of = N ∨ (runS s l).Of = -1)
  | [], s, _, _, ho => ⟨fun r h => absurd h (by simp), ho⟩
  | r :: l, s, ha, hb, ho => by
    have hnb := hb r List.mem_cons_self
    have hof : (eff s r).Of = N ∨ (eff s r).Of = -1 := by
      rcases okS_ok ha.1 with ⟨k, _⟩ | ⟨k, _⟩ | ⟨k, _⟩ | ⟨k, _⟩ | ⟨k, a, b⟩ | ⟨k, a⟩
      · rw [eff1 k]; exact ho
      · rw [eff2 k]; exact ho
      · rw [eff3 k]; exact ho
      · rw [eff4 k]; exact ho
      · rw [eff5 k, if_neg (fun h => hnb ⟨k, h⟩), if_neg (fun h => hnb ⟨k, h⟩)]; exact ho
      · rw [eff6 k]
        show (if s.Of = r.Number then -1 else s.Of) = N ∨ (if s.Of = r.Number then -1 else s.Of) = -1
        split
        · exact .inr rfl
        · exact ho
    have ih := same_bundle N l (eff s r) ha.2 (fun x hx => hb x (List.mem_cons_of_mem _ hx)) hof
    refine ⟨fun x hx h5 => ?_, ih.2⟩
    rcases List.mem_cons.1 hx with rfl | hx
    · rcases okS_ok ha.1 with ⟨k, _⟩ | ⟨k, _⟩ | ⟨k, _⟩ | ⟨k, _⟩ | ⟨k, a, b⟩ | ⟨k, a⟩
      · omega
      · omega
      · omega
      · omega
      · have h := opn_of a
        simp only [ckB, Bool.and_eq_true, Bool.or_eq_true, decide_eq_true_eq] at b
        have h1 := (b.2.resolve_left (fun h => hnb ⟨k, h⟩)).1
        rcases ho with ho | ho
        · omega
        · omega
      · omega
    · exact ih.1 x hx h5
theorem last_spec : ∀ (l : List T_Rec) (i c : Nat), ((∀ r ∈ l, ¬ begB r) ∧ lastF i c l = c) ∨ ∃ a r b, l = a ++ r :: b ∧ begB r ∧ (∀ x ∈ b, ¬ begB x) ∧ lastF i c l = i + a.length
  | [], i, c => .inl ⟨fun r h => absurd h (by simp), rfl⟩
  | r :: l, i, c => by
    simp only [lastF]
    by_cases hb : r.Kind = 5 ∧ r.Offset = 0
    · rw [if_pos hb]
      rcases last_spec l (i + 1) i with ⟨h1, h2⟩ | ⟨a, x, b, h1, h2, h3, h4⟩
      · exact .inr ⟨[], r, l, rfl, hb, h1, by rw [h2]; rfl⟩
      · exact .inr ⟨r :: a, x, b, by rw [h1]; rfl, h2, h3, by rw [h4]; simp only [List.length_cons]; omega⟩
    · rw [if_neg hb]
      rcases last_spec l (i + 1) c with ⟨h1, h2⟩ | ⟨a, x, b, h1, h2, h3, h4⟩
      · refine .inl ⟨fun y hy => ?_, h2⟩
        rcases List.mem_cons.1 hy with rfl | hy
        · exact hb
        · exact h1 y hy
      · exact .inr ⟨r :: a, x, b, by rw [h1]; rfl, h2, h3, by rw [h4]; simp only [List.length_cons]; omega⟩
theorem lean_app (k : Nat) (D : List Int) : ∀ (a b : List T_Rec) (i : Nat), leanF k D i (a ++ b) = leanF k D i a ++ leanF k D (i + a.length) b
  | [], b, i => rfl
  | r :: a, b, i => by
    have := lean_app k D a b (i + 1)
    have e : i + 1 + a.length = i + (r :: a).length := by simp only [List.length_cons]; omega
    rw [e] at this
    simp only [List.cons_append, leanF]
    split
    · exact this
    · rw [this]; rfl
theorem lean_lo (k : Nat) (D : List Int) : ∀ (l : List T_Rec) (i : Nat), i + l.length ≤ k → leanF k D i l = nc l
  | [], i, _ => rfl
  | r :: l, i, h => by
    simp only [List.length_cons] at h
    have ih := lean_lo k D l (i + 1) (by omega)
    simp only [leanF]
    by_cases h5 : r.Kind = 5
    · rw [if_pos ⟨h5, .inl (by omega)⟩, ih]; simp [nc, h5]
    · rw [if_neg (fun h => h5 h.1), ih]; simp [nc, h5]
theorem lean_D (k : Nat) (D : List Int) : ∀ (l : List T_Rec) (i : Nat), (∀ r ∈ l, r.Kind = 5 → r.Number ∈ D) → leanF k D i l = nc l
  | [], i, _ => rfl
  | r :: l, i, h => by
    have ih := lean_D k D l (i + 1) (fun x hx => h x (List.mem_cons_of_mem _ hx))
    simp only [leanF]
    by_cases h5 : r.Kind = 5
    · rw [if_pos ⟨h5, .inr (h r List.mem_cons_self h5)⟩, ih]; simp [nc, h5]
    · rw [if_neg (fun h => h5 h.1), ih]; simp [nc, h5]
theorem lean_keep (k : Nat) (D : List Int) : ∀ (l : List T_Rec) (i : Nat), (∀ r ∈ l, r.Kind = 5 → r.Number ∉ D) → k ≤ i → leanF k D i l = l
  | [], i, _, _ => rfl
  | r :: l, i, h, hk => by
    have ih := lean_keep k D l (i + 1) (fun x hx => h x (List.mem_cons_of_mem _ hx)) (by omega)
    simp only [leanF]
    rw [if_neg (fun hc => hc.2.elim (by omega) (h r List.mem_cons_self hc.1)), ih]
theorem lean_none (k : Nat) (D : List Int) : ∀ (l : List T_Rec) (i : Nat), (∀ r ∈ l, r.Kind ≠ 5) → leanF k D i l = l
  | [], i, _ => rfl
  | r :: l, i, h => by
    have ih := lean_none k D l (i + 1) (fun x hx => h x (List.mem_cons_of_mem _ hx))
    simp only [leanF]
    rw [if_neg (fun hc => h r List.mem_cons_self hc.1), ih]
theorem nc_no (l : List T_Rec) : ∀ r ∈ nc l, r.Kind ≠ 5 := fun r h => by simpa using (List.mem_filter.1 h).2
theorem nc_app (a b : List T_Rec) : nc (a ++ b) = nc a ++ nc b := List.filter_append _ _
theorem base_new : base newSp = newSp := rfl
theorem base_id {s : T_Spool} (h1 : s.Of = -1) (h2 : s.Part = []) : base s = s := by
  cases s; simp only [base] at *; rw [h1, h2]
theorem lean_main (m : List T_Rec) (ha : allOk newSp m) : allOk newSp (leanF (lastF 0 0 m) (runS newSp m).Done 0 m) ∧ runS newSp (leanF (lastF 0 0 m) (runS newSp m).Done 0 m) = runS newSp m ∧
    leanF (lastF 0 0 (leanF (lastF 0 0 m) (runS newSp m).Done 0 m)) (runS newSp m).Done 0 (leanF (lastF 0 0 m) (runS newSp m).Done 0 m) = leanF (lastF 0 0 m) (runS newSp m).Done 0 m := by
  rcases last_spec m 0 0 with ⟨hb, _⟩ | ⟨a, r, b, rfl, hr, hb, hl⟩
  · have hno : ∀ r ∈ m, r.Kind ≠ 5 := fun r h h5 => by
      have := (same_bundle (-1) m newSp ha hb (.inl rfl)).1 r h h5
      omega
    rw [lean_none _ _ m 0 hno, lean_none _ _ m 0 hno]
    exact ⟨ha, rfl, rfl⟩
  · rw [hl, Nat.zero_add]
    have ha1 := (allOk_app newSp a (r :: b)).1 ha
    have hn := nc_run a newSp ha1.1
    rw [base_new] at hn
    have hbeg := base_beg (s := runS newSp a) hr
    have hof : (eff (runS newSp a) r).Of = r.Number := by rw [eff5 hr.1]; simp only [if_pos hr.2]
    have hsb := same_bundle r.Number b (eff (runS newSp a) r) ha1.2.2 hb (.inl hof)
    have hfin : runS newSp (a ++ r :: b) = runS (eff (runS newSp a) r) b := by rw [runS_app]; rfl
    have hnum : ∀ x ∈ r :: b, x.Kind = 5 → x.Number = r.Number := fun x hx h5 => by
      rcases List.mem_cons.1 hx with rfl | hx
      · rfl
      · exact (hsb.1 x hx h5).1
    by_cases hd : r.Number ∈ (runS newSp (a ++ r :: b)).Done
    · have e : leanF a.length (runS newSp (a ++ r :: b)).Done 0 (a ++ r :: b) = nc (a ++ r :: b) := by
        rw [lean_app, lean_lo _ _ a 0 (by omega), lean_D _ _ (r :: b) _ (fun x hx h5 => by rw [hnum x hx h5]; exact hd), nc_app]
      rw [e, lean_none _ _ _ 0 (nc_no _)]
      have hall := nc_run (a ++ r :: b) newSp ha
      rw [base_new] at hall
      have ho := oinv_run (a ++ r :: b) newSp (.inl ⟨rfl, rfl⟩) ha
      have hbase : base (runS newSp (a ++ r :: b)) = runS newSp (a ++ r :: b) := by
        rcases ho with h | h
        · exact base_id h.1 h.2
        · rw [← hfin] at hsb
          rcases hsb.2 with h2 | h2
          · exact absurd (by rw [h2]; exact hd) h.2
          · omega
      exact ⟨hall.1, by rw [hall.2, hbase], rfl⟩
    · have e : leanF a.length (runS newSp (a ++ r :: b)).Done 0 (a ++ r :: b) = nc a ++ r :: b := by
        rw [lean_app, lean_lo _ _ a 0 (by omega), lean_keep _ _ (r :: b) _ (fun x hx h5 => by rw [hnum x hx h5]; exact hd) (by omega)]
      rw [e]
      refine ⟨?_, ?_, ?_⟩
      · rw [allOk_app, hn.2]
        exact ⟨hn.1, by rw [hbeg.1]; exact ha1.2.1, by rw [hbeg.2]; exact ha1.2.2⟩
      · rw [runS_app, hn.2, hfin]
        show runS (eff (base (runS newSp a)) r) b = _
        rw [hbeg.2]
      · have hl2 : lastF 0 0 (nc a ++ r :: b) = (nc a).length := by
          rcases last_spec (nc a ++ r :: b) 0 0 with ⟨h1, _⟩ | ⟨a2, r2, b2, h1, h2, h3, h4⟩
          · exact absurd hr (h1 r (by simp))
          · rw [h4, Nat.zero_add]
            have hc : ∀ (p q : List T_Rec) (x y : T_Rec) (u v : List T_Rec), p ++ x :: u = q ++ y :: v → (∀ z ∈ p, ¬ begB z) → begB x → (∀ z ∈ u, ¬ begB z) → begB y → q.length = p.length := by
              intro p
              induction p with
              | nil =>
                intro q x y u v h _ hx hu hy
                cases q with
                | nil => rfl
                | cons z q =>
                  simp only [List.nil_append, List.cons_append, List.cons.injEq] at h
                  exact absurd hy (hu y (by rw [h.2]; simp))
              | cons w p ih =>
                intro q x y u v h hp hx hu hy
                cases q with
                | nil =>
                  simp only [List.nil_append, List.cons_append, List.cons.injEq] at h
                  exact absurd (h.1 ▸ hy) (hp w List.mem_cons_self)
                | cons z q =>
                  simp only [List.cons_append, List.cons.injEq] at h
                  have := ih q x y u v h.2 (fun z hz => hp z (List.mem_cons_of_mem _ hz)) hx hu hy
                  simp only [List.length_cons, this]
            exact hc (nc a) a2 r r2 b b2 h1 (fun z hz hz' => nc_no a z hz hz'.1) hr hb h2
        rw [hl2, lean_app, lean_none _ _ (nc a) 0 (nc_no a), lean_keep _ _ (r :: b) _ (fun x hx h5 => by rw [hnum x hx h5]; exact hd) (by omega)]
end Go.Abs.Sh
