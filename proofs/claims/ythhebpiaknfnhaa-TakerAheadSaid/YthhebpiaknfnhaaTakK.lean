import Derived.Test.YthhebpiaknfnhaaTakD
namespace Go.Abs.Sh
set_option linter.unusedVariables false
set_option linter.unusedSimpArgs false
def room (r : T_Rec) : Nat := 24 + (r.Data.length + r.Mail.Body.length + r.Mail.Helo.size) + 80 * (1 + r.Mail.To.length) + 8 * r.Ids.length
theorem app_nil {A : Type} {k : Nat} {l : List A} (h : l.length * k ≤ 140737488355328) (h1 : l.length ≤ 140737488355328) : appO k [] l = some l := by
  rw [app_of (by simpa using h) (by simpa using h1)]; rfl
theorem re_of {r : T_Rec} (h : T_Rec.wz r) : mRe r.Mail ∧ r.Data.length < 140737488355328 ∧ r.Ids.length < 140737488355328 := by
  obtain ⟨_, ⟨⟨_, h1, h2⟩, ⟨h3, h4⟩, ⟨h5, _⟩, _, h6, _⟩, _, ⟨h7, _⟩, _, _, _, ⟨h8, _⟩⟩ := h
  simp only [wzS, reachBytes] at h1 h2 h6
  simp only [reachBytes] at h3 h5 h7 h8
  refine ⟨⟨by omega, by omega, by omega, by omega, by omega, fun p hp => ?_⟩, by omega, by omega⟩
  have := h4 p hp
  simp only [T_Path.wz, wzS, reachBytes] at this
  omega
def paS (a b : List T_Path) : ((Int)) → Option ((Int) ⊕ ((Unit) ⊕ Bool)) := (fun (s13 : Int) =>
    cond ((decide (s13 < (a.length : Int))))
      ((ixO s13 a.length).bind fun v3 =>
      (getO a v3).bind fun v4 =>
      (ixO s13 b.length).bind fun v5 =>
      (getO b v5).bind fun v6 =>
      (wherrykeep_Path v4 v6).bind fun v7 =>
      cond ((!v7))
        (some (.inr (.inr (false))))
        ((some (IntKind.i64.wrap (s13 + 1))).bind fun v9 =>
        some (.inl v9)))
      (some (.inr (.inl ()))))
def inS (a b : List Int) : ((Int)) → Option ((Int) ⊕ ((Unit) ⊕ Bool)) := (fun (s12 : Int) =>
    cond ((decide (s12 < (a.length : Int))))
      ((ixO s12 a.length).bind fun v3 =>
      (getO a v3).bind fun v4 =>
      (ixO s12 b.length).bind fun v5 =>
      (getO b v5).bind fun v6 =>
      cond ((v4 != v6))
        (some (.inr (.inr (false))))
        ((some (IntKind.i64.wrap (s12 + 1))).bind fun v8 =>
        some (.inl v8)))
      (some (.inr (.inl ()))))
theorem take_succ {A : Type} (l : List A) (k : Nat) (hk : k < l.length) : l.take (k + 1) = l.take k ++ [l[k]] := by
  rw [List.take_add_one, List.getElem?_eq_getElem hk]; rfl
/-! Numbers that rise: one more put among them. -/
def insS : List Int → Int → List Int
  | [], n => [n]
  | a :: l, n => if a < n then a :: insS l n else n :: a :: l
theorem insS_mem {x n : Int} : ∀ {l : List Int}, x ∈ insS l n ↔ x = n ∨ x ∈ l
  | [] => by simp [insS]
  | a :: l => by
    simp only [insS]
    split
    · simp only [List.mem_cons, insS_mem (l := l)]
      constructor
      · rintro (h | h | h)
        · exact .inr (.inl h)
        · exact .inl h
        · exact .inr (.inr h)
      · rintro (h | h | h)
        · exact .inr (.inl h)
        · exact .inl h
        · exact .inr (.inr h)
    · simp only [List.mem_cons]
theorem insS_len {n : Int} : ∀ {l : List Int}, (insS l n).length = l.length + 1
  | [] => rfl
  | a :: l => by
    simp only [insS]
    split
    · simp only [List.length_cons, insS_len (l := l)]
    · simp only [List.length_cons]
def Srt (l : List Int) : Prop := l.Pairwise (· < ·)
theorem insS_srt {n : Int} : ∀ {l : List Int}, Srt l → n ∉ l → Srt (insS l n)
  | [], _, _ => by simp [insS, Srt]
  | a :: l, h, hn => by
    have h1 : ∀ x ∈ l, a < x := (List.pairwise_cons.1 h).1
    have h2 : Srt l := (List.pairwise_cons.1 h).2
    simp only [insS]
    split
    · rename_i hlt
      refine List.Pairwise.cons (fun x hx => ?_) (insS_srt h2 (fun hm => hn (List.mem_cons_of_mem _ hm)))
      rcases insS_mem.1 hx with rfl | hx
      · exact hlt
      · exact h1 x hx
    · rename_i hlt
      have hne : n ≠ a := fun e => hn (by rw [e]; exact List.mem_cons_self)
      refine List.Pairwise.cons (fun x hx => ?_) h
      rcases List.mem_cons.1 hx with rfl | hx
      · omega
      · have := h1 x hx; omega
theorem ins_at {n : Int} : ∀ {l : List Int} {p : Nat}, p ≤ l.length → (∀ i (h : i < l.length), i < p → l[i] < n) → (∀ i (h : i < l.length), p ≤ i → n ≤ l[i]) → l.take p ++ ([n] ++ l.drop p) = insS l n
  | [], p, hp, _, _ => by
    simp only [List.length_nil] at hp
    obtain rfl : p = 0 := by omega
    rfl
  | a :: l, 0, hp, _, h2 => by
    have := h2 0 (by simp) (by omega)
    simp only [List.getElem_cons_zero] at this
    simp only [insS, if_neg (by omega : ¬ a < n)]
    rfl
  | a :: l, p + 1, hp, h1, h2 => by
    have := h1 0 (by simp) (by omega)
    simp only [List.getElem_cons_zero] at this
    simp only [insS, if_pos this]
    have hr := ins_at (n := n) (l := l) (p := p) (by simpa using hp) (fun i h hi => h1 (i + 1) (by simpa using h) (by omega)) (fun i h hi => h2 (i + 1) (by simpa using h) (by omega))
    rw [← hr]; rfl
theorem srt_lt {l : List Int} (h : Srt l) {i j : Nat} (hj : j < l.length) (hij : i < j) : l[i] < l[j] := List.pairwise_iff_getElem.1 h i j (by omega) hj hij
theorem index_eq (l : List Int) (v : Int) (hl : l.length < 4294967296) : ∃ k : Int, slices_Index_int_int l v = some k ∧ (decide (0 ≤ k)) = decide (v ∈ l) := by
  unfold slices_Index_int_int
  rcases first_fail (fun i => decide (l[i]? ≠ some v)) l.length with h | ⟨k, hk, h1, h2⟩
  · refine ⟨-1, ?_, ?_⟩
    · refine bndL (s := ()) (loop_from (fun i => ((i : Nat) : Int)) l.length BIG rfl (by simp only [BIG]; omega) (fun i hi => ?_) ?_) rfl
      · have hx := of_decide_eq_true (h i hi)
        rw [List.getElem?_eq_getElem hi] at hx
        refine cnd_t (decide_eq_true (by omega)) (bnd (ixO_of hi) (bnd (by simp [getO, hi] : getO l i = some l[i]) (cnd_f ?_ (bnd (congrArg some (wrap_succ (by omega))) rfl))))
        exact beq_eq_false_iff_ne.2 (fun e => hx (by rw [e]))
      · exact cnd_f (decide_eq_false (by omega)) rfl
    · rw [decide_eq_false (by omega)]
      refine (decide_eq_false fun hm => ?_).symm
      obtain ⟨i, hi, he⟩ := List.getElem_of_mem hm
      have hx := of_decide_eq_true (h i hi)
      exact hx (by rw [List.getElem?_eq_getElem hi, he])
  · refine ⟨k, ?_, ?_⟩
    · refine bndR (a := ((k : Nat) : Int)) (loop_from (fun i => ((i : Nat) : Int)) k BIG rfl (by simp only [BIG]; omega) (fun i hi => ?_) ?_) rfl
      · have hi' : i < l.length := by omega
        have hx := of_decide_eq_true (h1 i hi)
        rw [List.getElem?_eq_getElem hi'] at hx
        refine cnd_t (decide_eq_true (by omega)) (bnd (ixO_of hi') (bnd (by simp [getO, hi'] : getO l i = some l[i]) (cnd_f ?_ (bnd (congrArg some (wrap_succ (by omega))) rfl))))
        exact beq_eq_false_iff_ne.2 (fun e => hx (by rw [e]))
      · have hx : l[k]? = some v := by simpa using h2
        rw [List.getElem?_eq_getElem hk] at hx
        exact cnd_t (decide_eq_true (by omega)) (bnd (ixO_of hk) (bnd (by simp [getO, hk] : getO l k = some l[k]) (cnd_t (by rw [Option.some.inj hx]; exact beq_self_eq_true v) rfl)))
    · have hx : l[k]? = some v := by simpa using h2
      rw [List.getElem?_eq_getElem hk] at hx
      rw [decide_eq_true (by omega), decide_eq_true (Option.some.inj hx ▸ List.getElem_mem hk)]
theorem contains_eq (l : List Int) (v : Int) (hl : l.length < 4294967296) : slices_Contains_int_int l v = some (decide (v ∈ l)) := by
  obtain ⟨k, h1, h2⟩ := index_eq l v hl
  unfold slices_Contains_int_int
  exact bnd h1 (by rw [h2])
theorem shr_half (a : Nat) (ha : a < 9223372036854775808) : shrO .u64 (a : Int) 1 = some ((a / 2 : Nat) : Int) := by
  simp only [shrO]
  rw [if_pos (by omega)]
  have e : min (Int.toNat 1) IntKind.u64.bits = 1 := rfl
  rw [e, Int.fdiv_eq_ediv_of_nonneg _ (by omega)]
  congr 1
theorem u64_wrap {n : Int} (h0 : 0 ≤ n) (h1 : n < 18446744073709551616) : IntKind.u64.wrap n = n := by
  have e : (2 : Int) ^ 64 = 18446744073709551616 := by decide
  simp only [IntKind.wrap, IntKind.bits, IntKind.signed]
  simp only [e, Bool.false_and, Bool.false_eq_true, if_false]
  omega
end Go.Abs.Sh
