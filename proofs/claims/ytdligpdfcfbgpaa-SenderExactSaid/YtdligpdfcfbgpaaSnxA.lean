import Derived.Test.YtdligpdfcfbgpaaFrameM
import Derived.Test.YtdligpdfcfbgpaaSendM
import Derived.Test.YtdligpdfcfbgpaaLawM
import Derived.KernelRfl
namespace Go.Abs.Sh
set_option linter.unusedVariables false
set_option linter.unusedSimpArgs false
set_option maxRecDepth 10000
theorem refFrame_eqS (f : T_Frame) (h : f.Data.length < 4294967296) : wherryref18_Frame f = some (good f) := by
  unfold wherryref18_Frame
  simp only [in_eq, Option.bind_some]
  have hk : ∀ (a b c : Int) (l : List Int), l.length < 4294967296 → wherrykeep_Frame (T_Frame.mk f.Kind a b c l) f = some (decide (a = f.Number) && (decide (b = f.Offset) && (decide (c = f.Seq) && decide (l = f.Data)))) := by
    intro a b c l hl
    rw [keepFrame_eq _ _ hl]
    cases f
    simp [Bool.decide_and]
  have hne : ∀ x : List Int, ([] = x) ↔ x.length = 0 := by intro x; cases x <;> simp
  have e4 : decide (1 ≤ (f.Data.length : Int)) = decide (1 ≤ f.Data.length) := by by_cases h : 1 ≤ f.Data.length <;> simp [h] <;> omega
  have e5 : decide ((f.Data.length : Int) ≤ 48) = decide (f.Data.length ≤ 48) := by by_cases h : f.Data.length ≤ 48 <;> simp [h] <;> omega
  have z1 : ∀ x : Int, decide (0 = x) = (x == 0) := by intro x; rw [Bool.eq_iff_iff]; simp; exact eq_comm
  have z2 : decide (([] : List Int) = f.Data) = (f.Data.length == 0) := by rw [Bool.eq_iff_iff]; cases f.Data <;> simp
  have n0 : ([] : List Int).length < 4294967296 := by simp
  unfold good offIn seqIn numIn
  have e6 : decide (1 ≤ f.Data.length) = !(f.Data.length == 0) := by cases h : f.Data.length <;> simp
  have k : f.Kind = 1 ∨ f.Kind = 2 ∨ f.Kind = 3 ∨ f.Kind = 4 ∨ f.Kind = 5 ∨ ((f.Kind == 1) = false ∧ (f.Kind == 2) = false ∧ (f.Kind == 3) = false ∧ (f.Kind == 4) = false ∧ (f.Kind == 5) = false) := by
    by_cases h1 : f.Kind = 1
    · exact .inl h1
    by_cases h2 : f.Kind = 2
    · exact .inr (.inl h2)
    by_cases h3 : f.Kind = 3
    · exact .inr (.inr (.inl h3))
    by_cases h4 : f.Kind = 4
    · exact .inr (.inr (.inr (.inl h4)))
    by_cases h5 : f.Kind = 5
    · exact .inr (.inr (.inr (.inr (.inl h5))))
    exact .inr (.inr (.inr (.inr (.inr (by simp [h1, h2, h3, h4, h5])))))
  have a0 : decide (0 ≤ f.Number) = decide (0 ≤ f.Number) := rfl
  rcases k with h1 | h1 | h1 | h1 | h1 | ⟨k1, k2, k3, k4, k5⟩
  · have hk1 := hk; rw [h1] at hk1
    simp only [h1, hk1 _ _ _ _ n0, hk1 _ _ _ _ h, e4, e5, e6, z1, z2, Option.bind_some, b_inl, cond_true, cond_false, beq_self_eq_true, eq_self_iff_true, decide_true, Bool.true_and, c_and, show ((1 : Int) == 1) = true from rfl, show ((1 : Int) == 2) = false from rfl, show ((1 : Int) == 3) = false from rfl, show ((1 : Int) == 4) = false from rfl, show ((1 : Int) == 5) = false from rfl]
    cases decide (1 ≤ f.Number) <;> cases decide (f.Number ≤ 65535) <;> cases (f.Seq == 0) <;> cases (f.Data.length == 0) <;> cases decide (0 ≤ f.Offset) <;> cases decide (f.Offset ≤ 5000) <;> rfl
  · have hk1 := hk; rw [h1] at hk1
    simp only [h1, hk1 _ _ _ _ n0, hk1 _ _ _ _ h, e4, e5, e6, z1, z2, Option.bind_some, b_inl, cond_true, cond_false, beq_self_eq_true, eq_self_iff_true, decide_true, Bool.true_and, c_and, show ((2 : Int) == 1) = false from rfl, show ((2 : Int) == 2) = true from rfl, show ((2 : Int) == 3) = false from rfl, show ((2 : Int) == 4) = false from rfl, show ((2 : Int) == 5) = false from rfl]
    cases decide (1 ≤ f.Number) <;> cases decide (f.Number ≤ 65535) <;> cases (f.Seq == 0) <;> cases (f.Data.length == 0) <;> cases decide (0 ≤ f.Offset) <;> cases decide (f.Offset ≤ 5000) <;> rfl
  · have hk1 := hk; rw [h1] at hk1
    simp only [h1, hk1 _ _ _ _ n0, hk1 _ _ _ _ h, e4, e5, e6, z1, z2, Option.bind_some, b_inl, cond_true, cond_false, beq_self_eq_true, eq_self_iff_true, decide_true, Bool.true_and, c_and, show ((3 : Int) == 1) = false from rfl, show ((3 : Int) == 2) = false from rfl, show ((3 : Int) == 3) = true from rfl, show ((3 : Int) == 4) = false from rfl, show ((3 : Int) == 5) = false from rfl]
    cases decide (1 ≤ f.Number) <;> cases decide (f.Number ≤ 65535) <;> cases decide (0 ≤ f.Offset) <;> cases decide (f.Offset ≤ 5000) <;> cases decide (0 ≤ f.Seq) <;> cases decide (f.Seq ≤ 7) <;> cases (f.Data.length == 0) <;> cases decide (f.Data.length ≤ 48) <;> rfl
  · have hk1 := hk; rw [h1] at hk1
    simp only [h1, hk1 _ _ _ _ n0, hk1 _ _ _ _ h, e4, e5, e6, z1, z2, Option.bind_some, b_inl, cond_true, cond_false, beq_self_eq_true, eq_self_iff_true, decide_true, Bool.true_and, c_and, show ((4 : Int) == 1) = false from rfl, show ((4 : Int) == 2) = false from rfl, show ((4 : Int) == 3) = false from rfl, show ((4 : Int) == 4) = true from rfl, show ((4 : Int) == 5) = false from rfl]
    cases decide (1 ≤ f.Number) <;> cases decide (f.Number ≤ 65535) <;> cases (f.Offset == 0) <;> cases decide (0 ≤ f.Seq) <;> cases decide (f.Seq ≤ 7) <;> cases (f.Data.length == 0) <;> rfl
  · have hk1 := hk; rw [h1] at hk1
    simp only [h1, hk1 _ _ _ _ n0, hk1 _ _ _ _ h, e4, e5, e6, z1, z2, Option.bind_some, b_inl, cond_true, cond_false, beq_self_eq_true, eq_self_iff_true, decide_true, Bool.true_and, c_and, show ((5 : Int) == 1) = false from rfl, show ((5 : Int) == 2) = false from rfl, show ((5 : Int) == 3) = false from rfl, show ((5 : Int) == 4) = false from rfl, show ((5 : Int) == 5) = true from rfl]
    cases decide (1 ≤ f.Number) <;> cases decide (f.Number ≤ 65535) <;> cases (f.Offset == 0) <;> cases (f.Seq == 0) <;> cases (f.Data.length == 0) <;> rfl
  · simp only [k1, k2, k3, k4, k5, hk _ _ _ _ n0, Bool.or_self, Bool.false_or, Bool.false_and, Bool.and_false, Bool.or_false, Option.bind_some, b_inl, cond_true, cond_false, beq_self_eq_true, eq_self_iff_true, decide_true, Bool.true_and, c_and]
def ackS (s : T_Send) (seq : Int) : ((Int)) → Option ((Int) ⊕ ((Unit) ⊕ (Bool × T_Send))) := (fun (s10 : Int) =>
    cond ((decide (s10 ≤ s.Next)))
      ((remO s10 8).bind fun v4 =>
      cond ((v4 == seq))
        (some (.inr (.inr ((true, (T_Send.mk s.Number s.Data s.Ready s10 s.Next 3 s.Over))))))
        ((some (IntKind.i64.wrap (s10 + 1))).bind fun v6 =>
        some (.inl v6)))
      (some (.inr (.inl ()))))
theorem rem8 (a : Nat) : remO (a : Int) 8 = some ((a % 8 : Nat) : Int) := by
  simp only [remO]
  rw [if_neg (by omega), Int.tmod_eq_emod_of_nonneg (by omega)]
  rfl
theorem ack_none (s : T_Send) (n q : Nat) (hN : s.Next = (n : Int)) (hn : n ≤ 1000) : ∀ (k fuel a : Nat), n + 1 - a = k → k < fuel → (∀ j, a ≤ j → j ≤ n → j % 8 ≠ q) → loopF (ackS s (q : Int)) fuel (a : Int) = some (.inl ()) := by
  intro k
  induction k with
  | zero =>
    intro fuel a hk hf hno
    obtain ⟨f, rfl⟩ : ∃ f, fuel = f + 1 := ⟨fuel - 1, by omega⟩
    refine loop_exit ?_
    unfold ackS; exact cnd_f (by rw [hN]; simp; omega) rfl
  | succ k ih =>
    intro fuel a hk hf hno
    obtain ⟨f, rfl⟩ : ∃ f, fuel = f + 1 := ⟨fuel - 1, by omega⟩
    have w : IntKind.i64.wrap ((a : Int) + 1) = ((a + 1 : Nat) : Int) := by rw [wrap_i64 (by omega) (by omega)]; simp
    refine (loop_next ?_).trans (ih f (a + 1) (by omega) (by omega) fun j h1 h2 => hno j (by omega) h2)
    have := hno a (Nat.le_refl _) (by omega)
    unfold ackS
    exact cnd_t (by rw [hN]; simp; omega) (bnd (rem8 a) (cnd_f (by simp; omega) (bnd (x := ((a + 1 : Nat) : Int)) (by rw [w]) rfl)))
theorem ack_some (s : T_Send) (n q a0 : Nat) (hN : s.Next = (n : Int)) (hn : n ≤ 1000) (ha0 : a0 ≤ n) (hq : a0 % 8 = q) : ∀ (k fuel a : Nat), a0 - a = k → a ≤ a0 → k < fuel → (∀ j, a ≤ j → j < a0 → j % 8 ≠ q) →
    loopF (ackS s (q : Int)) fuel (a : Int) = some (.inr (true, T_Send.mk s.Number s.Data s.Ready (a0 : Int) s.Next 3 s.Over)) := by
  intro k
  induction k with
  | zero =>
    intro fuel a hk hle hf hno
    obtain ⟨f, rfl⟩ : ∃ f, fuel = f + 1 := ⟨fuel - 1, by omega⟩
    obtain rfl : a = a0 := by omega
    refine loop_exit ?_
    unfold ackS; exact cnd_t (by rw [hN]; simp; omega) (bnd (rem8 a) (cnd_t (by simp; omega) rfl))
  | succ k ih =>
    intro fuel a hk hle hf hno
    obtain ⟨f, rfl⟩ : ∃ f, fuel = f + 1 := ⟨fuel - 1, by omega⟩
    have w : IntKind.i64.wrap ((a : Int) + 1) = ((a + 1 : Nat) : Int) := by rw [wrap_i64 (by omega) (by omega)]; simp
    refine (loop_next ?_).trans (ih f (a + 1) (by omega) (by omega) (by omega) fun j h1 h2 => hno j (by omega) h2)
    have := hno a (Nat.le_refl _) (by omega)
    unfold ackS
    exact cnd_t (by rw [hN]; simp; omega) (bnd (rem8 a) (cnd_f (by simp; omega) (bnd (x := ((a + 1 : Nat) : Int)) (by rw [w]) rfl)))
theorem hear_ack {s : T_Send} (h : Rt s) (ho : s.Over = false) (q : Nat) (hq : q < 8) (r : Bool × T_Send) (hr : sender_ack s (q : Int) = some r) :
    sender_Hear s (T_Frame.mk 4 s.Number 0 (q : Int) []) = some (cond r.1 (r.2, 0) (zeroSend, 11)) := by
  have hg : good (T_Frame.mk 4 s.Number 0 (q : Int) []) = true := by
    have := h.n1; have := h.n2
    simp [good, numIn, seqIn]; omega
  unfold sender_Hear
  refine bnd (check_rt h) (cnd_f rfl (bnd (check_eq _) ?_))
  rw [hg]
  refine cnd_f rfl (bndL (s := false) (cnd_f (by simp) (by rw [ho])) (cnd_f rfl (bnd (clone_eq s (by have := h.l2; omega)) ?_)))
  refine bndL (bndL (cnd_f rfl (cnd_t rfl (bnd hr rfl))) rfl) ?_
  obtain ⟨b, t⟩ := r
  cases b
  · exact cnd_t rfl rfl
  · exact cnd_f rfl rfl
def tickS (v3 : T_Send) (v4 : Int) : (((List T_Frame) × Int)) → Option (((List T_Frame) × Int) ⊕ (((List T_Frame)) ⊕ ((Bool × Int × Int × Int × (List T_Frame)) ⊕ (T_Send × (List T_Frame) × Int)))) := (fun ((s59, s60) : (List T_Frame) × Int) =>
                cond ((decide (s60 < v4)))
                  ((sender_piece v3 s60).bind fun v18 =>
                  (appO 56 s59 [v18]).bind fun v19 =>
                  (some (IntKind.i64.wrap (s60 + 1))).bind fun v20 =>
                  some (.inl (v19, v20)))
                  (some (.inr (.inl s59))))
def pieceD (s : T_Send) (i : Nat) : List Int := (s.Data.drop (48 * i)).take 48
def pieceF (s : T_Send) (i : Nat) : T_Frame := T_Frame.mk 3 s.Number ((48 * i : Nat) : Int) ((i % 8 : Nat) : Int) (pieceD s i)
def helloF (s : T_Send) : T_Frame := T_Frame.mk 1 s.Number (s.Data.length : Int) 0 []
theorem slice_piece (l : List Int) (i : Nat) (h : 48 * i ≤ l.length) : sliO l ((48 * i : Nat) : Int) (if ((l.length : Nat) : Int) < ((48 * i + 48 : Nat) : Int) then ((l.length : Nat) : Int) else ((48 * i + 48 : Nat) : Int)) = some ((l.drop (48 * i)).take 48) := by
  unfold sliO
  by_cases hc : l.length < 48 * i + 48
  · rw [if_pos (show ((l.length : Nat) : Int) < ((48 * i + 48 : Nat) : Int) by omega), if_pos (by omega)]
    simp only [Int.toNat_natCast]
    rw [List.take_of_length_le (by rw [List.length_drop]; omega), List.take_of_length_le (by rw [List.length_drop]; omega)]
  · rw [if_neg (show ¬ ((l.length : Nat) : Int) < ((48 * i + 48 : Nat) : Int) by omega), if_pos (by omega)]
    simp only [Int.toNat_natCast]
    rw [show 48 * i + 48 - 48 * i = 48 by omega]
theorem pieceD_len (s : T_Send) (i : Nat) : (pieceD s i).length = min 48 (s.Data.length - 48 * i) := by simp [pieceD]
theorem piece_eq (s : T_Send) (i : Nat) (hl : s.Data.length ≤ 5000) (hi : 48 * i ≤ s.Data.length) : sender_piece s (i : Int) = some (pieceF s i) := by
  unfold sender_piece
  have w1 : IntKind.i64.wrap ((i : Int) * 48) = ((48 * i : Nat) : Int) := by rw [wrap_i64 (by omega) (by omega)]; omega
  have w2 : IntKind.i64.wrap (((48 * i : Nat) : Int) + 48) = ((48 * i + 48 : Nat) : Int) := by rw [wrap_i64 (by omega) (by omega)]; omega
  have hd := pieceD_len s i
  exact bnd (x := ((48 * i : Nat) : Int)) (by rw [w1]) (bnd (x := ((48 * i + 48 : Nat) : Int)) (by rw [w2]) (bnd rfl (bnd (rem8 i) (bnd (slice_piece s.Data i hi) (bnd (list_eq (pieceD s i) (by omega)) rfl)))))
def frames (s : T_Send) (a n : Nat) : List T_Frame := (List.range n).map fun k => pieceF s (a + k)
theorem frames_len (s : T_Send) (a n : Nat) : (frames s a n).length = n := by simp [frames]
theorem tick_loop (s : T_Send) (hl : s.Data.length ≤ 5000) (w : Nat) (hw : ∀ i, i < w → 48 * i ≤ s.Data.length) (hw2 : w ≤ 1000) : ∀ (k fuel a : Nat) (l : List T_Frame), w - a = k → k < fuel → l.length ≤ 1000 - k →
    loopF (tickS s (w : Int)) fuel (l, (a : Int)) = some (.inl (l ++ frames s a (w - a))) := by
  intro k
  induction k with
  | zero =>
    intro fuel a l hk hf hll
    obtain ⟨f, rfl⟩ : ∃ f, fuel = f + 1 := ⟨fuel - 1, by omega⟩
    refine loop_exit ?_
    rw [hk]
    unfold tickS; exact cnd_f (by simp; omega) (by simp [frames])
  | succ k ih =>
    intro fuel a l hk hf hll
    obtain ⟨f, rfl⟩ : ∃ f, fuel = f + 1 := ⟨fuel - 1, by omega⟩
    have w1 : IntKind.i64.wrap ((a : Int) + 1) = ((a + 1 : Nat) : Int) := by rw [wrap_i64 (by omega) (by omega)]; simp
    have e : l ++ frames s a (w - a) = (l ++ [pieceF s a]) ++ frames s (a + 1) (w - (a + 1)) := by
      rw [show w - a = (w - (a + 1)) + 1 by omega]
      simp only [frames, List.range_succ_eq_map, List.map_cons, List.map_map, List.append_assoc, List.cons_append, List.nil_append, Nat.add_zero]
      congr 2
      apply List.map_congr_left
      intro j _
      simp only [Function.comp, Nat.succ_eq_add_one]
      congr 1; omega
    rw [e]
    refine (loop_next ?_).trans (ih f (a + 1) (l ++ [pieceF s a]) (by omega) (by omega) (by simp; omega))
    unfold tickS
    exact cnd_t (by simp; omega) (bnd (piece_eq s a hl (hw a (by omega))) (bnd (x := l ++ [pieceF s a]) (by simp only [appO]; rw [if_pos (by simp; omega)]) (bnd (x := ((a + 1 : Nat) : Int)) (by rw [w1]) rfl)))
def tickF (s : T_Send) : T_Send × List T_Frame :=
  if s.Over = true then (s, [])
  else if s.Ready = false ∨ s.Base = pcs s then (if 0 < s.Wait then (T_Send.mk s.Number s.Data s.Ready s.Base s.Next (s.Wait - 1) s.Over, []) else (T_Send.mk s.Number s.Data s.Ready s.Base s.Next 3 s.Over, [helloF s]))
  else if s.Next < wnd s then (T_Send.mk s.Number s.Data s.Ready s.Base (wnd s) 3 s.Over, frames s s.Next.toNat ((wnd s).toNat - s.Next.toNat))
  else if s.Wait = 0 then (T_Send.mk s.Number s.Data false 0 0 3 s.Over, [helloF s])
  else (T_Send.mk s.Number s.Data s.Ready s.Base s.Next (s.Wait - 1) s.Over, [])
theorem hello_eq (s : T_Send) : sender_hello s = some (helloF s) := rfl
theorem app1 (f : T_Frame) : appO 56 ([] : List T_Frame) [f] = some [f] := by simp [appO]
theorem tick_eq {s : T_Send} (h : Rt s) : sender_Tick s = some ((tickF s).1, (tickF s).2, 0) := by
  have l2 := h.l2
  have hl : s.Data.length ≤ 100000 := by omega
  have hb := pcs_bd s
  unfold sender_Tick
  refine bnd (check_rt h) (cnd_f rfl (bnd (clone_eq s hl) (bnd (window_eq s hl) ?_)))
  unfold tickF
  by_cases ho : s.Over = true
  · rw [if_pos ho]
    exact bndL (cnd_t ho rfl) rfl
  rw [if_neg ho]
  have ho' : s.Over = false := by simpa using ho
  have w0 := h.w0
  have w3 := h.w3
  have ww : 0 < s.Wait → IntKind.i64.wrap (s.Wait - 1) = s.Wait - 1 := fun _ => wrap_i64 (by omega) (by omega)
  by_cases hq : s.Ready = false ∨ s.Base = pcs s
  · rw [if_pos hq]
    have hsel : (cond ((!s.Ready)) (some (.inl true)) ((sender_pieces s).bind fun v6 => some (.inl (s.Base == v6))) : Option (Bool ⊕ ((Bool × Int × Int × Int × (List T_Frame)) ⊕ (T_Send × (List T_Frame) × Int)))) = some (.inl true) := by
      rcases hq with hq | hq
      · exact cnd_t (by rw [hq]; rfl) rfl
      · by_cases hr : s.Ready = false
        · exact cnd_t (by rw [hr]; rfl) rfl
        · exact cnd_f (by simpa using hr) (bnd (pieces_eq s hl) (by rw [← hq]; simp))
    by_cases hw : 0 < s.Wait
    · rw [if_pos hw]
      exact bndL (cnd_f ho' (bndL hsel (cnd_t rfl (cnd_t (by simpa using hw) (bnd (x := s.Wait - 1) (by rw [ww hw]) rfl))))) rfl
    · rw [if_neg hw]
      exact bndL (cnd_f ho' (bndL hsel (cnd_t rfl (cnd_f (by simpa using hw) (bnd (hello_eq s) (bnd (app1 _) rfl)))))) rfl
  rw [if_neg hq]
  have hsel : (cond ((!s.Ready)) (some (.inl true)) ((sender_pieces s).bind fun v6 => some (.inl (s.Base == v6))) : Option (Bool ⊕ ((Bool × Int × Int × Int × (List T_Frame)) ⊕ (T_Send × (List T_Frame) × Int)))) = some (.inl false) := by
    have h1 : s.Ready = true := by
      cases hr : s.Ready
      · exact absurd (.inl hr) hq
      · rfl
    have h2 : s.Base ≠ pcs s := fun e => hq (.inr e)
    exact cnd_f (by rw [h1]; rfl) (bnd (pieces_eq s hl) (by rw [beq_eq_false_iff_ne.2 h2]))
  have hwe := wnd_eq s h.b0 (by have := h.bP; omega)
  have hwb : 0 ≤ wnd s ∧ wnd s ≤ pcs s := by
    have := h.b0
    rw [hwe]; constructor <;> split <;> omega
  by_cases hn : s.Next < wnd s
  · rw [if_pos hn]
    have hn0 : 0 ≤ s.Next := by have := h.b0; have := h.nB; omega
    have lp := tick_loop s (by omega) (wnd s).toNat (fun i hi => by omega) (by omega) ((wnd s).toNat - s.Next.toNat) BIG s.Next.toNat [] rfl (by unfold BIG; omega) (by simp)
    rw [Int.toNat_of_nonneg hwb.1, Int.toNat_of_nonneg hn0, List.nil_append] at lp
    exact bndL (cnd_f ho' (bndL hsel (cnd_f rfl (cnd_t (by simpa using hn) (bndL lp rfl))))) rfl
  rw [if_neg hn]
  by_cases hw : s.Wait = 0
  · rw [if_pos hw]
    exact bndL (cnd_f ho' (bndL hsel (cnd_f rfl (cnd_f (by simpa using hn) (cnd_t (by simpa using hw) (bnd (hello_eq s) (bnd (app1 _) rfl))))))) rfl
  · rw [if_neg hw]
    exact bndL (cnd_f ho' (bndL hsel (cnd_f rfl (cnd_f (by simpa using hn) (cnd_f (by simpa using hw) (bnd (x := s.Wait - 1) (by rw [ww (by omega)]) rfl)))))) rfl
theorem hear_ready {s : T_Send} (h : Rt s) (ho : s.Over = false) (off : Nat) (hoff : off ≤ 5000) (r : Bool × T_Send) (hr : sender_ready s (off : Int) = some r) :
    sender_Hear s (T_Frame.mk 2 s.Number (off : Int) 0 []) = some (cond r.1 (r.2, 0) (zeroSend, 11)) := by
  have hg : good (T_Frame.mk 2 s.Number (off : Int) 0 []) = true := by
    have := h.n1; have := h.n2
    simp [good, numIn, offIn]; omega
  unfold sender_Hear
  refine bnd (check_rt h) (cnd_f rfl (bnd (check_eq _) ?_))
  rw [hg]
  refine cnd_f rfl (bndL (s := false) (cnd_f (by simp) (by rw [ho])) (cnd_f rfl (bnd (clone_eq s (by have := h.l2; omega)) ?_)))
  refine bndL (bndL (cnd_t rfl (bnd hr rfl)) rfl) ?_
  obtain ⟨b, t⟩ := r
  cases b
  · exact cnd_t rfl rfl
  · exact cnd_f rfl rfl
theorem quo48 (a : Nat) (h : a ≤ 100000) : quoO .i64 (a : Int) 48 = some ((a / 48 : Nat) : Int) := by
  simp only [quoO]
  rw [if_neg (by omega), Int.tdiv_eq_ediv_of_nonneg (by omega), wrap_i64 (by omega) (by omega)]
  rfl
theorem rem48 (a : Nat) : remO (a : Int) 48 = some ((a % 48 : Nat) : Int) := by
  simp only [remO]
  rw [if_neg (by omega), Int.tmod_eq_emod_of_nonneg (by omega)]
  rfl
theorem ready_at (s : T_Send) (hl : s.Data.length ≤ 5000) (p : Nat) (hp : (p : Int) ≤ pcs s) : sender_ready s ((min (48 * p) s.Data.length : Nat) : Int) = some (true, T_Send.mk s.Number s.Data true (p : Int) (p : Int) 0 s.Over) := by
  have hb := pcs_bd s
  unfold sender_ready
  by_cases hw : s.Data.length ≤ 48 * p
  · have e : min (48 * p) s.Data.length = s.Data.length := by omega
    rw [e]
    have hpe : pcs s = (p : Int) := by omega
    refine bndL (s := false) (cnd_f (by simp) rfl) (cnd_f rfl (bnd (quo48 _ (by omega)) (bndL (s := (p : Int)) (cnd_t (by simp) (bnd (pieces_eq s (by omega)) (by rw [hpe]))) rfl)))
  · have e : min (48 * p) s.Data.length = 48 * p := by omega
    rw [e]
    have hne : (((48 * p : Nat) : Int) == (s.Data.length : Int)) = false := by simp; omega
    refine bndL (s := false) (cnd_t (by rw [hne]; rfl) (cnd_f (by simp; omega) (bnd (rem48 _) ?_))) (cnd_f rfl (bnd (quo48 _ (by omega)) (bndL (s := (p : Int)) (cnd_f hne ?_) rfl)))
    · rw [show 48 * p % 48 = 0 by omega]; rfl
    · rw [show 48 * p / 48 = p by omega]
theorem tick_same (s : T_Send) : (tickF s).1.Number = s.Number ∧ (tickF s).1.Data = s.Data ∧ (tickF s).1.Over = s.Over := by
  unfold tickF
  repeat' split
  all_goals exact ⟨rfl, rfl, rfl⟩
theorem wnd_bd {s : T_Send} (h : Rt s) : s.Base ≤ wnd s ∧ wnd s ≤ s.Base + 7 ∧ wnd s ≤ pcs s ∧ (wnd s = pcs s ∨ wnd s = s.Base + 7) := by
  have hb := pcs_bd s
  have := h.l2; have := h.bP; have := h.b0
  rw [wnd_eq s h.b0 (by omega)]
  split <;> omega
theorem ready_cases (s : T_Send) (hl : s.Data.length ≤ 5000) (off : Nat) (hoff : off ≤ 5000) : sender_ready s (off : Int) = some (false, s) ∨ ∃ p : Nat, (p : Int) ≤ pcs s ∧ off = min (48 * p) s.Data.length := by
  have hb := pcs_bd s
  by_cases h1 : off = s.Data.length
  · refine .inr ⟨(s.Data.length + 47) / 48, ?_, by omega⟩
    unfold pcs; omega
  by_cases h2 : off < s.Data.length ∧ off % 48 = 0
  · refine .inr ⟨off / 48, by unfold pcs; omega, by omega⟩
  · refine .inl ?_
    unfold sender_ready
    have hne : ((off : Int) == (s.Data.length : Int)) = false := by simp; omega
    refine bndL (s := true) (cnd_t (by rw [hne]; rfl) ?_) (cnd_t rfl rfl)
    by_cases h3 : s.Data.length < off
    · exact cnd_t (by simp; omega) rfl
    · refine cnd_f (by simp; omega) (bnd (rem48 off) ?_)
      have : ((off % 48 : Nat) : Int) ≠ 0 := by omega
      simp only [bne_iff_ne.2 this]
structure Out (s : T_Send) (f : T_Frame) : Prop where
  g : good f = true
  n : f.Number = s.Number
  d : f.Data.length ≤ 48
  p : f.Kind = 3 → ∃ at_ : Nat, f.Offset = (at_ : Int) ∧ at_ + f.Data.length ≤ s.Data.length ∧ f.Data = (s.Data.drop at_).take f.Data.length
theorem out_hello {s : T_Send} (h : Rt s) : Out s (helloF s) := by
  have := h.n1; have := h.n2; have := h.l1; have := h.l2
  refine ⟨?_, rfl, by simp [helloF], by intro h; simp [helloF] at h⟩
  dsimp only [good, helloF, numIn, offIn, seqIn]
  simp only [Bool.and_eq_true, Bool.or_eq_true, decide_eq_true_eq, beq_iff_eq, List.length_nil]
  refine ⟨by omega, .inl (.inl (.inl ?_))⟩
  simp
  omega
theorem out_piece {s : T_Send} (h : Rt s) (i : Nat) (hi : 48 * i < s.Data.length) : Out s (pieceF s i) := by
  have := h.n1; have := h.n2; have := h.l1; have := h.l2
  have hl := pieceD_len s i
  refine ⟨?g, rfl, by simp only [pieceF]; omega, fun _ => ⟨48 * i, rfl, by simp only [pieceF]; omega, ?_⟩⟩
  case g =>
    dsimp only [good, pieceF, numIn, offIn, seqIn]
    simp only [hl, Bool.and_eq_true, Bool.or_eq_true, decide_eq_true_eq, beq_iff_eq]
    refine ⟨by omega, .inl (.inl (.inr ?_))⟩
    simp
    omega
  simp only [pieceF, hl]
  unfold pieceD
  rw [List.take_eq_take_iff]
  simp
theorem out_tick {s : T_Send} (h : Rt s) : (∀ f ∈ (tickF s).2, Out s f) ∧ (tickF s).2.length ≤ 7 ∧ (s.Over = true → (tickF s).2 = []) := by
  have hw := wnd_bd h
  have hb := pcs_bd s
  have b0 := h.b0; have nB := h.nB
  unfold tickF
  split
  · simp
  rename_i ho
  refine ⟨?_, ?_, fun e => absurd e ho⟩
  · repeat' split
    · simp
    · simpa using out_hello h
    · intro f hf
      simp only [frames, List.mem_map, List.mem_range] at hf
      obtain ⟨k, hk, rfl⟩ := hf
      exact out_piece h _ (by omega)
    · simpa using out_hello h
    · simp
  · repeat' split
    all_goals simp only [frames_len, List.length_nil, List.length_singleton]
    all_goals omega
theorem new_eq (N : Int) (data : List Int) (h : data.length ≤ 100000) : sender_New N data = some (cond (sendOk (T_Send.mk N data false 0 0 0 false)) (T_Send.mk N data false 0 0 0 false, 0) (zeroSend, 1)) := by
  unfold sender_New
  refine bnd (list_eq _ h) (bnd (check_eqS _ h) ?_)
  cases sendOk (T_Send.mk N data false 0 0 0 false) <;> rfl
end Go.Abs.Sh
