import Derived.Test.YtdligpdfcfbgpaaFrameM
import Derived.Test.YtdligpdfcfbgpaaLawM
import Derived.KernelRfl
namespace Go.Abs.Sh
set_option linter.unusedVariables false
set_option linter.unusedSimpArgs false
theorem c_self {A : Type} (b x : Bool) : cond b (some (Sum.inl b : Bool ⊕ A)) (some (.inl x)) = some (.inl (b || x)) := by cases b <;> rfl
theorem c_fls {A : Type} (b x : Bool) : cond b (some (Sum.inl false : Bool ⊕ A)) (some (.inl x)) = some (.inl (!b && x)) := by cases b <;> rfl
theorem c_not {A : Type} (b : Bool) (x y : A) : cond (!b) x y = cond b y x := by cases b <;> rfl
def pcs (s : T_Send) : Int := (((s.Data.length + 47) / 48 : Nat) : Int)
def wnd (s : T_Send) : Int := if pcs s < IntKind.i64.wrap (s.Base + 7) then pcs s else IntKind.i64.wrap (s.Base + 7)
theorem pcs_bd (s : T_Send) : 48 * pcs s ≤ (s.Data.length : Int) + 47 ∧ (s.Data.length : Int) ≤ 48 * pcs s := by unfold pcs; omega
theorem pieces_raw (n : Nat) (h : n ≤ 100000) : ((some (IntKind.i64.wrap ((n : Int) + 48))).bind fun v1 => (some (IntKind.i64.wrap (v1 - 1))).bind fun v2 => (quoO .i64 v2 48).bind fun v3 => some (v3)) = some (((n + 47) / 48 : Nat) : Int) := by
  have w1 : IntKind.i64.wrap ((n : Int) + 48) = ((n + 48 : Nat) : Int) := by rw [wrap_i64 (by omega) (by omega)]; simp
  have w2 : IntKind.i64.wrap (((n + 48 : Nat) : Int) - 1) = ((n + 47 : Nat) : Int) := by rw [wrap_i64 (by omega) (by omega)]; omega
  have q : quoO .i64 ((n + 47 : Nat) : Int) 48 = some (((n + 47) / 48 : Nat) : Int) := by
    simp only [quoO]
    rw [if_neg (by omega), Int.tdiv_eq_ediv_of_nonneg (by omega), wrap_i64 (by omega) (by omega)]
    rfl
  exact bnd (x := ((n + 48 : Nat) : Int)) (by rw [w1]) (bnd (x := ((n + 47 : Nat) : Int)) (by rw [w2]) (bnd q rfl))
theorem pieces_eq (s : T_Send) (h : s.Data.length ≤ 100000) : sender_pieces s = some (pcs s) := pieces_raw _ h
theorem rpieces_eq (s : T_Send) (h : s.Data.length ≤ 100000) : wherryref18_pieces s.Data = some (pcs s) := pieces_raw _ h
theorem window_eq (s : T_Send) (h : s.Data.length ≤ 100000) : sender_window s = some (wnd s) := by
  unfold sender_window
  exact bnd rfl (bnd (pieces_eq s h) rfl)
def sendOk (s : T_Send) : Bool :=
  (decide (1 ≤ s.Number) && decide (s.Number ≤ 65535)) && ((decide (1 ≤ (s.Data.length : Int)) && decide ((s.Data.length : Int) ≤ 5000)) && ((decide (0 ≤ s.Base) && decide (s.Base ≤ pcs s)) && ((decide (s.Base ≤ s.Next) && decide (s.Next ≤ wnd s)) && ((decide (0 ≤ s.Wait) && decide (s.Wait ≤ 3)) && (s.Ready || (s.Base == 0 && s.Next == 0))))))
theorem refSend_eq (s : T_Send) (h : s.Data.length ≤ 100000) : wherryref18_Send s = some (sendOk s) := by
  unfold wherryref18_Send
  rw [rpieces_eq s h]
  have hw : (if pcs s < IntKind.i64.wrap (s.Base + 7) then pcs s else IntKind.i64.wrap (s.Base + 7)) = wnd s := rfl
  simp only [Option.bind_some, in_eq, c_and, c_or, b_inl, hw]
  rfl
theorem check_eqS (s : T_Send) (h : s.Data.length ≤ 100000) : sender_Check s = some (cond (sendOk s) 0 1) := by
  unfold sender_Check
  rw [pieces_eq s h, window_eq s h]
  simp only [Option.bind_some, c_and, c_or, c_self, c_not, c_fls, b_inl]
  have e : ∀ (a b : Bool), (!a) = b → cond b (some (1 : Int)) (some 0) = some (cond a 0 1) := by intro a b hb; subst hb; cases a <;> rfl
  refine e _ _ ?_
  unfold sendOk
  rw [Bool.eq_iff_iff]
  cases s.Ready
  · simp
  · simp
structure Rt (s : T_Send) : Prop where
  n1 : 1 ≤ s.Number
  n2 : s.Number ≤ 65535
  l1 : 1 ≤ s.Data.length
  l2 : s.Data.length ≤ 5000
  b0 : 0 ≤ s.Base
  bP : s.Base ≤ pcs s
  nB : s.Base ≤ s.Next
  nW : s.Next ≤ s.Base + 7
  nP : s.Next ≤ pcs s
  w0 : 0 ≤ s.Wait
  w3 : s.Wait ≤ 3
  rd : s.Ready = true ∨ (s.Base = 0 ∧ s.Next = 0)
theorem wnd_eq (s : T_Send) (h0 : 0 ≤ s.Base) (h1 : s.Base ≤ 100000) : wnd s = if pcs s < s.Base + 7 then pcs s else s.Base + 7 := by
  unfold wnd; rw [wrap_i64 (by omega) (by omega)]
theorem rt_of {s : T_Send} (h : sendOk s = true) : Rt s := by
  unfold sendOk at h
  simp only [Bool.and_eq_true, Bool.or_eq_true, decide_eq_true_eq, beq_iff_eq] at h
  obtain ⟨⟨h1, h2⟩, ⟨h3, h4⟩, ⟨h5, h6⟩, ⟨h7, h8⟩, ⟨h9, h10⟩, h11⟩ := h
  have hb := pcs_bd s
  have hw := wnd_eq s h5 (by omega)
  rw [hw] at h8
  refine ⟨h1, h2, by omega, by omega, h5, h6, h7, ?_, ?_, h9, h10, h11⟩ <;> split at h8 <;> omega
theorem ok_of {s : T_Send} (h : Rt s) : sendOk s = true := by
  have hb := pcs_bd s
  have l2 := h.l2
  have bP := h.bP
  have hw := wnd_eq s h.b0 (by omega)
  unfold sendOk
  simp only [Bool.and_eq_true, Bool.or_eq_true, decide_eq_true_eq, beq_iff_eq]
  refine ⟨⟨h.n1, h.n2⟩, ⟨by have := h.l1; omega, by omega⟩, ⟨h.b0, h.bP⟩, ⟨h.nB, ?_⟩, ⟨h.w0, h.w3⟩, h.rd⟩
  rw [hw]
  have := h.nW
  have := h.nP
  split <;> omega
theorem check_rt {s : T_Send} (h : Rt s) : sender_Check s = some 0 := by
  rw [check_eqS s (by have := h.l2; omega), ok_of h]; rfl
theorem list_eq (l : List Int) (h : l.length ≤ 100000) : clone_List_byte l = some l := by
  unfold clone_List_byte
  exact bnd (x := l) (by simp only [appO]; rw [if_pos (by simp; omega)]; simp) rfl
theorem clone_eq (s : T_Send) (h : s.Data.length ≤ 100000) : clone_Send s = some s := by
  unfold clone_Send
  exact bnd (list_eq _ h) rfl
theorem wakes21 : wherrylaw21_wakes = some true := by kernel_rfl
theorem keepSend_eq (a b : T_Send) (h : a.Data.length < 4294967296) : wherrykeep_Send a b = some (decide (a = b)) := by
  unfold wherrykeep_Send
  rw [keepBytes_eq _ _ h]
  simp only [Option.bind_some, c_and, b_inl]
  congr 1
  cases a; cases b
  simp only [T_Send.mk.injEq, Bool.decide_and]
  rw [Bool.eq_iff_iff]
  simp
def zeroSend : T_Send := T_Send.mk 0 [] false 0 0 0 false
theorem hear_over {s : T_Send} (h : Rt s) (ho : s.Over = true) (f : T_Frame) : sender_Hear s f = some (zeroSend, cond (good f) 11 1) := by
  unfold sender_Hear
  refine bnd (check_rt h) (cnd_f rfl (bnd (check_eq f) ?_))
  cases hg : good f
  · exact cnd_t rfl rfl
  · refine cnd_f rfl (bndL (s := true) ?_ (cnd_t rfl rfl))
    rw [ho]
    cases f.Number != s.Number <;> rfl
theorem hear_bad {s : T_Send} (h : Rt s) (f : T_Frame) (hg : good f = false) : sender_Hear s f = some (zeroSend, 1) := by
  unfold sender_Hear
  refine bnd (check_rt h) (cnd_f rfl (bnd (check_eq f) ?_))
  rw [hg]
  exact cnd_t rfl rfl
theorem hear_done {s : T_Send} (h : Rt s) (ho : s.Over = false) : sender_Hear s (T_Frame.mk 5 s.Number 0 0 []) = some (T_Send.mk s.Number s.Data s.Ready s.Base s.Next s.Wait true, 0) := by
  have hg : good (T_Frame.mk 5 s.Number 0 0 []) = true := by
    have := h.n1; have := h.n2
    simp [good, numIn]; omega
  unfold sender_Hear
  refine bnd (check_rt h) (cnd_f rfl (bnd (check_eq _) ?_))
  rw [hg]
  refine cnd_f rfl (bndL (s := false) (cnd_f (by simp) (by rw [ho])) (cnd_f rfl (bnd (clone_eq s (by have := h.l2; omega)) ?_)))
  exact bndL (bndL (cnd_f rfl (cnd_f rfl (cnd_t rfl rfl))) rfl) (cnd_f rfl rfl)
end Go.Abs.Sh
