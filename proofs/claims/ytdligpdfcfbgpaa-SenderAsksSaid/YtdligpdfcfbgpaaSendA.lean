import Derived.Test.YtdligpdfcfbgpaaSendM
namespace Go.Abs.Sh
set_option linter.unusedVariables false
set_option linter.unusedSimpArgs false

def ackS (s : T_Send) (seq : Int) : ((Int)) → Option ((Int) ⊕ ((Unit) ⊕ (Bool × T_Send))) := (fun (s10 : Int) =>
    cond ((decide (s10 ≤ s.Next)))
      ((remO s10 8).bind fun v4 =>
      cond ((v4 == seq))
        (some (.inr (.inr ((true, (T_Send.mk s.Number s.Data s.Ready s10 s.Next 3 s.Over))))))
        ((some (IntKind.i64.wrap (s10 + 1))).bind fun v6 =>
        some (.inl v6)))
      (some (.inr (.inl ()))))
def lackS (s : T_Send) (v9 : Int) : ((Int × Int)) → Option ((Int × Int) ⊕ ((Int) ⊕ Bool)) := (fun ((s38, s39) : Int × Int) =>
        bindS (S := Bool) (A := ((Int × Int) ⊕ ((Int) ⊕ Bool)))
          (cond ((decide (s39 ≤ s.Next)))
            (some (.inl s.Ready))
            (some (.inl false)))
          (fun (s58 : Bool) =>
            cond (s58)
              (bindS (S := Int) (A := ((Int × Int) ⊕ ((Int) ⊕ Bool)))
                ((remO s39 8).bind fun v17 =>
                cond ((v17 == v9))
                  (some (.inl s39))
                  (some (.inl s38)))
                (fun (s64 : Int) =>
                  (some (IntKind.i64.wrap (s39 + 1))).bind fun v24 =>
                  some (.inl (s64, v24))) some)
              (some (.inr (.inl s38)))) some)

theorem rem8 (a : Nat) : remO (a : Int) 8 = some ((a % 8 : Nat) : Int) := by
  simp only [remO]
  rw [if_neg (by omega), Int.tmod_eq_emod_of_nonneg (by omega)]
  rfl

/-- What an answer for a piece makes: the first piece that is meant. -/
theorem ack_none (s : T_Send) (n q : Nat) (hN : s.Next = (n : Int)) (hn : n ≤ 1000) : ∀ (k fuel a : Nat), n + 1 - a = k → k < fuel → (∀ j, a ≤ j → j ≤ n → j % 8 ≠ q) → loopF (ackS s (q : Int)) fuel (a : Int) = some (.inl ()) := by
  intro k
  induction k with
  | zero =>
    intro fuel a hk hf hno
    obtain ⟨f, rfl⟩ : ∃ f, fuel = f + 1 := ⟨fuel - 1, by omega⟩
    refine loop_exit ?_
    unfold ackS; exact cnd_f (by rw [hN]; simp; omega) rfl
  | succ k ih =>
    intro fuel a hk hf hno
    obtain ⟨f, rfl⟩ : ∃ f, fuel = f + 1 := ⟨fuel - 1, by omega⟩
    have w : IntKind.i64.wrap ((a : Int) + 1) = ((a + 1 : Nat) : Int) := by rw [wrap_i64 (by omega) (by omega)]; simp
    refine (loop_next ?_).trans (ih f (a + 1) (by omega) (by omega) fun j h1 h2 => hno j (by omega) h2)
    have := hno a (Nat.le_refl _) (by omega)
    unfold ackS
    exact cnd_t (by rw [hN]; simp; omega) (bnd (rem8 a) (cnd_f (by simp; omega) (bnd (x := ((a + 1 : Nat) : Int)) (by rw [w]) rfl)))
theorem ack_some (s : T_Send) (n q a0 : Nat) (hN : s.Next = (n : Int)) (hn : n ≤ 1000) (ha0 : a0 ≤ n) (hq : a0 % 8 = q) : ∀ (k fuel a : Nat), a0 - a = k → a ≤ a0 → k < fuel → (∀ j, a ≤ j → j < a0 → j % 8 ≠ q) →
    loopF (ackS s (q : Int)) fuel (a : Int) = some (.inr (true, T_Send.mk s.Number s.Data s.Ready (a0 : Int) s.Next 3 s.Over)) := by
  intro k
  induction k with
  | zero =>
    intro fuel a hk hle hf hno
    obtain ⟨f, rfl⟩ : ∃ f, fuel = f + 1 := ⟨fuel - 1, by omega⟩
    obtain rfl : a = a0 := by omega
    refine loop_exit ?_
    unfold ackS; exact cnd_t (by rw [hN]; simp; omega) (bnd (rem8 a) (cnd_t (by simp; omega) rfl))
  | succ k ih =>
    intro fuel a hk hle hf hno
    obtain ⟨f, rfl⟩ : ∃ f, fuel = f + 1 := ⟨fuel - 1, by omega⟩
    have w : IntKind.i64.wrap ((a : Int) + 1) = ((a + 1 : Nat) : Int) := by rw [wrap_i64 (by omega) (by omega)]; simp
    refine (loop_next ?_).trans (ih f (a + 1) (by omega) (by omega) (by omega) fun j h1 h2 => hno j (by omega) h2)
    have := hno a (Nat.le_refl _) (by omega)
    unfold ackS
    exact cnd_t (by rw [hN]; simp; omega) (bnd (rem8 a) (cnd_f (by simp; omega) (bnd (x := ((a + 1 : Nat) : Int)) (by rw [w]) rfl)))

/-- The law's search: the last piece that is meant. -/
theorem lack_loop (s : T_Send) (n q : Nat) (hN : s.Next = (n : Int)) (hR : s.Ready = true) (hn : n ≤ 1000) : ∀ (k fuel a : Nat) (at_ : Int), n + 1 - a = k → k < fuel →
    ∃ r, loopF (lackS s (q : Int)) fuel (at_, (a : Int)) = some (.inl r) ∧ ((∀ j, a ≤ j → j ≤ n → j % 8 ≠ q) → r = at_) ∧ ∀ a0, a ≤ a0 → a0 ≤ n → a0 % 8 = q → (∀ j, a ≤ j → j ≤ n → j % 8 = q → j = a0) → r = (a0 : Int) := by
  intro k
  induction k with
  | zero =>
    intro fuel a at_ hk hf
    obtain ⟨f, rfl⟩ : ∃ f, fuel = f + 1 := ⟨fuel - 1, by omega⟩
    refine ⟨at_, loop_exit ?_, fun _ => rfl, fun a0 h1 h2 => by omega⟩
    unfold lackS; exact bndL (s := false) (cnd_f (by rw [hN]; simp; omega) rfl) (cnd_f rfl rfl)
  | succ k ih =>
    intro fuel a at_ hk hf
    obtain ⟨f, rfl⟩ : ∃ f, fuel = f + 1 := ⟨fuel - 1, by omega⟩
    have w : IntKind.i64.wrap ((a : Int) + 1) = ((a + 1 : Nat) : Int) := by rw [wrap_i64 (by omega) (by omega)]; simp
    by_cases hq : a % 8 = q
    · obtain ⟨r, h1, h2, h3⟩ := ih f (a + 1) (a : Int) (by omega) (by omega)
      refine ⟨r, (loop_next ?_).trans h1, fun h => absurd hq (h a (Nat.le_refl _) (by omega)), fun a0 k1 k2 k3 k4 => ?_⟩
      · unfold lackS
        exact bndL (s := true) (cnd_t (by rw [hN]; simp; omega) (by rw [hR])) (cnd_t rfl (bndL (s := (a : Int)) (bnd (rem8 a) (cnd_t (by simp; omega) rfl)) (bnd (x := ((a + 1 : Nat) : Int)) (by rw [w]) rfl)))
      · have := k4 a (Nat.le_refl _) (by omega) hq
        subst this
        exact h2 fun j j1 j2 j3 => by have := k4 j (by omega) j2 j3; omega
    · obtain ⟨r, h1, h2, h3⟩ := ih f (a + 1) at_ (by omega) (by omega)
      refine ⟨r, (loop_next ?_).trans h1, fun h => h2 fun j j1 j2 => h j (by omega) j2, fun a0 k1 k2 k3 k4 => ?_⟩
      · unfold lackS
        exact bndL (s := true) (cnd_t (by rw [hN]; simp; omega) (by rw [hR])) (cnd_t rfl (bndL (s := at_) (bnd (rem8 a) (cnd_f (by simp; omega) rfl)) (bnd (x := ((a + 1 : Nat) : Int)) (by rw [w]) rfl)))
      · have : a ≠ a0 := fun e => hq (by rw [e]; exact k3)
        exact h3 a0 (by omega) k2 k3 fun j j1 j2 j3 => k4 j (by omega) j2 j3
theorem lack_off (s : T_Send) (q : Int) (hR : s.Ready = false) (f : Nat) (at_ a : Int) : loopF (lackS s q) (f + 1) (at_, a) = some (.inl at_) := by
  refine loop_exit ?_
  unfold lackS
  refine bndL (s := false) ?_ (cnd_f rfl rfl)
  rw [hR]; cases decide (a ≤ s.Next) <;> rfl

theorem hear_ack {s : T_Send} (h : Rt s) (ho : s.Over = false) (q : Nat) (hq : q < 8) (r : Bool × T_Send) (hr : sender_ack s (q : Int) = some r) :
    sender_Hear s (T_Frame.mk 4 s.Number 0 (q : Int) []) = some (cond r.1 (r.2, 0) (zeroSend, 11)) := by
  have hg : good (T_Frame.mk 4 s.Number 0 (q : Int) []) = true := by
    have := h.n1; have := h.n2
    simp [good, numIn, seqIn]; omega
  unfold sender_Hear
  refine bnd (check_rt h) (cnd_f rfl (bnd (check_eq _) ?_))
  rw [hg]
  refine cnd_f rfl (bndL (s := false) (cnd_f (by simp) (by rw [ho])) (cnd_f rfl (bnd (clone_eq s (by have := h.l2; omega)) ?_)))
  refine bndL (bndL (cnd_f rfl (cnd_t rfl (bnd hr rfl))) rfl) ?_
  obtain ⟨b, t⟩ := r
  cases b
  · exact cnd_t rfl rfl
  · exact cnd_f rfl rfl

theorem u64_mod8 (z : Int) : ∃ q : Nat, q < 8 ∧ remO (IntKind.u64.wrap z) 8 = some (q : Int) := by
  have h0 : 0 ≤ IntKind.u64.wrap z := by
    simp only [IntKind.wrap, IntKind.bits, IntKind.signed]
    have e : (2 : Int) ^ 64 = 18446744073709551616 := by decide
    simp only [e, Bool.false_and, Bool.false_eq_true, if_false]
    omega
  obtain ⟨m, hm⟩ : ∃ m : Nat, IntKind.u64.wrap z = (m : Int) := ⟨(IntKind.u64.wrap z).toNat, by omega⟩
  rw [hm]
  exact ⟨m % 8, Nat.mod_lt _ (by omega), rem8 m⟩

theorem senderAcks_true (s : T_Send) (seq : Int) : wherrylaw21_SenderAcks s seq = some true := by
  unfold wherrylaw21_SenderAcks
  by_cases h1 : 5100 < s.Data.length
  · exact bndL (s := true) (cnd_t (by simp; omega) rfl) (cnd_t rfl rfl)
  have href := refSend_eq s (by omega)
  cases hok : sendOk s with
  | false =>
    rw [hok] at href
    exact bndL (s := true) (cnd_f (by simp; omega) (bnd href (cnd_t rfl rfl))) (cnd_t rfl rfl)
  | true =>
  rw [hok] at href
  cases ho : s.Over with
  | true => exact bndL (s := true) (cnd_f (by simp; omega) (bnd href (cnd_f rfl rfl))) (cnd_t rfl rfl)
  | false =>
  have hr := rt_of hok
  obtain ⟨q, hq, hrem⟩ := u64_mod8 seq
  have wq : IntKind.i64.wrap (q : Int) = (q : Int) := wrap_i64 (by omega) (by omega)
  have hb := pcs_bd s
  have l2 := hr.l2
  obtain ⟨B, hB⟩ : ∃ B : Nat, s.Base = (B : Int) := ⟨s.Base.toNat, by have := hr.b0; omega⟩
  obtain ⟨n, hN⟩ : ∃ n : Nat, s.Next = (n : Int) := ⟨s.Next.toNat, by have := hr.b0; have := hr.nB; omega⟩
  have hBn : B ≤ n := by have := hr.nB; omega
  have hn7 : n ≤ B + 7 := by have := hr.nW; omega
  have hn : n ≤ 1000 := by have := hr.nP; omega
  have wB : IntKind.i64.wrap (s.Base + 1) = ((B + 1 : Nat) : Int) := by rw [hB, wrap_i64 (by omega) (by omega)]; simp
  have kz : wherrykeep_Send zeroSend zeroSend = some true := by
    rw [keepSend_eq _ _ (by show ([] : List Int).length < _; simp)]; simp
  have none_ : ∀ x : T_Send × Int, x = (zeroSend, 11) → (bindS (S := Bool) (A := Bool)
                (cond ((x.2 == 11))
                  ((wherrykeep_Send x.1 (T_Send.mk 0 [] false 0 0 0 false)).bind fun v70 =>
                  cond (v70)
                    ((wherrylaw21_wakes ).bind fun v71 =>
                    some (.inl v71))
                    (some (.inl false)))
                  (some (.inl false)))
                (fun (s72 : Bool) =>
                  some (s72)) some) = some true := by
    intro x hx; subst hx
    exact bndL (s := true) (cnd_t rfl (bnd kz (cnd_t rfl (bnd wakes21 rfl)))) rfl
  refine bndL (s := false) (cnd_f (by simp; omega) (bnd href (cnd_f rfl rfl))) (cnd_f rfl (bnd rfl (bnd hrem (bnd (x := (q : Int)) (by rw [wq]) ?_))))
  by_cases hR' : s.Ready = false
  · have hR := hR'
    have ha : sender_ack s (q : Int) = some (false, s) := by unfold sender_ack; exact cnd_t (by rw [hR]; rfl) rfl
    refine bnd (hear_ack hr ho q hq _ ha) (bnd (x := ((B + 1 : Nat) : Int)) (by rw [wB]) (bndL (s := (-1 : Int)) ?_ (cnd_t rfl (none_ _ rfl))))
    exact lack_off s (q : Int) hR (BIG - 1) (-1) ((B + 1 : Nat) : Int)
  have hR : s.Ready = true := by simpa using hR'
  obtain ⟨r, l1, l3, l4⟩ := lack_loop s n q hN hR hn (n - B) BIG (B + 1) (-1) (by omega) (by unfold BIG; omega)
  have l1' : loopF (lackS s (q : Int)) BIG (-1, ((B + 1 : Nat) : Int)) = some (.inl r) := l1
  by_cases hex : ∃ a0, B + 1 ≤ a0 ∧ a0 ≤ n ∧ a0 % 8 = q
  · obtain ⟨a0, e1, e2, e3⟩ := hex
    have hr0 : r = (a0 : Int) := l4 a0 e1 e2 e3 fun j j1 j2 j3 => by omega
    have ha : sender_ack s (q : Int) = some (true, T_Send.mk s.Number s.Data s.Ready (a0 : Int) s.Next 3 s.Over) := by
      unfold sender_ack
      refine cnd_f (by rw [hR]; rfl) (bnd (x := ((B + 1 : Nat) : Int)) (by rw [wB]) (bndR (a := (true, T_Send.mk s.Number s.Data s.Ready (a0 : Int) s.Next 3 s.Over)) ?_ rfl))
      exact ack_some s n q a0 hN hn e2 e3 (a0 - (B + 1)) BIG (B + 1) rfl e1 (by unfold BIG; omega) fun j j1 j2 j3 => by omega
    refine bnd (hear_ack hr ho q hq _ ha) (bnd (x := ((B + 1 : Nat) : Int)) (by rw [wB]) (bndL (s := r) l1' (cnd_f (by rw [hr0]; simp) ?_)))
    refine bndL (s := true) (cnd_t rfl (cnd_t (by show ((a0 : Int) == r) = true; rw [hr0]; simp) (cnd_t (by show (s.Next == s.Next) = true; simp) (cnd_t rfl ?_)))) rfl
    exact cnd_t (by show s.Ready = true; exact hR) (bnd wakes21 rfl)
  · have hno : ∀ j, B + 1 ≤ j → j ≤ n → j % 8 ≠ q := fun j j1 j2 j3 => hex ⟨j, j1, j2, j3⟩
    have hr0 : r = -1 := l3 hno
    have ha : sender_ack s (q : Int) = some (false, s) := by
      unfold sender_ack
      refine cnd_f (by rw [hR]; rfl) (bnd (x := ((B + 1 : Nat) : Int)) (by rw [wB]) (bndL (s := ()) ?_ rfl))
      exact ack_none s n q hN hn (n - B) BIG (B + 1) (by omega) (by unfold BIG; omega) hno
    exact bnd (hear_ack hr ho q hq _ ha) (bnd (x := ((B + 1 : Nat) : Int)) (by rw [wB]) (bndL (s := r) l1' (cnd_t (by rw [hr0]; rfl) (none_ _ rfl))))
end Go.Abs.Sh
