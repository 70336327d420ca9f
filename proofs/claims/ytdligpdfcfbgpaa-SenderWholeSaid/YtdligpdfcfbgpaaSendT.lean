import Derived.Test.YtdligpdfcfbgpaaSendR
namespace Go.Abs.Sh
set_option linter.unusedVariables false
set_option linter.unusedSimpArgs false

def askS (v10 : Int) : ((Int × (List Int) × Bool × Int × Int × Int × Bool × Int × Bool × Int)) → Option ((Int × (List Int) × Bool × Int × Int × Int × Bool × Int × Bool × Int) ⊕ ((Int × (List Int) × Bool × Int × Int × Int × Bool × Bool) ⊕ Bool)) := (fun ((s62, s63, s64, s65, s66, s67, s68, s69, s70, s71) : Int × (List Int) × Bool × Int × Int × Int × Bool × Int × Bool × Int) =>
        cond ((decide (s71 < v10)))
          ((sender_Tick (T_Send.mk s62 s63 s64 s65 s66 s67 s68)).bind fun v12 =>
          cond ((v12.2.2 != 0))
            (some (.inr (.inr (false))))
            ((some (IntKind.i64.wrap (s69 + 1))).bind fun v14 =>
            bindS (S := Int) (A := ((Int × (List Int) × Bool × Int × Int × Int × Bool × Int × Bool × Int) ⊕ ((Int × (List Int) × Bool × Int × Int × Int × Bool × Bool) ⊕ Bool)))
              (cond ((decide (0 < (v12.2.1.length : Int))))
                (some (.inl 0))
                (some (.inl v14)))
              (fun (s106 : Int) =>
                bindS (S := Bool) (A := ((Int × (List Int) × Bool × Int × Int × Int × Bool × Int × Bool × Int) ⊕ ((Int × (List Int) × Bool × Int × Int × Int × Bool × Bool) ⊕ Bool)))
                  (cond (s70)
                    (some (.inl true))
                    (cond (((v12.2.1.length : Int) == 1))
                      ((ixO 0 v12.2.1.length).bind fun v51 =>
                      (getO v12.2.1 v51).bind fun v52 =>
                      some (.inl (v52.Kind == 1)))
                      (some (.inl false))))
                  (fun (s111 : Bool) =>
                    bindS (S := Bool) (A := ((Int × (List Int) × Bool × Int × Int × Int × Bool × Int × Bool × Int) ⊕ ((Int × (List Int) × Bool × Int × Int × Int × Bool × Bool) ⊕ Bool)))
                      (cond ((decide (3 < s106)))
                        (cond ((!s68))
                          (some (.inl true))
                          (cond (s68)
                            (some (.inl ((decide (0 < (v12.2.1.length : Int))))))
                            (some (.inl false))))
                        (cond (s68)
                          (some (.inl ((decide (0 < (v12.2.1.length : Int))))))
                          (some (.inl false))))
                      (fun (s115 : Bool) =>
                        cond (s115)
                          (some (.inr (.inr (false))))
                          ((some (IntKind.i64.wrap (s71 + 1))).bind fun v32 =>
                          some (.inl (v12.1.Number, v12.1.Data, v12.1.Ready, v12.1.Base, v12.1.Next, v12.1.Wait, v12.1.Over, s106, s111, v32)))) some) some) some))
          (some (.inr (.inl (s62, s63, s64, s65, s66, s67, s68, s70)))))

theorem tick_same (s : T_Send) : (tickF s).1.Number = s.Number ∧ (tickF s).1.Data = s.Data ∧ (tickF s).1.Over = s.Over := by
  unfold tickF
  repeat' split
  all_goals exact ⟨rfl, rfl, rfl⟩
theorem rt_mk {s : T_Send} (h : Rt s) {r : Bool} {b n w : Int} {o : Bool} (b0 : 0 ≤ b) (bP : b ≤ pcs s) (nB : b ≤ n) (nW : n ≤ b + 7) (nP : n ≤ pcs s) (w0 : 0 ≤ w) (w3 : w ≤ 3) (rd : r = true ∨ (b = 0 ∧ n = 0)) :
    Rt (T_Send.mk s.Number s.Data r b n w o) := ⟨h.n1, h.n2, h.l1, h.l2, b0, bP, nB, nW, nP, w0, w3, rd⟩
theorem wnd_bd {s : T_Send} (h : Rt s) : s.Base ≤ wnd s ∧ wnd s ≤ s.Base + 7 ∧ wnd s ≤ pcs s ∧ (wnd s = pcs s ∨ wnd s = s.Base + 7) := by
  have hb := pcs_bd s
  have := h.l2; have := h.bP; have := h.b0
  rw [wnd_eq s h.b0 (by omega)]
  split <;> omega
theorem rt_tick {s : T_Send} (h : Rt s) : Rt (tickF s).1 := by
  have hw := wnd_bd h
  have hb := pcs_bd s
  have b0 := h.b0; have bP := h.bP; have nB := h.nB; have nW := h.nW; have nP := h.nP; have w0 := h.w0; have w3 := h.w3; have rd := h.rd
  unfold tickF
  split
  · exact h
  split
  · split
    · exact rt_mk h b0 bP nB nW nP (by omega) (by omega) rd
    · exact rt_mk h b0 bP nB nW nP (by omega) (by omega) rd
  rename_i hq
  have hr : s.Ready = true := by
    cases hr : s.Ready
    · exact absurd (.inl hr) hq
    · rfl
  split
  · exact rt_mk h b0 bP (by omega) (by omega) (by omega) (by omega) (by omega) (.inl hr)
  split
  · exact rt_mk h (by omega) (by omega) (by omega) (by omega) (by omega) (by omega) (by omega) (.inr ⟨rfl, rfl⟩)
  · exact rt_mk h b0 bP nB nW nP (by omega) (by omega) rd

/-- Within how many ticks it asks. -/
def rem5 (s : T_Send) : Int := if s.Ready = false ∨ s.Base = pcs s ∨ ¬ s.Next < wnd s then s.Wait + 1 else 5
theorem rem5_bd {s : T_Send} (h : Rt s) : 1 ≤ rem5 s ∧ rem5 s ≤ 5 := by
  have := h.w0; have := h.w3
  unfold rem5; split <;> omega
theorem ask_tick {s : T_Send} (h : Rt s) (ho : s.Over = false) :
    ((tickF s).2 = [helloF s] ∧ (tickF s).1.Wait = 3) ∨ (0 < (tickF s).2.length ∧ (tickF s).1.Wait = 3 ∧ rem5 s = 5 ∧ rem5 (tickF s).1 ≤ 4) ∨
      ((tickF s).2 = [] ∧ (tickF s).1.Wait = s.Wait - 1 ∧ 0 < s.Wait ∧ rem5 (tickF s).1 = rem5 s - 1) := by
  have hw := wnd_bd h
  have b0 := h.b0; have nB := h.nB
  have w0 := h.w0
  unfold tickF
  rw [if_neg (by rw [ho]; simp)]
  by_cases hq : s.Ready = false ∨ s.Base = pcs s
  · rw [if_pos hq]
    by_cases hw' : 0 < s.Wait
    · rw [if_pos hw']
      refine .inr (.inr ⟨rfl, rfl, hw', ?_⟩)
      have e1 : rem5 s = s.Wait + 1 := by unfold rem5; rw [if_pos (hq.imp id .inl)]
      have e2 : rem5 (T_Send.mk s.Number s.Data s.Ready s.Base s.Next (s.Wait - 1) s.Over) = s.Wait - 1 + 1 := by unfold rem5; rw [if_pos (hq.imp id .inl)]
      rw [e1, e2]; omega
    · rw [if_neg hw']; exact .inl ⟨rfl, rfl⟩
  rw [if_neg hq]
  by_cases hn : s.Next < wnd s
  · rw [if_pos hn]
    refine .inr (.inl ⟨?_, rfl, ?_, ?_⟩)
    · simp only [frames_len]; omega
    · unfold rem5; rw [if_neg]; rintro (h1 | h1 | h1)
      · exact hq (.inl h1)
      · exact hq (.inr h1)
      · exact h1 hn
    · have e : rem5 (T_Send.mk s.Number s.Data s.Ready s.Base (wnd s) 3 s.Over) = 3 + 1 := by
        unfold rem5; rw [if_pos (.inr (.inr (show ¬ wnd s < wnd s by omega)))]
      rw [e]; decide
  rw [if_neg hn]
  by_cases hz : s.Wait = 0
  · rw [if_pos hz]; exact .inl ⟨rfl, rfl⟩
  · rw [if_neg hz]
    refine .inr (.inr ⟨rfl, rfl, by omega, ?_⟩)
    have e1 : rem5 s = s.Wait + 1 := by unfold rem5; rw [if_pos (.inr (.inr hn))]
    have e2 : rem5 (T_Send.mk s.Number s.Data s.Ready s.Base s.Next (s.Wait - 1) s.Over) = s.Wait - 1 + 1 := by unfold rem5; rw [if_pos (.inr (.inr hn))]
    rw [e1, e2]; omega

theorem asked_eq (A : Type) (a : Bool) (l : List T_Frame) : ∃ b, (cond a (some (.inl true)) (cond (((l.length : Int) == 1)) ((ixO 0 l.length).bind fun v51 => (getO l v51).bind fun v52 => some (.inl (v52.Kind == 1))) (some (.inl false))) : Option (Bool ⊕ A)) = some (.inl b) ∧
    (a = true → b = true) ∧ ∀ s, l = [helloF s] → b = true := by
  cases a
  · by_cases h1 : ∃ f, l = [f]
    · obtain ⟨f, rfl⟩ := h1
      refine ⟨f.Kind == 1, cnd_f rfl (cnd_t rfl (bnd (ixO_of (i := 0) (n := 1) (by omega)) (bnd rfl rfl))), by simp, ?_⟩
      intro s hs
      cases hs
      rfl
    · refine ⟨false, cnd_f rfl (cnd_f ?_ rfl), by simp, fun s hs => absurd ⟨_, hs⟩ h1⟩
      cases l with
      | nil => rfl
      | cons x l =>
        cases l with
        | nil => exact absurd ⟨x, rfl⟩ h1
        | cons y l => simp; omega
  · exact ⟨true, rfl, by simp, by simp⟩

theorem ask_loop (v : Nat) (hv : v ≤ 100) : ∀ (k fuel i : Nat) (s : T_Send) (q : Int) (a : Bool), v - i = k → i ≤ v → k < fuel → Rt s → 0 ≤ q → (s.Over = true ∧ q ≤ (i : Int) + 3 ∨ q + s.Wait ≤ 3) → (s.Over = true ∨ a = true ∨ (i : Int) + rem5 s ≤ 5) →
    ∃ (s' : T_Send) (a' : Bool), loopF (askS (v : Int)) fuel (s.Number, s.Data, s.Ready, s.Base, s.Next, s.Wait, s.Over, q, a, (i : Int)) = some (.inl (s'.Number, s'.Data, s'.Ready, s'.Base, s'.Next, s'.Wait, s'.Over, a')) ∧ (s'.Over = true ∨ a' = true ∨ v ≤ 4) := by
  intro k
  induction k with
  | zero =>
    intro fuel i s q a hk hi hf hr hq0 hq ha
    obtain ⟨f, rfl⟩ : ∃ f, fuel = f + 1 := ⟨fuel - 1, by omega⟩
    obtain rfl : i = v := by omega
    refine ⟨s, a, loop_exit (by unfold askS; exact cnd_f (by simp) rfl), ?_⟩
    have := rem5_bd hr
    rcases ha with h | h | h
    · exact .inl h
    · exact .inr (.inl h)
    · exact .inr (.inr (by omega))
  | succ k ih =>
    intro fuel i s q a hk hi hf hr hq0 hq ha
    obtain ⟨f, rfl⟩ : ∃ f, fuel = f + 1 := ⟨fuel - 1, by omega⟩
    have w1 : IntKind.i64.wrap ((i : Int) + 1) = ((i + 1 : Nat) : Int) := by rw [wrap_i64 (by omega) (by omega)]; simp
    have w0 := hr.w0
    have w2 : IntKind.i64.wrap (q + 1) = q + 1 := by rw [wrap_i64 (by omega) (by omega)]
    obtain ⟨b, hb, hb1, hb2⟩ := asked_eq ((Int × (List Int) × Bool × Int × Int × Int × Bool × Int × Bool × Int) ⊕ ((Int × (List Int) × Bool × Int × Int × Int × Bool × Bool) ⊕ Bool)) a (tickF s).2
    have hs := tick_same s
    have hrt := rt_tick hr
    have hlt : decide ((i : Int) < (v : Int)) = true := by simp; omega
    by_cases ho : s.Over = true
    · have e : tickF s = (s, []) := by unfold tickF; rw [if_pos ho]
      rw [e] at hb
      obtain ⟨s', a', h1, h2⟩ := ih f (i + 1) s (q + 1) b (by omega) (by omega) (by omega) hr (by omega) (.inl ⟨ho, by rcases hq with h | h <;> omega⟩) (.inl ho)
      refine ⟨s', a', (loop_next ?_).trans h1, h2⟩
      unfold askS
      refine cnd_t hlt (bnd (tick_eq hr) (cnd_f rfl (bnd (x := q + 1) (by rw [w2]) (bndL (s := q + 1) ?_ (bndL (s := b) ?_ (bndL (s := false) ?_ (cnd_f rfl (bnd (x := ((i + 1 : Nat) : Int)) (by rw [w1]) ?_))))))))
      · rw [e]; exact cnd_f rfl rfl
      · rw [e]; exact hb
      · rw [e, ho]
        cases decide (3 < q + 1) <;> rfl
      · rw [e]
    · have ho' : s.Over = false := by simpa using ho
      have hq' : q + s.Wait ≤ 3 := by
        rcases hq with h | h
        · exact absurd h.1 ho
        · exact h
      have key : ∀ q' : Int, (cond (decide (0 < ((tickF s).2.length : Int))) (some (.inl 0)) (some (.inl (q + 1))) : Option (Int ⊕ ((Int × (List Int) × Bool × Int × Int × Int × Bool × Int × Bool × Int) ⊕ ((Int × (List Int) × Bool × Int × Int × Int × Bool × Bool) ⊕ Bool)))) = some (.inl q') → 0 ≤ q' → q' + (tickF s).1.Wait ≤ 3 → (b = true ∨ ((i + 1 : Nat) : Int) + rem5 (tickF s).1 ≤ 5) →
          ∃ (s' : T_Send) (a' : Bool), loopF (askS (v : Int)) (f + 1) (s.Number, s.Data, s.Ready, s.Base, s.Next, s.Wait, s.Over, q, a, (i : Int)) = some (.inl (s'.Number, s'.Data, s'.Ready, s'.Base, s'.Next, s'.Wait, s'.Over, a')) ∧ (s'.Over = true ∨ a' = true ∨ v ≤ 4) := by
        intro q' hq1 hq2 hq3 hq4
        obtain ⟨s', a', h1, h2⟩ := ih f (i + 1) (tickF s).1 q' b (by omega) (by omega) (by omega) hrt hq2 (.inr hq3) (.inr hq4)
        refine ⟨s', a', (loop_next ?_).trans h1, h2⟩
        have := hrt.w0
        unfold askS
        refine cnd_t hlt (bnd (tick_eq hr) (cnd_f rfl (bnd (x := q + 1) (by rw [w2]) (bndL (s := q') hq1 (bndL (s := b) hb (bndL (s := false) ?_ (cnd_f rfl (bnd (x := ((i + 1 : Nat) : Int)) (by rw [w1]) rfl))))))))
        rw [ho']
        exact cnd_f (by simp; omega) rfl
      have w0 := hr.w0
      rcases ask_tick hr ho' with ⟨e1, e2⟩ | ⟨e1, e2, e3, e4⟩ | ⟨e1, e2, e3, e4⟩
      · exact key 0 (by rw [e1]; rfl) (by omega) (by omega) (.inl (hb2 _ e1))
      · refine key 0 (cnd_t (by simp; omega) rfl) (by omega) (by omega) ?_
        rcases ha with h | h | h
        · exact absurd h ho
        · exact .inl (hb1 h)
        · exact .inr (by omega)
      · refine key (q + 1) (by rw [e1]; rfl) (by omega) (by omega) ?_
        rcases ha with h | h | h
        · exact absurd h ho
        · exact .inl (hb1 h)
        · exact .inr (by omega)

theorem rem30 (z : Int) : ∃ q : Nat, q < 30 ∧ remO (IntKind.u64.wrap z) 30 = some (q : Int) := by
  obtain ⟨q, h1, h2⟩ := u64_mod z 30 (by omega) (by omega)
  exact ⟨q, h1, h2⟩

theorem senderAsks_true (s : T_Send) (ticks : Int) : wherrylaw21_SenderAsks s ticks = some true := by
  unfold wherrylaw21_SenderAsks
  by_cases h1 : 5100 < s.Data.length
  · exact bndL (s := true) (cnd_t (by simp; omega) rfl) (cnd_t rfl rfl)
  have href := refSend_eq s (by omega)
  cases hok : sendOk s with
  | false =>
    rw [hok] at href
    exact bndL (s := true) (cnd_f (by simp; omega) (bnd href rfl)) (cnd_t rfl rfl)
  | true =>
  rw [hok] at href
  have hr := rt_of hok
  obtain ⟨q, hq, hrem⟩ := rem30 ticks
  have w1 : IntKind.i64.wrap (q : Int) = (q : Int) := wrap_i64 (by omega) (by omega)
  have w2 : IntKind.i64.wrap (1 + (q : Int)) = ((1 + q : Nat) : Int) := by rw [wrap_i64 (by omega) (by omega)]; simp
  obtain ⟨s', a', l1, l2⟩ := ask_loop (1 + q) (by omega) (1 + q) BIG 0 s 0 false rfl (by omega) (by unfold BIG; omega) hr (by omega) (.inr (by have := hr.w3; omega)) (.inr (.inr (by have := rem5_bd hr; omega)))
  refine bndL (s := false) (cnd_f (by simp; omega) (bnd href rfl)) (cnd_f rfl (bnd rfl (bnd hrem (bnd (x := (q : Int)) (by rw [w1]) (bnd (x := ((1 + q : Nat) : Int)) (by rw [w2]) (bndL l1 ?_))))))
  refine bndL (s := true) ?_ rfl
  cases ho : s'.Over with
  | true => exact cnd_t rfl (bnd wakes21 rfl)
  | false =>
    refine cnd_f rfl ?_
    by_cases h9 : 1 + q < 9
    · exact cnd_t (by simp; omega) (bnd wakes21 rfl)
    · refine cnd_f (by simp; omega) (cnd_t ?_ (bnd wakes21 rfl))
      rcases l2 with h | h | h
      · rw [ho] at h; cases h
      · exact h
      · omega
end Go.Abs.Sh
