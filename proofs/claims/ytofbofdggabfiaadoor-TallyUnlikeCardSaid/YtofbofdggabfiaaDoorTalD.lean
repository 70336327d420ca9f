import Derived.Test.YtofbofdggabfiaaDoorTalC
namespace Go.Abs.Sh
set_option linter.unusedVariables false
set_option linter.unusedSimpArgs false
set_option maxRecDepth 10000
theorem wrap64_range (n : Int) : -9223372036854775808 ≤ IntKind.i64.wrap n ∧ IntKind.i64.wrap n ≤ 9223372036854775807 ∧ IntKind.i64.wrap n % 18446744073709551616 = n % 18446744073709551616 := by
  simp only [IntKind.wrap, IntKind.bits, IntKind.signed]
  have e : (2 : Int) ^ 64 = 18446744073709551616 := by decide
  have e2 : (2 : Int) ^ (64 - 1) = 9223372036854775808 := by decide
  simp only [e, e2, Bool.true_and, decide_eq_true_eq]
  split <;> omega
theorem xor3_ne (x : Int) : bits .xor .i64 x 3 ≠ x := by
  intro h
  have hr := wrap64_range ((BitVec.ofInt 64 x ^^^ BitVec.ofInt 64 3).toNat : Int)
  have h' : IntKind.i64.wrap ((BitVec.ofInt 64 x ^^^ BitVec.ofInt 64 3).toNat : Int) = x := h
  rw [h'] at hr
  have hx : (BitVec.ofInt 64 x).toNat = (x % 18446744073709551616).toNat := by
    rw [BitVec.toNat_ofInt]; rfl
  have hn := (BitVec.ofInt 64 x ^^^ BitVec.ofInt 64 3).isLt
  have e : (2 : Nat) ^ 64 = 18446744073709551616 := by decide
  rw [e] at hn
  have hx0 := Int.emod_nonneg x (show (18446744073709551616 : Int) ≠ 0 by omega)
  have heq : (BitVec.ofInt 64 x ^^^ BitVec.ofInt 64 3).toNat = (BitVec.ofInt 64 x).toNat := by
    rw [hx]; omega
  rw [BitVec.toNat_xor] at heq
  have h3 : (BitVec.ofInt 64 3).toNat = 3 := by decide
  rw [h3] at heq
  have := congrArg (fun z => (BitVec.ofInt 64 x).toNat ^^^ z) heq
  simp only [← Nat.xor_assoc, Nat.xor_self, Nat.zero_xor] at this
  omega
theorem xor3_range (x : Int) : -9223372036854775808 ≤ bits .xor .i64 x 3 ∧ bits .xor .i64 x 3 ≤ 9223372036854775807 := by
  have hr := wrap64_range ((BitVec.ofInt 64 x ^^^ BitVec.ofInt 64 3).toNat : Int)
  exact ⟨hr.1, hr.2.1⟩
theorem cn2 {a b : T_Event} (h : kF b ≠ kF a) : (cnS [] [a, b]).length = 2 ∧ (cnS [] [a, b, a, b, b]).length = 2 := by
  simp [cnS, sF, h]
theorem cat97 (s : ByteArray) (h : s.size ≤ 100000) : ∃ t : ByteArray, catO s (⟨#[97]⟩ : ByteArray) = some t ∧ t.size = s.size + 1 := by
  refine ⟨s ++ ⟨#[97]⟩, ?_, ?_⟩
  · unfold catO
    rw [if_pos (by show s.size + 1 ≤ _; omega)]
  · rw [ByteArray.size_append]; rfl
theorem tallyUnlike_true (e : T_Event) (how : Int) (h0 : T_Event.wz e) : wherrylaw26_TallyUnlike e how = some true := by
  unfold wherrylaw26_TallyUnlike
  have hz := evz h0
  have hh : wherrylaw26_Heavy [e] = _ := heavy26 (l := [e]) (fun x hx => by rw [List.mem_singleton.1 hx]; exact hz)
  have hev : evS [e] = evW e := by simp [evS]
  rw [hev, List.length_singleton, decide_eq_false (show ¬ 100 < 1 by omega), Bool.false_or] at hh
  by_cases c1 : 30000 < evW e
  · rw [decide_eq_true c1] at hh
    exact bnd hh rfl
  rw [decide_eq_false c1] at hh
  have htw := twinE e.Body (by have := hz.n; omega)
  obtain ⟨A, r, hA, hr, hr2, hr3⟩ := mod26 how 6 (by omega) (by omega)
  have sz : e.Body.length ≤ 30000 ∧ e.From.Local.size ≤ 30000 ∧ e.From.Domain.size ≤ 30000 ∧ e.To.Local.size ≤ 30000 ∧ e.To.Domain.size ≤ 30000 := by unfold evW at c1; omega
  have fin : ∀ (s32 s33 : Int) (s34 : Bool) (s35 s36 : ByteArray) (s37 : List Int), EvZ (T_Event.mk s32 s33 (T_Path.mk s34 e.From.Local s35) (T_Path.mk e.To.Null s36 e.To.Domain) s37) → kF (T_Event.mk s32 s33 (T_Path.mk s34 e.From.Local s35) (T_Path.mk e.To.Null s36 e.To.Domain) s37) ≠ kF e → (bindS (S := Bool) (A := Bool)
          ((tally_Count [(T_Event.mk e.Kind e.Site (T_Path.mk e.From.Null e.From.Local e.From.Domain) (T_Path.mk e.To.Null e.To.Local e.To.Domain) e.Body), (T_Event.mk s32 s33 (T_Path.mk s34 e.From.Local s35) (T_Path.mk e.To.Null s36 e.To.Domain) s37)]).bind fun v62 =>
          cond ((v62 == 2))
            ((tally_Count [(T_Event.mk e.Kind e.Site (T_Path.mk e.From.Null e.From.Local e.From.Domain) (T_Path.mk e.To.Null e.To.Local e.To.Domain) e.Body), (T_Event.mk s32 s33 (T_Path.mk s34 e.From.Local s35) (T_Path.mk e.To.Null s36 e.To.Domain) s37), (T_Event.mk e.Kind e.Site (T_Path.mk e.From.Null e.From.Local e.From.Domain) (T_Path.mk e.To.Null e.To.Local e.To.Domain) e.Body), (T_Event.mk s32 s33 (T_Path.mk s34 e.From.Local s35) (T_Path.mk e.To.Null s36 e.To.Domain) s37), (T_Event.mk s32 s33 (T_Path.mk s34 e.From.Local s35) (T_Path.mk e.To.Null s36 e.To.Domain) s37)]).bind fun v63 =>
            cond ((v63 == 2))
              ((wherrylaw26_wakes ).bind fun v64 =>
              some (.inl v64))
              (some (.inl false)))
            (some (.inl false)))
          (fun (s65 : Bool) =>
            some (s65)) some) = some true := by
    intro s32 s33 s34 s35 s36 s37 hx hne
    have hc := cn2 hne
    have h1 := count_eq (l := [e, (T_Event.mk s32 s33 (T_Path.mk s34 e.From.Local s35) (T_Path.mk e.To.Null s36 e.To.Domain) s37)]) (by simp only [List.length_cons, List.length_nil]; omega) (fun x hm => by
      simp only [List.mem_cons, List.not_mem_nil, or_false] at hm
      rcases hm with rfl | rfl
      · exact hz
      · exact hx)
    have h2 := count_eq (l := [e, (T_Event.mk s32 s33 (T_Path.mk s34 e.From.Local s35) (T_Path.mk e.To.Null s36 e.To.Domain) s37), e, (T_Event.mk s32 s33 (T_Path.mk s34 e.From.Local s35) (T_Path.mk e.To.Null s36 e.To.Domain) s37), (T_Event.mk s32 s33 (T_Path.mk s34 e.From.Local s35) (T_Path.mk e.To.Null s36 e.To.Domain) s37)]) (by simp only [List.length_cons, List.length_nil]; omega) (fun x hm => by
      simp only [List.mem_cons, List.not_mem_nil, or_false] at hm
      rcases hm with rfl | rfl | rfl | rfl | rfl
      · exact hz
      · exact hx
      · exact hz
      · exact hx
      · exact hx)
    rw [hc.1] at h1
    rw [hc.2] at h2
    exact bndL (s := true) (bnd h1 (cnd_t rfl (bnd h2 (cnd_t rfl (bnd wakes26 rfl))))) rfl
  have hb6 : r = 0 ∨ r = 1 ∨ r = 2 ∨ r = 3 ∨ r = 4 ∨ r = 5 := by omega
  have go : ∀ (s32 s33 : Int) (s34 : Bool) (s35 s36 : ByteArray) (s37 : List Int), True := fun _ _ _ _ _ _ => trivial
  rcases hb6 with rfl | rfl | rfl | rfl | rfl | rfl
  · have hw := wrap64_range (1 - e.Site)
    by_cases hs : IntKind.i64.wrap (1 - e.Site) = e.Site
    · exact bnd hh (bnd htw (bndR (bnd (congrArg some hA) (bnd hr (bndR (cnd_t rfl (bnd rfl (cnd_t (beq_iff_eq.2 hs) rfl))) rfl))) rfl))
    · refine bnd hh (bnd htw (bndL (s := (e.Kind, IntKind.i64.wrap (1 - e.Site), e.From.Null, e.From.Domain, e.To.Local, e.Body)) (bnd (congrArg some hA) (bnd hr (bndL (s := (e.Kind, IntKind.i64.wrap (1 - e.Site), e.From.Null, e.From.Domain, e.To.Local, e.Body)) (cnd_t rfl (bnd rfl (cnd_f (beq_eq_false_iff_ne.2 hs) rfl))) rfl))) (fin _ _ _ _ _ _ ?_ ?_)))
      · exact ⟨hz.k, ⟨hw.1, hw.2.1⟩, hz.f1, hz.f2, hz.t1, hz.t2, hz.b, hz.n⟩
      · intro hk
        exact hs (congrArg T_tally_event.site hk)
  · have hw := xor3_range e.Kind
    refine bnd hh (bnd htw (bndL (s := (bits .xor .i64 e.Kind 3, e.Site, e.From.Null, e.From.Domain, e.To.Local, e.Body)) (bnd (congrArg some hA) (bnd hr (bndL (s := (bits .xor .i64 e.Kind 3, e.Site, e.From.Null, e.From.Domain, e.To.Local, e.Body)) (cnd_f rfl (cnd_t rfl (bnd rfl rfl))) rfl))) (fin _ _ _ _ _ _ ?_ ?_)))
    · exact ⟨hw, hz.s, hz.f1, hz.f2, hz.t1, hz.t2, hz.b, hz.n⟩
    · intro hk
      exact xor3_ne e.Kind (congrArg T_tally_event.kind hk)
  · obtain ⟨t, ht1, ht2⟩ := cat97 e.To.Local (by omega)
    refine bnd hh (bnd htw (bndL (s := (e.Kind, e.Site, e.From.Null, e.From.Domain, t, e.Body)) (bnd (congrArg some hA) (bnd hr (bndL (s := (e.Kind, e.Site, e.From.Null, e.From.Domain, t, e.Body)) (cnd_f rfl (cnd_f rfl (cnd_t rfl (bnd ht1 rfl)))) rfl))) (fin _ _ _ _ _ _ ?_ ?_)))
    · exact ⟨hz.k, hz.s, hz.f1, hz.f2, by show t.size ≤ _; omega, hz.t2, hz.b, hz.n⟩
    · intro hk
      have := congrArg (fun x => (T_tally_event.to_ x).Local.size) hk
      have : t.size = e.To.Local.size := this
      omega
  · obtain ⟨t, ht1, ht2⟩ := cat97 e.From.Domain (by omega)
    refine bnd hh (bnd htw (bndL (s := (e.Kind, e.Site, e.From.Null, t, e.To.Local, e.Body)) (bnd (congrArg some hA) (bnd hr (bndL (s := (e.Kind, e.Site, e.From.Null, t, e.To.Local, e.Body)) (cnd_f rfl (cnd_f rfl (cnd_f rfl (cnd_t rfl (bnd ht1 rfl))))) rfl))) (fin _ _ _ _ _ _ ?_ ?_)))
    · exact ⟨hz.k, hz.s, hz.f1, by show t.size ≤ _; omega, hz.t1, hz.t2, hz.b, hz.n⟩
    · intro hk
      have := congrArg (fun x => (T_tally_event.from_ x).Domain.size) hk
      have : t.size = e.From.Domain.size := this
      omega
  · have hap : appO 1 e.Body [1] = some (e.Body ++ [1]) := app_of (by simp only [List.length_cons, List.length_nil]; omega) (by simp only [List.length_cons, List.length_nil]; omega)
    refine bnd hh (bnd htw (bndL (s := (e.Kind, e.Site, e.From.Null, e.From.Domain, e.To.Local, e.Body ++ [1])) (bnd (congrArg some hA) (bnd hr (bndL (s := (e.Kind, e.Site, e.From.Null, e.From.Domain, e.To.Local, e.Body ++ [1])) (cnd_f rfl (cnd_f rfl (cnd_f rfl (cnd_f rfl (cnd_t rfl (bnd hap rfl)))))) rfl))) (fin _ _ _ _ _ _ ?_ ?_)))
    · exact ⟨hz.k, hz.s, hz.f1, hz.f2, hz.t1, hz.t2, byt_app hz.b (byt1 (by omega)), by show (e.Body ++ [1]).length ≤ _; rw [List.length_append, List.length_singleton]; omega⟩
    · intro hk
      have := congrArg (fun x => (T_tally_event.body x).size) hk
      have h2 : (bstr (e.Body ++ [1])).size = (bstr e.Body).size := this
      rw [bstr_size, bstr_size, List.length_append, List.length_singleton] at h2
      omega
  · refine bnd hh (bnd htw (bndL (s := (e.Kind, e.Site, !e.From.Null, e.From.Domain, e.To.Local, e.Body)) (bnd (congrArg some hA) (bnd hr (bndL (s := (e.Kind, e.Site, !e.From.Null, e.From.Domain, e.To.Local, e.Body)) (cnd_f rfl (cnd_f rfl (cnd_f rfl (cnd_f rfl (cnd_f rfl rfl))))) rfl))) (fin _ _ _ _ _ _ ?_ ?_)))
    · exact ⟨hz.k, hz.s, hz.f1, hz.f2, hz.t1, hz.t2, hz.b, hz.n⟩
    · intro hk
      have := congrArg (fun x => (T_tally_event.from_ x).Null) hk
      have h2 : (!e.From.Null) = e.From.Null := this
      revert h2
      generalize e.From.Null = b
      intro h2
      revert h2
      clear this
      cases b <;> decide
end Go.Abs.Sh
