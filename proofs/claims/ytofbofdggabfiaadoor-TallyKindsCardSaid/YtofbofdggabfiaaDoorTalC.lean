import Derived.Test.YtofbofdggabfiaaDoorTalB
namespace Go.Abs.Sh
set_option linter.unusedVariables false
set_option linter.unusedSimpArgs false
set_option maxRecDepth 10000
theorem evzs {l : List T_Event} (h : wzL 120 T_Event.wz l) : ∀ e ∈ l, EvZ e := fun e he => evz (h.2 e he)
theorem small26 {l : List T_Event} (h : ∀ e ∈ l, EvZ e) (hs : evS l ≤ 30000) : ∀ e ∈ l, byt e.Body ∧ e.Body.length ≤ 31000 := fun e he =>
  ⟨(h e he).b, by have := evS_mem he; have : e.Body.length ≤ evW e := (by unfold evW; omega); omega⟩
theorem tallyOnce_true (l : List T_Event) (site : Int) (to_ : T_Path) (body : List Int) (h0 : wzL 120 T_Event.wz l) (h3 : wzL 1 (wfI .u8) body) : wherrylaw26_TallyOnce l site to_ body = some true := by
  unfold wherrylaw26_TallyOnce
  have hz := evzs h0
  have hh := heavy26 hz
  by_cases c1 : (decide (100 < l.length) || decide (30000 < evS l)) = true
  · rw [c1] at hh
    exact bndL (s := true) (bnd hh (cnd_t rfl rfl)) rfl
  rw [Bool.not_eq_true] at c1
  rw [c1] at hh
  rw [Bool.or_eq_false_iff, decide_eq_false_iff_not, decide_eq_false_iff_not] at c1
  obtain ⟨a1, a2⟩ := c1
  by_cases c2 : 3000 < body.length
  · exact bndL (s := true) (bnd hh (cnd_f rfl (inl_of (decide_eq_true (by omega))))) rfl
  have hs := small26 hz (by omega)
  have hb := bz_of h3
  have htw := twins26 (l := l) (by omega) hz
  have hap : appO 120 l l = some (l ++ l) := app_of (by omega) (by omega)
  have ho1 := of_eq (site := site) (q := to_) (l := l) (by omega) hb hs
  have ho2 := of_eq (site := site) (q := to_) (l := l ++ l) (by rw [List.length_append]; omega) hb (fun e he => by rcases List.mem_append.1 he with h | h <;> exact hs e h)
  rw [List.countP_append, List.countP_append] at ho2
  have hc1 := count_eq (l := l) (by omega) hz
  have hc2 := count_eq (l := l ++ l) (by rw [List.length_append]; omega) (fun e he => by rcases List.mem_append.1 he with h | h <;> exact hz e h)
  rw [cnS_app, cnS_same l (cnS [] l) (cnS_sub l []).2] at hc2
  have hcn := (cnS_len l []).2
  rw [List.length_nil, Nat.zero_add] at hcn
  have hct := count_two site to_ body l
  have hnz : (cnS [] l).length = 0 ↔ l.length = 0 := by
    constructor
    · intro h
      cases l with
      | nil => rfl
      | cons e l =>
        have := (cnS_sub (e :: l) []).2 e List.mem_cons_self
        rw [List.length_eq_zero_iff.1 h] at this
        cases this
    · intro h; omega
  generalize (cnS [] l).length = n at hc1 hc2 hcn hnz
  generalize l.countP (cM site to_ body) = p at ho1 ho2 hct
  generalize l.countP (cB site to_) = q at ho1 ho2 hct
  have hbb : (!(((n : Int) == 0) == ((l.length : Int) == 0))) = false := by
    by_cases h : n = 0
    · have h' := hnz.1 h
      rw [h, h']; rfl
    · have h' : ¬ l.length = 0 := fun e => h (hnz.2 e)
      rw [beq_eq_false_iff_ne.2 (show (n : Int) ≠ 0 by omega), beq_eq_false_iff_ne.2 (show (l.length : Int) ≠ 0 by omega)]; rfl
  have hd : ∀ k : Nat, k ≤ 1000 → IntKind.i64.wrap (2 * (k : Int)) = ((k + k : Nat) : Int) := fun k hk => by rw [wrap_i64 (by omega) (by omega)]; omega
  refine bndL (s := false) (bnd hh (cnd_f rfl (inl_of (decide_eq_false (by omega))))) (cnd_f rfl (bnd htw (bnd hap (bnd ho1 (bnd ho2 (bnd hc1 (bndL (s := false) ?_ (cnd_f rfl (bndL (s := true) ?_ rfl)))))))))
  · exact cnd_f (decide_eq_false (by omega)) (cnd_f (decide_eq_false (by omega)) (bnd rfl (cnd_f hbb (cnd_f (decide_eq_false (by omega)) (cnd_f (decide_eq_false (by omega)) (bnd (wadd26 (by omega)) (inl_of (decide_eq_false (by omega)))))))))
  · exact bnd hc2 (cnd_t (beq_self_eq_true _) (bnd (congrArg some (hd p (by omega))) (cnd_t (beq_self_eq_true _) (bnd (congrArg some (hd q (by omega))) (cnd_t (beq_self_eq_true _) (bnd wakes26 rfl))))))
theorem u64_nn26 (n : Int) : 0 ≤ IntKind.u64.wrap n := by
  simp only [IntKind.wrap, IntKind.bits, IntKind.signed]
  have e : (2 : Int) ^ 64 = 18446744073709551616 := by decide
  simp only [e, Bool.false_and, Bool.false_eq_true, if_false]
  omega
theorem mod26 (x : Int) (n : Nat) (h : 0 < n) (hn : n < 1000000000) : ∃ (A r : Nat), IntKind.u64.wrap x = (A : Int) ∧ remO (A : Int) (n : Int) = some (r : Int) ∧ r < n ∧ IntKind.i64.wrap (r : Int) = (r : Int) := by
  obtain ⟨A, hA⟩ : ∃ A : Nat, IntKind.u64.wrap x = (A : Int) := ⟨(IntKind.u64.wrap x).toNat, by have := u64_nn26 x; omega⟩
  have hlt := Nat.mod_lt A h
  exact ⟨A, A % n, hA, rem_nat A n h, hlt, wrap_nat _ (by omega)⟩
theorem rpB_rep {site : ByteArray} {s p : T_Path} (h : rg site s p = true) : rpB (repOf (site, s, p)) p = true := by
  have hr := read_yes h (by have := rep_short h; omega)
  unfold rpB tally_reports
  rw [hr]
  show Option.getD (some (ptB p p)) false = true
  rw [ptB_self]; rfl
theorem tallyKinds_true (l : List T_Event) (sender rcpt : T_Path) (body : List Int) (site : Int) (h0 : wzL 120 T_Event.wz l) (h1 : T_Path.wz sender) (h2 : T_Path.wz rcpt) (h3 : wzL 1 (wfI .u8) body) : wherrylaw26_TallyKinds l sender rcpt body site = some true := by
  unfold wherrylaw26_TallyKinds
  have hz := evzs h0
  have hh := heavy26 hz
  by_cases c1 : (decide (100 < l.length) || decide (30000 < evS l)) = true
  · rw [c1] at hh
    exact bndL (s := true) (bnd hh (cnd_t rfl rfl)) rfl
  rw [Bool.not_eq_true] at c1
  rw [c1] at hh
  rw [Bool.or_eq_false_iff, decide_eq_false_iff_not, decide_eq_false_iff_not] at c1
  obtain ⟨a1, a2⟩ := c1
  by_cases c2 : 2000 < body.length
  · exact bndL (s := true) (bnd hh (cnd_f rfl (cnd_t (decide_eq_true (by omega)) rfl))) rfl
  have hrr := right_eq (⟨#[97, 46, 120]⟩ : ByteArray) sender rcpt
  by_cases c3 : rg (⟨#[97, 46, 120]⟩ : ByteArray) sender rcpt = true
  case neg =>
    rw [Bool.not_eq_true] at c3
    rw [c3] at hrr
    exact bndL (s := true) (bnd hh (cnd_f rfl (cnd_f (decide_eq_false (by omega)) (bnd hrr (cnd_t rfl rfl))))) rfl
  rw [c3] at hrr
  obtain ⟨g0, g1, g2⟩ := rg_sm c3
  have gl1 := g1.l
  have gl2 := g2.l
  have hwl : some (IntKind.i64.wrap ((sender.Local.size : Int) + (rcpt.Local.size : Int))) = some ((sender.Local.size + rcpt.Local.size : Nat) : Int) := wadd26 (by omega)
  by_cases c4 : 200 < sender.Local.size + rcpt.Local.size
  · exact bndL (s := true) (bnd hh (cnd_f rfl (cnd_f (decide_eq_false (by omega)) (bnd hrr (cnd_f rfl (bnd hwl (inl_of (decide_eq_true (by omega))))))))) rfl
  have hs := small26 hz (by omega)
  have hb := bz_of h3
  have htw := twins26 (l := l) (by omega) hz
  obtain ⟨A, r, hA, hr, hr2, hr3⟩ := mod26 site 2 (by omega) (by omega)
  have hrb := rbuild_eq (⟨#[97, 46, 120]⟩ : ByteArray) sender rcpt (by omega) g1 g2
  have hsh := rep_short c3
  have hby : byt (repOf ((⟨#[97, 46, 120]⟩ : ByteArray), sender, rcpt)) := jn_byt (rep_all c3).2
  have hrp := rpB_rep c3
  generalize repOf ((⟨#[97, 46, 120]⟩ : ByteArray), sender, rcpt) = rep at hrb hsh hby hrp
  have hw1 : IntKind.i64.wrap (1 - (r : Int)) = 1 - (r : Int) := wrap_i64 (by omega) (by omega)
  have ho1 := of_eq (site := (r : Int)) (q := rcpt) (l := l) (by omega) hb hs
  have hap : appO 120 l [(T_Event.mk 2 (r : Int) ((T_Path.mk false (⟨#[]⟩ : ByteArray) (⟨#[]⟩ : ByteArray))) sender rep), (T_Event.mk 1 (r : Int) sender rcpt body), (T_Event.mk 1 (1 - (r : Int)) sender rcpt body)] = some (l ++ _) := app_of (by simp only [List.length_cons, List.length_nil]; omega) (by simp only [List.length_cons, List.length_nil]; omega)
  have ho2 := of_eq (site := (r : Int)) (q := rcpt) (body := body) (l := l ++ [(T_Event.mk 2 (r : Int) ((T_Path.mk false (⟨#[]⟩ : ByteArray) (⟨#[]⟩ : ByteArray))) sender rep), (T_Event.mk 1 (r : Int) sender rcpt body), (T_Event.mk 1 (1 - (r : Int)) sender rcpt body)]) (by simp only [List.length_append, List.length_cons, List.length_nil]; omega) hb (fun e he => by
    rcases List.mem_append.1 he with h | h
    · exact hs e h
    · simp only [List.mem_cons, List.not_mem_nil, or_false] at h
      rcases h with rfl | rfl | rfl
      · exact ⟨hby, by show rep.length ≤ 31000; omega⟩
      · exact ⟨hb, by show body.length ≤ 31000; omega⟩
      · exact ⟨hb, by show body.length ≤ 31000; omega⟩)
  have m1 : cM (r : Int) rcpt body (T_Event.mk 2 (r : Int) ((T_Path.mk false (⟨#[]⟩ : ByteArray) (⟨#[]⟩ : ByteArray))) sender rep) = false := by simp [cM]
  have m2 : cM (r : Int) rcpt body (T_Event.mk 1 (r : Int) sender rcpt body) = true := by simp [cM, ptB_self]
  have hne : ¬ (1 - (r : Int)) = (r : Int) := by omega
  have m3 : cM (r : Int) rcpt body (T_Event.mk 1 (1 - (r : Int)) sender rcpt body) = false := by simp [cM, hne]
  have n1 : cB (r : Int) rcpt (T_Event.mk 2 (r : Int) ((T_Path.mk false (⟨#[]⟩ : ByteArray) (⟨#[]⟩ : ByteArray))) sender rep) = true := by simp [cB, hrp]
  have n2 : cB (r : Int) rcpt (T_Event.mk 1 (r : Int) sender rcpt body) = false := by simp [cB]
  have n3 : cB (r : Int) rcpt (T_Event.mk 1 (1 - (r : Int)) sender rcpt body) = false := by simp [cB]
  rw [List.countP_append, List.countP_append, List.countP_cons, List.countP_cons, List.countP_cons, List.countP_cons, List.countP_cons, List.countP_cons, List.countP_nil, List.countP_nil, m1, m2, m3, n1, n2, n3] at ho2
  have hct := count_two (r : Int) rcpt body l
  generalize l.countP (cM (r : Int) rcpt body) = p at ho1 ho2 hct
  generalize l.countP (cB (r : Int) rcpt) = q at ho1 ho2 hct
  have hwp : IntKind.i64.wrap ((p : Int) + 1) = ((p + 1 : Nat) : Int) := wrap_succ (by omega)
  have hwq : IntKind.i64.wrap ((q : Int) + 1) = ((q + 1 : Nat) : Int) := wrap_succ (by omega)
  refine bndL (s := false) (bnd hh (cnd_f rfl (cnd_f (decide_eq_false (by omega)) (bnd hrr (cnd_f rfl (bnd hwl (inl_of (decide_eq_false (by omega))))))))) (cnd_f rfl (bnd (congrArg some hA) (bnd hr (bnd (congrArg some hr3) (bnd ho1 (bnd hrb (bnd (congrArg some hw1) (bnd htw (bnd hap (bnd ho2 (bndL (s := true) ?_ rfl)))))))))))
  exact bnd (congrArg some hwp) (cnd_t (beq_iff_eq.2 rfl) (bnd (congrArg some hwq) (cnd_t (beq_iff_eq.2 rfl) (bnd wakes26 rfl))))
end Go.Abs.Sh
