import Derived.Test.YtglabbpbianmnaaGreatDoorBunQ
namespace Go.Abs.Sh
set_option linter.unusedVariables false
set_option linter.unusedSimpArgs false
set_option maxRecDepth 100000
def tmS (l : List T_Mail) : (((List T_Mail) × Int)) → Option (((List T_Mail) × Int) ⊕ (((List T_Mail)) ⊕ (List T_Mail))) := (fun ((s10, s11) : (List T_Mail) × Int) =>
  cond ((decide (s11 < (l.length : Int))))
    ((ixO s11 l.length).bind fun v2 =>
    (getO l v2).bind fun v3 =>
    (wherrykeep_TwinMail ((T_Mail.mk (T_Path.mk v3.From.Null v3.From.Local v3.From.Domain) v3.To v3.Body v3.Quiet v3.Helo v3.At))).bind fun v4 =>
    (appO 120 s10 [(T_Mail.mk (T_Path.mk v4.From.Null v4.From.Local v4.From.Domain) v4.To v4.Body v4.Quiet v4.Helo v4.At)]).bind fun v5 =>
    (some (IntKind.i64.wrap (s11 + 1))).bind fun v6 =>
    some (.inl (v5, v6)))
    (some (.inr (.inl s10))))
theorem twinM_eq {m : T_Mail} (h : LM m) : wherrykeep_TwinMail m = some m := by
  obtain ⟨h1, h2⟩ := h
  simp only [mW] at h2
  unfold wherrykeep_TwinMail
  refine bnd (x := m.To) ?_ (bnd (twin14 _ (by omega)) rfl)
  unfold wherrykeep_TwinPaths
  exact bnd (app_of (by simp only [List.length_nil]; omega) (by simp only [List.length_nil]; omega)) rfl
theorem twinMs_eq {l : List T_Mail} (hm : ∀ m ∈ l, LM m) (hl : l.length ≤ 20) : wherrykeep_TwinMails l = some l := by
  unfold wherrykeep_TwinMails
  refine bndL (s := l) (loop_from (f := tmS l) (fun i => (l.take i, ((i : Nat) : Int))) l.length BIG (by simp) (by simp only [BIG]; omega) (fun i hi => ?_) ?_) rfl
  · have htl : (l.take i).length = i := by simp; omega
    refine cnd_t (decide_eq_true (by omega)) (bnd (ixO_of hi) (bnd (getO_of hi) (bnd (twinM_eq (hm _ (List.getElem_mem hi))) (bnd (app_of (by simp only [htl, List.length_cons, List.length_nil]; omega) (by simp only [htl, List.length_cons, List.length_nil]; omega)) (bnd (congrArg some (wrap_succ (n := i) (by omega))) ?_)))))
    rw [List.take_succ_eq_append_getElem hi]
  · rw [List.take_length]
    exact cnd_f (decide_eq_false (by omega)) rfl
theorem bytes_chk {b : T_Bundle} (hm : ∀ m ∈ b.Mails, LM m ∧ byt m.Body) (hl : b.Mails.length ≤ 20) (hck : bundle_Check b = some 0) :
    (bundle_Bytes b = some ([], 2)) ∨ ((b.Origin = 0 ∨ b.Origin = 1) ∧ 1 ≤ b.Number ∧ b.Number ≤ 65535 ∧ 1 ≤ b.Mails.length ∧ b.Mails.length ≤ 4 ∧ (∀ m ∈ b.Mails, Vm m) ∧ (wholeL b).length ≤ 4096 ∧ bundle_Bytes b = some (wholeL b, 0)) := by
  obtain ⟨e, he, h5, h0⟩ := chk_eq hm hl
  rw [hck] at he
  obtain rfl := Option.some.inj he
  obtain ⟨ho, hn1, hn2, hl1, hl4, hv⟩ := h0 rfl
  have hlen := cmds_len hv
  have hlen2 : b.Mails.length * 1000000 ≤ 4 * 1000000 := Nat.mul_le_mul_right _ hl4
  have hcl : (comL b.Mails).length ≤ 4000006 := by simp only [comL, quitL, List.length_append, List.length_cons, List.length_nil]; omega
  have hcb := comL_byt hv
  have hns : [b.Origin, b.Number, (b.Mails.length : Int), ((cmds b.Mails ++ [81, 85, 73, 84, 13, 10]).length : Int), ((sumL (comL b.Mails) : Nat) : Int)] = (numsL b).map (fun n : Nat => (n : Int)) := by
    show _ = [((b.Origin.toNat : Nat) : Int), ((b.Number.toNat : Nat) : Int), ((b.Mails.length : Nat) : Int), (((comL b.Mails).length : Nat) : Int), ((sumL (comL b.Mails) : Nat) : Int)]
    rw [show ((b.Origin.toNat : Nat) : Int) = b.Origin by omega, show ((b.Number.toNat : Nat) : Int) = b.Number by omega]
    rfl
  have hsl := sumL_lt hcb
  have hn : ∀ n ∈ numsL b, n < 10 ^ 18 := by
    intro n hn
    simp only [numsL, List.mem_cons, List.not_mem_nil, or_false] at hn
    rcases hn with rfl | rfl | rfl | rfl | rfl <;> omega
  have hby := bytes_eq hck hv hl (sumL_eq hcb (by show (comL b.Mails).length < _; omega)) hns hn
  have ew : (bunW ++ nmsL (numsL b)) ++ [13, 10] ++ (cmds b.Mails ++ [81, 85, 73, 84, 13, 10]) = wholeL b := by simp [wholeL, comL, quitL]
  rw [ew] at hby
  by_cases h : 4096 < (wholeL b).length
  · rw [if_pos h] at hby
    exact .inl hby
  · rw [if_neg h] at hby
    exact .inr ⟨ho, hn1, hn2, hl1, hl4, hv, by omega, hby⟩
theorem chk_other {b : T_Bundle} {l : List T_Mail} (hm : ∀ m ∈ b.Mails, LM m ∧ byt m.Body) (hl : b.Mails.length ≤ 4) (hck : bundle_Check b = some 0) (hs : ∀ m ∈ l, m ∈ b.Mails) (h1 : 1 ≤ l.length) (h4 : l.length ≤ 4) : bundle_Check (T_Bundle.mk b.Origin b.Number l) = some 0 := by
  have h := chk_exact hm (by omega)
  have h2 := chk_exact (b := T_Bundle.mk b.Origin b.Number l) (fun m hmm => hm m (hs m hmm)) (by show l.length ≤ 20; omega)
  rw [hck] at h
  have hb : bunB b = true := by
    cases hh : bunB b with
    | true => rfl
    | false => rw [hh] at h; exact absurd (Option.some.inj h) (by decide)
  have hb2 : bunB (T_Bundle.mk b.Origin b.Number l) = true := by
    unfold bunB at hb ⊢
    simp only [Bool.and_eq_true, List.all_eq_true, decide_eq_true_eq] at hb ⊢
    exact ⟨hb.1, ⟨h1, h4⟩, fun m hmm => hb.2.2 m (hs m hmm)⟩
  rw [h2, hb2]
  rfl
theorem bundleOrder_true (b : T_Bundle) (hb : T_Bundle.wz b) : wherrylaw17_BundleOrder b = some true := by
  have hmr : ∀ m ∈ b.Mails, mRe m ∧ byt m.Body := fun m hm => wz_mail (hb.2.2.2 m hm)
  obtain ⟨hv, hh, hlm⟩ := heavy17 b.Mails fun m hm => (hmr m hm).1
  unfold wherrylaw17_BundleOrder
  cases hv
  case true => exact bnd hh (cnd_t rfl rfl)
  obtain ⟨hl20, hlm⟩ := hlm rfl
  have hmf : ∀ m ∈ b.Mails, LM m ∧ byt m.Body := fun m hm => ⟨hlm m hm, (hmr m hm).2⟩
  refine bnd hh (cnd_f rfl ?_)
  rcases bytes_of hmf hl20 with ⟨e, he, h52⟩ | ⟨hck, ho, hn1, hn2, hl1, hl4, hvm, hw, hby⟩
  · exact bnd (x := ([], e)) he (bndL (s := true) (cnd_t (bne_iff_ne.2 (by show e ≠ 0; omega)) rfl) (cnd_t rfl (bndL (s := true) (cnd_f (beq_eq_false_iff_ne.2 (by show e ≠ 0; omega)) (cnd_t rfl (bnd wakes17 rfl))) rfl)))
  refine bnd (x := (wholeL b, 0)) hby ?_
  by_cases h2 : b.Mails.length < 2
  · exact bndL (s := true) (cnd_f rfl (inl_of (decide_eq_true (by omega)))) (cnd_t rfl (bndL (s := true) (cnd_t rfl (bnd wakes17 rfl)) rfl))
  refine bndL (s := false) (cnd_f rfl (inl_of (decide_eq_false (by omega)))) (cnd_f rfl ?_)
  have htw := twinMs_eq hlm hl20
  have i0 : 0 < b.Mails.length := by omega
  have i1 : 1 < b.Mails.length := by omega
  obtain ⟨p, hp⟩ : ∃ p, p = b.Mails[0] := ⟨_, rfl⟩
  obtain ⟨q, hq⟩ : ∃ q, q = b.Mails[1] := ⟨_, rfl⟩
  obtain ⟨r, hml⟩ : ∃ r, b.Mails = p :: q :: r := ⟨b.Mails.drop 2, by
    rw [hp, hq, ← List.drop_eq_getElem_cons i1]
    have := List.drop_eq_getElem_cons i0
    rw [List.drop_zero] at this
    exact this⟩
  have hg0 : getO b.Mails 0 = some p := by rw [hml]; rfl
  have hg1 : getO b.Mails 1 = some q := by rw [hml]; rfl
  have hs0 : b.Mails.set 0 q = q :: q :: r := by rw [hml]; rfl
  have hsub : ∀ m ∈ q :: p :: r, m ∈ b.Mails := by
    intro m hm
    rw [hml]
    simp only [List.mem_cons] at hm ⊢
    rcases hm with h | h | h
    · exact .inr (.inl h)
    · exact .inl h
    · exact .inr (.inr h)
  have hsub2 : ∀ m ∈ q :: r, m ∈ b.Mails := by
    intro m hm
    rw [hml]
    exact List.mem_cons_of_mem _ hm
  have hlen : b.Mails.length = r.length + 2 := by rw [hml]; rfl
  have hck2 := chk_other (l := q :: p :: r) hmf hl4 hck hsub (by simp) (by simp only [List.length_cons]; omega)
  have hck3 := chk_other (l := q :: r) hmf hl4 hck hsub2 (by simp) (by simp only [List.length_cons]; omega)
  have hm2 : ∀ m ∈ (T_Bundle.mk b.Origin b.Number (q :: p :: r)).Mails, LM m ∧ byt m.Body := fun m hm => hmf m (hsub m hm)
  have hm3 : ∀ m ∈ (T_Bundle.mk b.Origin b.Number (q :: r)).Mails, LM m ∧ byt m.Body := fun m hm => hmf m (hsub2 m hm)
  have hsl : sliO b.Mails 1 (b.Mails.length : Int) = some (q :: r) := by
    have := sli_nat b.Mails (a := 1) (b := b.Mails.length) (by omega) (Nat.le_refl _)
    rw [show ((1 : Nat) : Int) = 1 from rfl] at this
    rw [this, hml]
    simp
  refine bnd htw (bnd (ixO_of (i := 1) i1) (bnd hg1 (bnd (ixO_of (i := 0) i0) (bnd hg0 (bnd (ixO_of (i := 0) i0) (bnd hg0 (bnd (congrArg some hs0) (bnd (ixO_of (i := 1) i1) (bnd (x := q) rfl (bnd (x := q :: p :: r) rfl ?_))))))))))
  have hby2 := bytes_chk hm2 (by show (q :: p :: r).length ≤ 20; simp only [List.length_cons]; omega) hck2
  have hby3 := bytes_chk hm3 (by show (q :: r).length ≤ 20; simp only [List.length_cons]; omega) hck3
  rcases hby2 with b2 | ⟨_, _, _, _, hl42, hvm2, hw2, b2⟩
  · rcases hby3 with b3 | ⟨_, _, _, _, hl43, hvm3, hw3, b3⟩
    · exact bnd b2 (bnd hsl (bnd b3 (bndL (s := true) (cnd_t rfl rfl) (cnd_t rfl (bndL (s := true) (cnd_f rfl (cnd_t rfl (cnd_f rfl (cnd_t rfl (bnd wakes17 rfl))))) rfl)))))
    · exact bnd b2 (bnd hsl (bnd b3 (bndL (s := true) (cnd_t rfl rfl) (cnd_t rfl (bndL (s := true) (cnd_f rfl (cnd_t rfl (cnd_t rfl (bnd wakes17 rfl)))) rfl)))))
  · rcases hby3 with b3 | ⟨_, _, _, _, hl43, hvm3, hw3, b3⟩
    · exact bnd b2 (bnd hsl (bnd b3 (bndL (s := true) (cnd_f rfl rfl) (cnd_t rfl (bndL (s := true) (cnd_t rfl (cnd_f rfl (cnd_t rfl (bnd wakes17 rfl)))) rfl)))))
    · have r1 := read_whole hmf hck ho hn1 hn2 hl4 hvm hw hby
      have r2 := read_whole hm2 hck2 ho hn1 hn2 hl42 hvm2 hw2 b2
      have r3 := read_whole hm3 hck3 ho hn1 hn2 hl43 hvm3 hw3 b3
      have k2 := keepB_refl (T_Bundle.mk b.Origin b.Number (q :: p :: r)) (by show (q :: p :: r).length < 1000; simp only [List.length_cons]; omega) fun m hm => lm_len (hm2 m hm).1
      have hkb := keepBytes_eq (wholeL b) (wholeL (T_Bundle.mk b.Origin b.Number (q :: p :: r))) (by omega)
      obtain ⟨t1, t2⟩ := lm_len (hlm p (by rw [hml]; simp))
      have hkm := keepMail_eq p q t1 t2
      have hiff : decide (wholeL b = wholeL (T_Bundle.mk b.Origin b.Number (q :: p :: r))) = decide (p = q) := by
        refine decide_eq_decide.2 ⟨fun h => ?_, fun h => ?_⟩
        · rw [h, r2] at r1
          have := congrArg T_Bundle.Mails (Prod.mk.inj (Option.some.inj r1)).1
          rw [hml] at this
          exact (List.cons.inj this).1.symm
        · congr 1
          obtain ⟨a, c, d⟩ := b
          have hml' : d = p :: q :: r := hml
          rw [hml', h]
      rw [hiff] at hkb
      have hwl : IntKind.i64.wrap ((b.Mails.length : Int) - 1) = ((q :: r).length : Int) := by rw [wrap_i64 (by omega) (by omega), hlen]; simp only [List.length_cons]; omega
      have hee : (decide (p = q) == decide (p = q)) = true := beq_self_eq_true _
      refine bnd b2 (bnd hsl (bnd b3 (bndL (s := false) (cnd_f rfl rfl) (cnd_f rfl (bnd r2 (bnd r3 (bndL (s := true) ?_ rfl)))))))
      exact cnd_t rfl (cnd_t rfl (bnd k2 (cnd_t rfl (bnd (congrArg some hwl) (cnd_t (beq_self_eq_true _) (bnd hkb (bnd (ixO_of (i := 0) i0) (bnd hg0 (bnd (ixO_of (i := 1) i1) (bnd hg1 (bnd hkm (bnd rfl (cnd_t hee (bnd wakes17 rfl))))))))))))))
end Go.Abs.Sh
