import Derived.Test.YtegjndibgnnpcaaAnsX
namespace Go.Abs.Sh
set_option linter.unusedVariables false
set_option linter.unusedSimpArgs false

def abS (l : List T_Reply) : (((List Int) × (List Int) × Int × Int)) → Option (((List Int) × (List Int) × Int × Int) ⊕ (((List Int) × (List Int) × Int) ⊕ Bool)) := (fun ((s37, s38, s39, s40) : (List Int) × (List Int) × Int × Int) =>
    cond ((decide (s40 < (l.length : Int))))
      (bindS (S := (List Int) × (List Int) × Int) (A := (((List Int) × (List Int) × Int × Int) ⊕ (((List Int) × (List Int) × Int) ⊕ Bool)))
        ((ixO s40 l.length).bind fun v3 =>
        (getO l v3).bind fun v4 =>
        (wherrylaw13_heavy v4).bind fun v5 =>
        cond (v5)
          (some (.inr (.inr (.inr (true)))))
          ((ixO s40 l.length).bind fun v7 =>
          (getO l v7).bind fun v8 =>
          (answer_Bytes v8).bind fun v9 =>
          cond ((v9.2 != 0))
            (some (.inl (s37, s38, s39)))
            ((appO 1 s37 v9.1).bind fun v11 =>
            (some (IntKind.i64.wrap (s39 + 1))).bind fun v12 =>
            some (.inl (v11, v9.1, v12)))))
        (fun ((s64, s65, s66) : (List Int) × (List Int) × Int) =>
          (some (IntKind.i64.wrap (s40 + 1))).bind fun v21 =>
          some (.inl (s64, s65, s66, v21))) some)
      (some (.inr (.inl (s37, s38, s39)))))
def ab2S (l : List T_Reply) : (((List Int) × Int)) → Option (((List Int) × Int) ⊕ (((List Int)) ⊕ Bool)) := (fun ((s124, s125) : (List Int) × Int) =>
          cond ((decide (s125 < (l.length : Int))))
            (bindS (S := (List Int)) (A := (((List Int) × Int) ⊕ (((List Int)) ⊕ Bool)))
              ((ixO s125 l.length).bind fun v80 =>
              (getO l v80).bind fun v81 =>
              (answer_Check v81).bind fun v82 =>
              cond ((v82 != 0))
                (some (.inl s124))
                ((answer_Read s124).bind fun v84 =>
                bindS (S := Bool) (A := (((List Int)) ⊕ (((List Int) × Int) ⊕ (((List Int)) ⊕ Bool))))
                  (cond ((v84.2.2 != 0))
                    (some (.inl true))
                    (cond ((decide (v84.2.1 < 1)))
                      (some (.inl true))
                      (cond ((decide ((s124.length : Int) < v84.2.1)))
                        (some (.inl true))
                        ((ixO s125 l.length).bind fun v85 =>
                        (getO l v85).bind fun v86 =>
                        (wherrykeep_Reply v84.1 v86).bind fun v87 =>
                        some (.inl (!v87))))))
                  (fun (s162 : Bool) =>
                    cond (s162)
                      (some (.inr (.inr (.inr (false)))))
                      ((sliO s124 v84.2.1 (s124.length : Int)).bind fun v93 =>
                      some (.inl v93))) some))
              (fun (s157 : (List Int)) =>
                (some (IntKind.i64.wrap (s125 + 1))).bind fun v104 =>
                some (.inl (s157, v104))) some)
            (some (.inr (.inl s124))))
def aeS (v7 : Int) : ((ByteArray)) → Option ((ByteArray) ⊕ ((ByteArray) ⊕ Bool)) := (fun (s12 : ByteArray) =>
  cond ((decide ((s12.size : Int) < v7)))
    ((catO s12 (⟨#[120]⟩ : ByteArray)).bind fun v9 =>
    some (.inl v9))
    (some (.inr (.inl s12))))
def ae2S (v3 : Int) (s14 : ByteArray) : (((List ByteArray) × Int)) → Option (((List ByteArray) × Int) ⊕ (((List ByteArray)) ⊕ Bool)) := (fun ((s28, s29) : (List ByteArray) × Int) =>
      cond ((decide (s29 < v3)))
        ((appO 16 s28 [s14]).bind fun v23 =>
        (some (IntKind.i64.wrap (s29 + 1))).bind fun v24 =>
        some (.inl (v23, v24)))
        (some (.inr (.inl s28))))

theorem repB_pos {r : T_Reply} (h : OkRep r) : 0 < (repB r).length := by
  have n1 := h.n1
  unfold repB
  rw [show r.Lines.length = (r.Lines.length - 1) + 1 by omega, accB_succ, List.length_append, lineB_len]
  omega
theorem repB_len {r : T_Reply} (h : OkRep r) : (repB r).length ≤ 4120 := by
  have := accB_len r.Code r.Lines h.ln _ (Nat.le_refl _)
  have := h.n2
  unfold repB; omega

/-- What is cut short is no reply. -/
theorem read_cut {r : T_Reply} (h : OkRep r) {n : Nat} (hn : n < (repB r).length) : runP false ((repB r).take n) 21 0 [] 0 = none := by
  cases hr : runP false ((repB r).take n) 21 0 [] 0 with
  | none => rfl
  | some p =>
    obtain ⟨q, m⟩ := p
    obtain ⟨h1, h2, h3⟩ := read_sound13 (byt_take (show byt (repB r) from byt_accB h _) n) hr
    rw [List.length_take] at h2
    rw [List.take_take] at h3
    have hq : repB r = repB q ++ (repB r).drop m := by rw [← h3, show min m n = m by omega, List.take_append_drop]
    have a1 := read_whole13 h1 hq false
    have a2 := read_whole13 h (b := repB r) (rest := []) (by simp) false
    rw [a2] at a1
    simp only [Option.some.injEq, Prod.mk.injEq] at a1
    have : (repB q).length = m := by rw [← h3, show min m n = m by omega, List.length_take]; omega
    omega

def allB (l : List T_Reply) : List Int := l.flatMap fun r => if okRep r = true then repB r else []
theorem allB_cons (r : T_Reply) (l : List T_Reply) : allB (r :: l) = (if okRep r = true then repB r else []) ++ allB l := by simp [allB]
theorem allB_snoc (r : T_Reply) (l : List T_Reply) : allB (l ++ [r]) = allB l ++ (if okRep r = true then repB r else []) := by simp [allB]
theorem allB_len : ∀ l : List T_Reply, (allB l).length ≤ 4120 * l.length
  | [] => by simp [allB]
  | r :: l => by
    rw [allB_cons, List.length_append, List.length_cons]
    have ih := allB_len l
    split
    · rename_i h
      have := repB_len (okRep_iff.1 h)
      omega
    · simp; omega
theorem allB_byt : ∀ l : List T_Reply, byt (allB l)
  | [] => by intro x hx; simp [allB] at hx
  | r :: l => by
    rw [allB_cons]
    refine byt_app ?_ (allB_byt l)
    split
    · rename_i h; exact byt_accB (okRep_iff.1 h) _
    · intro x hx; simp at hx

/-- What the law has gathered. -/
structure Gath (l : List T_Reply) (last : List Int) (n : Nat) : Prop where
  n0 : n = 0 → allB l = [] ∧ ∀ r ∈ l, okRep r = false
  n1 : n ≠ 0 → ∃ r, OkRep r ∧ last = repB r
  nl : n ≤ l.length

theorem ab_loop (l : List T_Reply) (hl : l.length ≤ 20) (hw : ∀ r ∈ l, r.wf) : ∀ (k i fuel : Nat) (last : List Int) (n : Nat), l.length - i = k → i ≤ l.length → k < fuel → Gath (l.take i) last n →
    loopF (abS l) fuel (allB (l.take i), last, (n : Int), (i : Int)) = some (.inr true) ∨ ∃ (last' : List Int) (n' : Nat), loopF (abS l) fuel (allB (l.take i), last, (n : Int), (i : Int)) = some (.inl (allB l, last', (n' : Int))) ∧ Gath l last' n' := by
  intro k
  induction k with
  | zero =>
    intro i fuel last n hk hi hf hg
    obtain ⟨f, rfl⟩ : ∃ f, fuel = f + 1 := ⟨fuel - 1, by omega⟩
    have : l.take i = l := List.take_of_length_le (by omega)
    rw [this] at hg ⊢
    exact .inr ⟨last, n, loop_exit (by unfold abS; exact cnd_f (decide_eq_false (by omega)) rfl), hg⟩
  | succ k ih =>
    intro i fuel last n hk hi hf hg
    obtain ⟨f, rfl⟩ : ∃ f, fuel = f + 1 := ⟨fuel - 1, by omega⟩
    have hi' : i < l.length := by omega
    have ht : l.take (i + 1) = l.take i ++ [l[i]] := List.take_succ_eq_append_getElem hi'
    obtain ⟨r, hr⟩ : ∃ r, r = l[i] := ⟨_, rfl⟩
    have hget := getO_of hi'
    rw [← hr] at hget ht
    obtain ⟨v, hv, _⟩ := heavy_some r (hw r (by rw [hr]; exact List.getElem_mem hi'))
    have hlt : decide ((i : Int) < (l.length : Int)) = true := decide_eq_true (by omega)
    cases v with
    | true =>
      refine .inl (loop_exit ?_)
      unfold abS
      exact cnd_t hlt (bndR (bnd (ixO_of hi') (bnd hget (bnd hv rfl))) rfl)
    | false =>
      have w1 : IntKind.i64.wrap ((i : Int) + 1) = ((i + 1 : Nat) : Int) := wrap_succ (by omega)
      have hby := bytes13 r
      have hnl := hg.nl
      rw [List.length_take] at hnl
      cases hok : okRep r with
      | false =>
        rw [hok] at hby
        have e : allB (l.take (i + 1)) = allB (l.take i) := by rw [ht, allB_snoc, hok]; simp
        have step : abS l (allB (l.take i), last, (n : Int), (i : Int)) = some (.inl (allB (l.take (i + 1)), last, (n : Int), ((i + 1 : Nat) : Int))) := by
          unfold abS
          rw [e]
          exact cnd_t hlt (bndL (s := (allB (l.take i), last, (n : Int))) (bnd (ixO_of hi') (bnd hget (bnd hv (cnd_f rfl (bnd (ixO_of hi') (bnd hget (bnd hby rfl))))))) (bnd (by rw [w1]) rfl))
        rw [loop_next step]
        refine ih (i + 1) f last n (by omega) (by omega) (by omega) ⟨fun h => ⟨by rw [e]; exact (hg.n0 h).1, ?_⟩, hg.n1, by rw [List.length_take]; omega⟩
        intro q hq
        rw [ht, List.mem_append, List.mem_singleton] at hq
        rcases hq with hq | rfl
        · exact (hg.n0 h).2 q hq
        · exact hok
      | true =>
        rw [hok] at hby
        have hO := okRep_iff.1 hok
        have e : allB (l.take (i + 1)) = allB (l.take i) ++ repB r := by rw [ht, allB_snoc, if_pos hok]
        have la := allB_len (l.take i)
        rw [List.length_take] at la
        have lr := repB_len hO
        have happ : appO 1 (allB (l.take i)) (repB r) = some (allB (l.take (i + 1))) := by rw [e]; exact app_of (by omega) (by omega)
        have step : abS l (allB (l.take i), last, (n : Int), (i : Int)) = some (.inl (allB (l.take (i + 1)), repB r, ((n + 1 : Nat) : Int), ((i + 1 : Nat) : Int))) := by
          unfold abS
          exact cnd_t hlt (bndL (s := (allB (l.take (i + 1)), repB r, ((n + 1 : Nat) : Int))) (bnd (ixO_of hi') (bnd hget (bnd hv (cnd_f rfl (bnd (ixO_of hi') (bnd hget (bnd hby (cnd_f rfl (bnd happ (bnd (by rw [wrap_succ (by omega)]) rfl)))))))))) (bnd (by rw [w1]) rfl))
        rw [loop_next step]
        exact ih (i + 1) f (repB r) (n + 1) (by omega) (by omega) (by omega) ⟨fun h => absurd h (by omega), fun _ => ⟨r, hO, rfl⟩, by rw [List.length_take]; omega⟩

theorem ab2_loop (l : List T_Reply) (hl : l.length ≤ 20) : ∀ (k i fuel : Nat), l.length - i = k → i ≤ l.length → k < fuel → loopF (ab2S l) fuel (allB (l.drop i), (i : Int)) = some (.inl []) := by
  intro k
  induction k with
  | zero =>
    intro i fuel hk hi hf
    obtain ⟨f, rfl⟩ : ∃ f, fuel = f + 1 := ⟨fuel - 1, by omega⟩
    rw [List.drop_eq_nil_of_le (by omega)]
    exact loop_exit (by unfold ab2S; exact cnd_f (decide_eq_false (by omega)) rfl)
  | succ k ih =>
    intro i fuel hk hi hf
    obtain ⟨f, rfl⟩ : ∃ f, fuel = f + 1 := ⟨fuel - 1, by omega⟩
    have hi' : i < l.length := by omega
    have hd : l.drop i = l[i] :: l.drop (i + 1) := List.drop_eq_getElem_cons hi'
    obtain ⟨r, hr⟩ : ∃ r, r = l[i] := ⟨_, rfl⟩
    have hget := getO_of hi'
    rw [← hr] at hget hd
    have hlt : decide ((i : Int) < (l.length : Int)) = true := decide_eq_true (by omega)
    have hck := check13 r
    have ih' := ih (i + 1) f (by omega) (by omega) (by omega)
    cases hok : okRep r with
    | false =>
      rw [hok] at hck
      have e : allB (l.drop i) = allB (l.drop (i + 1)) := by rw [hd, allB_cons, hok]; simp
      rw [e]
      refine (loop_next ?_).trans ih'
      unfold ab2S
      exact cnd_t hlt (bndL (s := allB (l.drop (i + 1))) (bnd (ixO_of hi') (bnd hget (bnd hck rfl))) (bnd (by rw [wrap_succ (by omega)]) rfl))
    | true =>
      rw [hok] at hck
      have hO := okRep_iff.1 hok
      have e : allB (l.drop i) = repB r ++ allB (l.drop (i + 1)) := by rw [hd, allB_cons, if_pos hok]
      have hla := allB_len (l.drop i)
      rw [List.length_drop] at hla
      have hrd := read13 (allB_byt (l.drop i)) (by omega)
      rw [read_whole13 hO e false] at hrd
      have hp := repB_pos hO
      have hle : (repB r).length ≤ (allB (l.drop i)).length := by rw [e]; simp
      have hk : wherrykeep_Reply r r = some true := by rw [keepReply_eq _ _ (by have := hO.n2; omega)]; simp
      have hsl : sliO (allB (l.drop i)) ((repB r).length : Int) ((allB (l.drop i)).length : Int) = some (allB (l.drop (i + 1))) := by
        rw [sli_nat _ hle (Nat.le_refl _), e]
        simp
      refine (loop_next ?_).trans ih'
      unfold ab2S
      refine cnd_t hlt (bndL (s := allB (l.drop (i + 1))) (bnd (ixO_of hi') (bnd hget (bnd hck (cnd_f rfl (bnd hrd (bndL (s := false) ?_ (cnd_f rfl (bnd hsl rfl)))))))) (bnd (by rw [wrap_succ (by omega)]) rfl))
      exact cnd_f rfl (cnd_f (decide_eq_false (by show ¬ ((repB r).length : Int) < 1; omega)) (cnd_f (decide_eq_false (by show ¬ ((allB (l.drop i)).length : Int) < ((repB r).length : Int); omega)) (bnd (ixO_of hi') (bnd hget (bnd hk rfl)))))

theorem u64_rem (z : Int) (n : Nat) (h0 : 0 < n) (hn : n ≤ 1000000) : ∃ q : Nat, q < n ∧ remO (IntKind.u64.wrap z) (IntKind.u64.wrap (n : Int)) = some (q : Int) := by
  have e : (2 : Int) ^ 64 = 18446744073709551616 := by decide
  have h0' : 0 ≤ IntKind.u64.wrap z := by
    simp only [IntKind.wrap, IntKind.bits, IntKind.signed]
    simp only [e, Bool.false_and, Bool.false_eq_true, if_false]
    omega
  have hnw : IntKind.u64.wrap (n : Int) = (n : Int) := by
    simp only [IntKind.wrap, IntKind.bits, IntKind.signed]
    simp only [e, Bool.false_and, Bool.false_eq_true, if_false]
    omega
  obtain ⟨m, hm⟩ : ∃ m : Nat, IntKind.u64.wrap z = (m : Int) := ⟨(IntKind.u64.wrap z).toNat, by omega⟩
  rw [hm, hnw]
  refine ⟨m % n, Nat.mod_lt _ h0, ?_⟩
  rw [rem_nat _ _ h0]

theorem answerBack_true (l : List T_Reply) (cut : Int) (hw : wfL T_Reply.wf l) : wherrylaw13_AnswerBack l cut = some true := by
  unfold wherrylaw13_AnswerBack
  by_cases h1 : 20 < l.length
  · exact cnd_t (decide_eq_true (by omega)) rfl
  refine cnd_f (decide_eq_false (by omega)) ?_
  rcases ab_loop l (by omega) hw.2 l.length 0 BIG [] 0 rfl (Nat.zero_le _) (by unfold BIG; omega) ⟨fun _ => ⟨by simp [allB], by simp⟩, fun h => absurd rfl h, by simp⟩ with h | ⟨last, n, h, hg⟩
  · exact bndR h rfl
  refine bndL h ?_
  by_cases hn : n = 0
  · subst hn
    have hr : runP false [] 21 0 [] 0 = none := rfl
    have hrd := read13 (b := []) (by intro x hx; cases hx) (by simp)
    rw [hr] at hrd
    exact cnd_t rfl (bnd hrd (bndL (s := true) (cnd_t rfl (bnd wakes13 rfl)) rfl))
  · obtain ⟨r, hO, hlast⟩ := hg.n1 hn
    have lp := ab2_loop l (by omega) l.length 0 BIG rfl (Nat.zero_le _) (by unfold BIG; omega)
    rw [List.drop_zero] at lp
    have hp := repB_pos hO
    have hl := repB_len hO
    rw [← hlast] at hp hl
    obtain ⟨q, hq, hrem⟩ := u64_rem cut last.length hp (by omega)
    have wq : IntKind.i64.wrap (q : Int) = (q : Int) := wrap_nat q (by omega)
    have hsl : sliO last 0 (q : Int) = some (last.take q) := by
      have := sli_nat last (a := 0) (b := q) (by omega) (by omega)
      simpa using this
    have hrc : runP false (last.take q) 21 0 [] 0 = none := by rw [hlast]; exact read_cut hO (by rw [← hlast]; exact hq)
    have hrd := read13 (b := last.take q) (by rw [hlast]; exact byt_take (byt_accB hO _) q) (by rw [List.length_take]; omega)
    rw [hrc] at hrd
    refine cnd_f (by simpa using hn) (bndL lp (cnd_f (by simp; intro e; subst e; simp at hp) (bnd rfl (bnd rfl (bnd hrem (bnd (by rw [wq]) (bnd hsl (bnd hrd (bndL (s := true) (cnd_t rfl (cnd_t rfl (bnd wakes13 rfl))) rfl)))))))))
end Go.Abs.Sh
