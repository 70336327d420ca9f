import Derived.Test.YthhebpiaknfnhaaRefC
namespace Go.Abs.Sh
set_option linter.unusedVariables false
set_option linter.unusedSimpArgs false
set_option maxRecDepth 100000
def rfS (l : List T_Rec) : (((List T_Item) × Int × (List Int) × (List Int) × Int × (List Int) × Int)) → Option (((List T_Item) × Int × (List Int) × (List Int) × Int × (List Int) × Int) ⊕ (((List T_Item) × Int × (List Int) × (List Int) × Int × (List Int)) ⊕ (T_Spool × Int))) := (fun ((s17, s18, s19, s20, s21, s22, s23) : (List T_Item) × Int × (List Int) × (List Int) × Int × (List Int) × Int) =>
  cond ((decide (s23 < (l.length : Int))))
    ((ixO s23 l.length).bind fun v3 =>
    (getO l v3).bind fun v4 =>
    (wherryref18_Add (T_Spool.mk s17 s18 s19 s20 s21 s22) ((T_Rec.mk v4.Kind ((T_Mail.mk (T_Path.mk v4.Mail.From.Null v4.Mail.From.Local v4.Mail.From.Domain) v4.Mail.To v4.Mail.Body v4.Mail.Quiet v4.Mail.Helo v4.Mail.At)) v4.Id v4.Ids v4.Origin v4.Number v4.Offset v4.Data))).bind fun v5 =>
    cond ((v5.2 != 0))
      (some (.inr (.inr (((T_Spool.mk s17 s18 s19 s20 s21 s22), s23)))))
      ((some (IntKind.i64.wrap (s23 + 1))).bind fun v7 =>
      some (.inl (v5.1.Items, v5.1.Packs, v5.1.Sent, v5.1.Part, v5.1.Of, v5.1.Done, v7))))
    (some (.inr (.inl (s17, s18, s19, s20, s21, s22)))))
theorem rfold_loop (l : List T_Rec) (hr : ∀ r ∈ l, Rok r) (hl : l.length < 999999) : ∀ (d i : Nat) (s : T_Spool) (fuel : Nat), i + d = l.length → d < fuel → Inv i s → (∀ x ∈ s.Items, Stt x) →
    bindS (S := ((List T_Item) × Int × (List Int) × (List Int) × Int × (List Int))) (A := (T_Spool × Int)) (loopF (rfS l) fuel (s.Items, s.Packs, s.Sent, s.Part, s.Of, s.Done, (i : Int))) (fun ((s27, s28, s29, s30, s31, s32) : (List T_Item) × Int × (List Int) × (List Int) × Int × (List Int)) =>
      some (((T_Spool.mk s27 s28 s29 s30 s31 s32), (l.length : Int)))) some = some ((foldS s (l.drop i)).1, ((i + (foldS s (l.drop i)).2 : Nat) : Int))
  | d, i, s, 0, _, hf, _, _ => absurd hf (Nat.not_lt_zero d)
  | 0, i, s, fuel + 1, hd, _, hs, _ => by
    obtain rfl : i = l.length := by omega
    rw [List.drop_length]
    exact bndL (loop_exit (cnd_f (decide_eq_false (by omega)) rfl)) rfl
  | d + 1, i, s, fuel + 1, hd, hf, hs, ht => by
    have hi : i < l.length := by omega
    have hri := hr _ (List.getElem_mem hi)
    have hadd := radd_eq hs ht hri
    rw [List.drop_eq_getElem_cons hi]
    simp only [foldS]
    by_cases ho : okS s l[i] = true
    · have ho' : okR s l[i] = true := ho
      rw [if_pos ho'] at hadd
      rw [if_pos ho]
      have ih := rfold_loop l hr hl d (i + 1) (eff s l[i]) fuel (by omega) (by omega) (inv_eff (by omega) hs hri ho) (next_eff hs ht ho).stt
      rw [show i + ((foldS (eff s l[i]) (l.drop (i + 1))).2 + 1) = i + 1 + (foldS (eff s l[i]) (l.drop (i + 1))).2 from by omega, ← ih, loop_next]
      exact cnd_t (decide_eq_true (by omega)) (bnd (ixO_of hi) (bnd (by simp [getO, hi] : getO l i = some l[i]) (bnd hadd (cnd_f rfl (bnd (congrArg some (wrap_succ (n := i) (by omega))) rfl)))))
    · have ho' : ¬ okR s l[i] = true := ho
      rw [if_neg ho'] at hadd
      rw [if_neg ho]
      exact bndR (a := (s, (i : Int))) (loop_exit (cnd_t (decide_eq_true (by omega)) (bnd (ixO_of hi) (bnd (by simp [getO, hi] : getO l i = some l[i]) (bnd hadd (cnd_t rfl rfl)))))) rfl
theorem rfold_eq (l : List T_Rec) (hr : ∀ r ∈ l, Rok r) (hl : l.length < 999999) : wherryref18_Fold l = some ((foldS newSp l).1, ((foldS newSp l).2 : Int)) := by
  unfold wherryref18_Fold
  have h := rfold_loop l hr hl l.length 0 newSp BIG (by omega) (by simp only [BIG]; omega) inv_new (by intro x hx; cases hx)
  rw [List.drop_zero, Nat.zero_add] at h
  exact bnd rfl h
theorem wakes22 : wherrylaw22_wakes = some true := by kernel_rfl
def taS (v18 : T_Spool × Int) (v10 : Int) : ((Int)) → Option ((Int) ⊕ ((Unit) ⊕ Bool)) := (fun (s71 : Int) =>
        cond ((decide (s71 < (v18.1.Done.length : Int))))
          ((ixO s71 v18.1.Done.length).bind fun v20 =>
          (getO v18.1.Done v20).bind fun v21 =>
          cond ((v21 == v10))
            ((wherrylaw22_wakes ).bind fun v23 =>
            some (.inr (.inr (v23))))
            ((some (IntKind.i64.wrap (s71 + 1))).bind fun v24 =>
            some (.inl v24)))
          (some (.inr (.inl ()))))
theorem take_refl (a : T_Take) : wherrykeep_Take a a = some true := by
  unfold wherrykeep_Take
  exact bndL (s := true) (bnd rfl (cnd_t (by cases a.Open <;> rfl) (cnd_t (beq_self_eq_true _) (inl_of (beq_self_eq_true _))))) rfl
def farI (s : T_Spool) (num : Int) : Int := if s.Of = num then (s.Part.length : Int) else 0
theorem far_eq (s : T_Spool) (num : Int) : taker_Far s num = some (farI s num) := by
  unfold taker_Far farI
  by_cases h : s.Of = num
  · rw [if_pos h]; exact cnd_f (by rw [h]; simp) rfl
  · rw [if_neg h]; exact cnd_t (by simpa using h) rfl
theorem num_of (x : Int) : ∃ num : Int, 1 ≤ num ∧ num ≤ 65535 ∧ ∀ {R : Type} (f : Int → Option R), ((some (IntKind.u64.wrap x)).bind fun v3 => (remO v3 65535).bind fun v4 => (some (IntKind.i64.wrap v4)).bind fun v5 => (some (IntKind.i64.wrap (1 + v5))).bind f) = f num := by
  obtain ⟨q, hq, hqr⟩ := spo_rem x 65535 (by omega) (by omega)
  have e65 : IntKind.u64.wrap ((65535 : Nat) : Int) = 65535 := u64_wrap (by omega) (by omega)
  rw [e65] at hqr
  refine ⟨1 + (q : Int), by omega, by omega, fun f => ?_⟩
  exact bnd rfl (bnd hqr (bnd (congrArg some (wrap_nat q (by omega))) (bnd (congrArg some (wrap_i64 (by omega) (by omega))) rfl)))
theorem tot_of (x : Int) : ∃ tot : Int, 0 ≤ tot ∧ tot ≤ 5000 ∧ ∀ {R : Type} (f : Int → Option R), ((some (IntKind.u64.wrap x)).bind fun v7 => (remO v7 5001).bind fun v8 => (some (IntKind.i64.wrap v8)).bind f) = f tot := by
  obtain ⟨q, hq, hqr⟩ := spo_rem x 5001 (by omega) (by omega)
  have e65 : IntKind.u64.wrap ((5001 : Nat) : Int) = 5001 := u64_wrap (by omega) (by omega)
  rw [e65] at hqr
  refine ⟨(q : Int), by omega, by omega, fun f => ?_⟩
  exact bnd rfl (bnd hqr (bnd (congrArg some (wrap_nat q (by omega))) rfl))
theorem tot1_of (x : Int) : ∃ tot : Int, 1 ≤ tot ∧ tot ≤ 5000 ∧ ∀ {R : Type} (f : Int → Option R), ((some (IntKind.u64.wrap x)).bind fun v3 => (remO v3 5000).bind fun v4 => (some (IntKind.i64.wrap v4)).bind fun v5 => (some (IntKind.i64.wrap (1 + v5))).bind f) = f tot := by
  obtain ⟨q, hq, hqr⟩ := spo_rem x 5000 (by omega) (by omega)
  have e65 : IntKind.u64.wrap ((5000 : Nat) : Int) = 5000 := u64_wrap (by omega) (by omega)
  rw [e65] at hqr
  refine ⟨1 + (q : Int), by omega, by omega, fun f => ?_⟩
  exact bnd rfl (bnd hqr (bnd (congrArg some (wrap_nat q (by omega))) (bnd (congrArg some (wrap_i64 (by omega) (by omega))) rfl)))
theorem chunk_check {num off : Int} {data : List Int} (h1 : 1 ≤ num) (h2 : num ≤ 65535) (h3 : 0 ≤ off) (h4 : off ≤ 5000) (h5 : 1 ≤ data.length) (h6 : data.length ≤ 48) : frame_Check (T_Frame.mk 3 num off 0 data) = some 0 := by
  unfold frame_Check
  refine bndL (s := true) (cnd_t (decide_eq_true h3) (inl_of (decide_eq_true h4))) (bndL (s := true) rfl (bndL (s := true) (bndL (s := true) (bndL (s := false) rfl (cnd_f rfl (cnd_t rfl (bndL (s := true) (cnd_t rfl (cnd_t rfl (cnd_t ?_ (inl_of (decide_eq_true ?_))))) rfl)))) rfl) ?_))
  · rw [beq_eq_false_iff_ne.2 (by dsimp only; omega)]; rfl
  · dsimp only; omega
  · exact bndL (s := false) (cnd_f rfl (cnd_f (decide_eq_false (by dsimp only; omega)) (inl_of (decide_eq_false (by dsimp only; omega))))) (cnd_f rfl rfl)
theorem clone_eq (l : List Int) (h : l.length ≤ 100000) : clone_List_byte l = some l := by
  unfold clone_List_byte
  exact bnd (app_nil (by omega) (by omega)) rfl
def pcS (F : Nat) : Nat := if F % 48 = 0 then F / 48 else F / 48 + 1
theorem pcs_eq (F : Nat) : pcS F = (F + 48 - 1) / 48 := by
  unfold pcS
  split <;> omega
theorem ack_eq (num : Int) (k : Nat) : taker_ack num (k : Int) = some (T_Frame.mk 4 num 0 ((k % 8 : Nat) : Int) []) := by
  unfold taker_ack
  exact bnd (rem_nat k 8 (by omega)) rfl
theorem hear_chunk (s : T_Spool) {num tot off : Int} {data : List Int} {F : Nat} (hF : farI s num = (F : Int)) (hF5 : F ≤ 5000) (ht1 : 1 ≤ tot) (ht2 : tot ≤ 5000) (h1 : 1 ≤ num) (h2 : num ≤ 65535) (h3 : 0 ≤ off) (h4 : off ≤ 5000) (h5 : 1 ≤ data.length) (h6 : data.length ≤ 48) (hn : num ∉ s.Done) (hl : s.Done.length < 1000000) :
    ∃ r, taker_Hear_sh s (T_Take.mk true num tot) (T_Frame.mk 3 num off 0 data) = some r ∧ ((F : Int) = tot → r = (T_Take.mk true num tot, [], [], 0)) ∧ ((F : Int) ≠ tot → off ≠ (F : Int) → r = (T_Take.mk true num tot, [], [T_Frame.mk 4 num 0 ((pcS F % 8 : Nat) : Int) []], 0)) := by
  have hc : ∃ q, taker_chunk_sh (F : Int) (T_Take.mk true num tot) (T_Frame.mk 3 num off 0 data) = some q ∧ ((F : Int) = tot → q = (T_taker_result.mk (T_Take.mk true num tot) [] [], 0)) ∧ ((F : Int) ≠ tot → off ≠ (F : Int) → q = (T_taker_result.mk (T_Take.mk true num tot) [] [T_Frame.mk 4 num 0 ((pcS F % 8 : Nat) : Int) []], 0)) := by
    unfold taker_chunk_sh
    by_cases a : (F : Int) = tot
    · exact ⟨_, bndL (s := false) (cnd_f rfl (inl_of (by simp))) (cnd_f rfl (cnd_t (beq_iff_eq.2 a) rfl)), fun _ => rfl, fun h => absurd a h⟩
    · by_cases b : off = (F : Int)
      · have hq : quoO .i64 (F : Int) 48 = some ((F / 48 : Nat) : Int) := quo_nat F 48 (by omega) (by omega)
        have hr : remO ((F / 48 : Nat) : Int) 8 = some ((F / 48 % 8 : Nat) : Int) := rem_nat _ 8 (by omega)
        obtain ⟨m, hm⟩ : ∃ m : Int, m = (if (F : Int) > tot then (F : Int) else tot) := ⟨_, rfl⟩
        obtain ⟨m2, hm2⟩ : ∃ m2 : Int, m2 = (if m - (F : Int) < 48 then m - (F : Int) else 48) := ⟨_, rfl⟩
        obtain ⟨bb, hbb⟩ : ∃ bb : Bool, bb = ((0 : Int) != ((F / 48 % 8 : Nat) : Int) || ((data.length : Int) != m2)) := ⟨_, rfl⟩
        have hml : m ≤ 5000 := by rw [hm]; split <;> omega
        have hml0 : (F : Int) ≤ m := by rw [hm]; split <;> omega
        have hw : IntKind.i64.wrap (m - (F : Int)) = m - (F : Int) := wrap_i64 (by omega) (by omega)
        have hs : IntKind.i64.wrap (((F / 48 : Nat) : Int) + 1) = ((F / 48 + 1 : Nat) : Int) := wrap_succ (n := F / 48) (by omega)
        refine ⟨cond bb (T_taker_result.mk (T_Take.mk false 0 0) [] [], 11) (T_taker_result.mk (T_Take.mk true num tot) ([(T_Rec.mk 5 ((T_Mail.mk ((T_Path.mk false (⟨#[]⟩ : ByteArray) (⟨#[]⟩ : ByteArray))) [] [] false (⟨#[]⟩ : ByteArray) 0)) 0 [] 0 num (F : Int) data)]) [T_Frame.mk 4 num 0 (((F / 48 + 1) % 8 : Nat) : Int) []], 0), ?_, fun h => absurd h a, fun _ h => absurd b h⟩
        refine bndL (s := false) (cnd_f rfl (inl_of (by simp))) (cnd_f rfl (cnd_f (beq_eq_false_iff_ne.2 a) (bnd hq (cnd_f (by dsimp only; rw [b]; simp) (bnd (congrArg some hm.symm) (bnd (congrArg some hw) (bndL (s := bb) (bnd hr ?_) ?_)))))))
        · rw [hbb]
          dsimp only
          cases hne : ((0 : Int) != ((F / 48 % 8 : Nat) : Int))
          · rw [Bool.false_or]
            exact cnd_f rfl (bnd (congrArg some hm2.symm) rfl)
          · exact cnd_t rfl rfl
        · cases bb
          · exact cnd_f rfl (bnd (congrArg some hs) (bnd (ack_eq num (F / 48 + 1)) (bnd rfl (bnd (clone_eq data (by omega)) rfl))))
          · exact cnd_t rfl rfl
      · have hq : quoO .i64 (F : Int) 48 = some ((F / 48 : Nat) : Int) := quo_nat F 48 (by omega) (by omega)
        have hr : remO (F : Int) 48 = some ((F % 48 : Nat) : Int) := rem_nat F 48 (by omega)
        refine ⟨_, bndL (s := false) (cnd_f rfl (inl_of (by simp))) (cnd_f rfl (cnd_f (beq_eq_false_iff_ne.2 a) (bnd hq (cnd_t (by simpa using b) (bndL (s := ((pcS F : Nat) : Int)) (bnd hr ?_) (bnd (ack_eq num (pcS F)) (bnd rfl rfl))))))), fun h => absurd h a, fun _ _ => rfl⟩
        unfold pcS
        by_cases h0 : F % 48 = 0
        · rw [if_pos h0]
          exact cnd_f (by rw [h0]; rfl) rfl
        · rw [if_neg h0]
          exact cnd_t (by simpa using (by omega : ¬ ((F % 48 : Nat) : Int) = 0)) (bnd (congrArg some (wrap_succ (n := F / 48) (by omega))) rfl)
  obtain ⟨q, hq, hq1, hq2⟩ := hc
  have hh : taker_hear_sh s (T_Take.mk true num tot) (T_Frame.mk 3 num off 0 data) = some q := by
    unfold taker_hear_sh
    exact bndL (s := false) rfl (cnd_f rfl (bnd (contains_eq _ _ (by omega)) (cnd_f (decide_eq_false hn) (cnd_f rfl (bnd ((far_eq _ num).trans (congrArg some hF)) (bnd hq rfl))))))
  unfold taker_Hear_sh
  by_cases he : q.2 = 0
  · refine ⟨_, bnd (chunk_check h1 h2 h3 h4 h5 h6) (cnd_f rfl (bnd hh (cnd_f (by rw [he]; rfl) rfl))), fun h => ?_, fun h h' => ?_⟩
    · rw [hq1 h]
    · rw [hq2 h h']
  · refine ⟨_, bnd (chunk_check h1 h2 h3 h4 h5 h6) (cnd_f rfl (bnd hh (cnd_t (by simpa using he) rfl))), fun h => absurd (by rw [hq1 h]) he, fun h h' => absurd (by rw [hq2 h h']) he⟩
theorem takerAhead_true (l : List T_Rec) (number total off : Int) (data : List Int) (hw : wzL 208 T_Rec.wz l) : wherrylaw22_TakerAhead l number total off data = some true := by
  obtain ⟨b, hh, hb⟩ := heavy_rok l hw
  unfold wherrylaw22_TakerAhead
  cases b
  case true => exact bndL (s := true) (bnd hh (cnd_t rfl rfl)) (cnd_t rfl rfl)
  by_cases hd0 : data.length ≤ 48
  case neg => exact bndL (s := true) (bnd hh (cnd_f rfl (cnd_t (decide_eq_true (by omega)) rfl))) (cnd_t rfl rfl)
  by_cases hd1 : data.length = 0
  · exact bndL (s := true) (bnd hh (cnd_f rfl (cnd_f (decide_eq_false (by omega)) (inl_of (beq_iff_eq.2 (by omega)))))) (cnd_t rfl rfl)
  refine bndL (s := false) (bnd hh (cnd_f rfl (cnd_f (decide_eq_false (by omega)) (inl_of (beq_eq_false_iff_ne.2 (by omega)))))) (cnd_f rfl ?_)
  obtain ⟨hl, hr⟩ := hb rfl
  obtain ⟨num, h1, h2, hnum⟩ := num_of number
  obtain ⟨tot, h3, h4, htot⟩ := tot1_of total
  obtain ⟨of, h5, h6, hof⟩ := tot_of off
  refine (hnum _).trans ((htot _).trans ((hof _).trans (bnd (rfold_eq l hr (by omega)) ?_)))
  have hin := foldS_inv l newSp 0 (by omega) hr inv_new
  have hle := foldS_le newSp l
  have hd := hin.done
  have hpt := hin.part
  obtain ⟨s, hs⟩ : ∃ s, s = (foldS newSp l).1 := ⟨_, rfl⟩
  rw [← hs] at hd hin hpt ⊢
  by_cases hm : num ∈ s.Done
  · have hex : ∃ k, k < s.Done.length ∧ (∀ i (h : i < s.Done.length), i < k → s.Done[i] ≠ num) ∧ ∃ h : k < s.Done.length, s.Done[k] = num := by
      rcases first_fail (fun i => decide (s.Done[i]? ≠ some num)) s.Done.length with h | ⟨k, hk, ha, hb⟩
      · obtain ⟨i, hi, he⟩ := List.getElem_of_mem hm
        have := of_decide_eq_true (h i hi)
        exact absurd (by rw [List.getElem?_eq_getElem hi, he]) this
      · refine ⟨k, hk, fun i hi hik => ?_, hk, ?_⟩
        · have := of_decide_eq_true (ha i hik)
          rw [List.getElem?_eq_getElem hi] at this
          exact fun e => this (by rw [e])
        · have : s.Done[k]? = some num := by simpa using hb
          rw [List.getElem?_eq_getElem hk] at this
          exact Option.some.inj this
    obtain ⟨k, hk, hno, _, hyes⟩ := hex
    refine bndR (a := true) (loop_from (f := taS (s, 0) num) (fun i => ((i : Nat) : Int)) k BIG rfl (by simp only [BIG]; omega) (fun i hi => ?_) ?_) rfl
    · have hi' : i < s.Done.length := by omega
      exact cnd_t (decide_eq_true (by dsimp only; omega)) (bnd (ixO_of hi') (bnd (by simp [getO, hi'] : getO s.Done i = some s.Done[i]) (cnd_f (beq_eq_false_iff_ne.2 (hno i hi' hi)) (bnd (congrArg some (wrap_succ (n := i) (by omega))) rfl))))
    · exact cnd_t (decide_eq_true (by dsimp only; omega)) (bnd (ixO_of hk) (bnd (by simp [getO, hk] : getO s.Done k = some s.Done[k]) (cnd_t (beq_iff_eq.2 hyes) (bnd wakes22 rfl))))
  refine bndL (s := ()) (loop_from (f := taS (s, 0) num) (fun i => ((i : Nat) : Int)) s.Done.length BIG rfl (by simp only [BIG]; omega) (fun i hi => ?_) (cnd_f (decide_eq_false (by dsimp only; omega)) rfl)) ?_
  · exact cnd_t (decide_eq_true (by dsimp only; omega)) (bnd (ixO_of hi) (bnd (by simp [getO, hi] : getO s.Done i = some s.Done[i]) (cnd_f (beq_eq_false_iff_ne.2 (fun e => hm (e ▸ List.getElem_mem hi))) (bnd (congrArg some (wrap_succ (n := i) (by omega))) rfl))))
  obtain ⟨F, hF, hF5⟩ : ∃ F : Nat, farI s num = (F : Int) ∧ F ≤ 5000 := by
    unfold farI
    by_cases h : s.Of = num
    · exact ⟨s.Part.length, by rw [if_pos h], hpt⟩
    · exact ⟨0, by rw [if_neg h]; rfl, by omega⟩
  obtain ⟨v, hv, hv1, hv2⟩ := hear_chunk s (off := of) (data := data) hF hF5 h3 h4 h1 h2 h5 h6 (by omega) hd0 hm (by omega)
  refine bnd ((far_eq s num).trans (congrArg some hF)) (bnd hv ?_)
  by_cases a : (F : Int) = tot
  · rw [hv1 a]
    refine bndL (s := false) ?_ (cnd_f rfl (bndL (s := false) (cnd_f rfl (cnd_f rfl (bnd (take_refl _) rfl))) (cnd_f rfl (cnd_t (beq_iff_eq.2 a) (bndL (s := true) (cnd_t rfl (bnd wakes22 rfl)) rfl)))))
    by_cases c : of = (F : Int)
    · exact cnd_t (beq_iff_eq.2 c) (inl_of (by rw [a]; simp))
    · exact cnd_f (beq_eq_false_iff_ne.2 c) rfl
  · by_cases c : of = (F : Int)
    · exact bndL (s := true) (cnd_t (beq_iff_eq.2 c) (inl_of (by simpa using a))) (cnd_t rfl (bnd wakes22 rfl))
    · rw [hv2 a c]
      have e1 : IntKind.i64.wrap ((F : Int) + 48) = ((F + 48 : Nat) : Int) := wrap_i64 (by omega) (by omega)
      have e2 : IntKind.i64.wrap (((F + 48 : Nat) : Int) - 1) = ((F + 48 - 1 : Nat) : Int) := by rw [wrap_i64 (by omega) (by omega)]; omega
      refine bndL (s := false) (cnd_f (beq_eq_false_iff_ne.2 c) rfl) (cnd_f rfl (bndL (s := false) (cnd_f rfl (cnd_f rfl (bnd (take_refl _) rfl))) (cnd_f rfl (cnd_f (beq_eq_false_iff_ne.2 a) (bndL (s := true) (cnd_t rfl (bnd rfl (bnd rfl (cnd_t rfl (bnd rfl (bnd rfl (bnd (congrArg some e1) (bnd (congrArg some e2) (bnd (quo_nat _ 48 (by omega) (by omega)) (bnd (rem_nat _ 8 (by omega)) (cnd_t ?_ (bnd wakes22 rfl)))))))))))) rfl)))))
      rw [pcs_eq]
      exact beq_self_eq_true _
end Go.Abs.Sh
