import Derived.Test.YtbioodcjmceefaaDiaK
namespace Go.Abs.Sh
set_option linter.unusedVariables false
set_option linter.unusedSimpArgs false
def roS (l : List T_Rec) : ((Int × Int)) → Option ((Int × Int) ⊕ ((Int) ⊕ Int)) := (fun ((s10, s11) : Int × Int) =>
  cond ((decide (s11 < (l.length : Int))))
    ((ixO s11 l.length).bind fun v2 =>
    (getO l v2).bind fun v3 =>
    (wherryref18_Room ((T_Rec.mk v3.Kind ((T_Mail.mk (T_Path.mk v3.Mail.From.Null v3.Mail.From.Local v3.Mail.From.Domain) v3.Mail.To v3.Mail.Body v3.Mail.Quiet v3.Mail.Helo v3.Mail.At)) v3.Id v3.Ids v3.Origin v3.Number v3.Offset v3.Data))).bind fun v4 =>
    (some (IntKind.i64.wrap (s10 + v4))).bind fun v5 =>
    (some (IntKind.i64.wrap (s11 + 1))).bind fun v6 =>
    some (.inl (v5, v6)))
    (some (.inr (.inl s10))))
def eoS (l : List T_Rec) : (((List T_Rec) × Int)) → Option (((List T_Rec) × Int) ⊕ (((List T_Rec)) ⊕ (List T_Rec))) := (fun ((s10, s11) : (List T_Rec) × Int) =>
  cond ((decide (s11 < (l.length : Int))))
    ((ixO s11 l.length).bind fun v2 =>
    (getO l v2).bind fun v3 =>
    (clone_Rec ((T_Rec.mk v3.Kind ((T_Mail.mk (T_Path.mk v3.Mail.From.Null v3.Mail.From.Local v3.Mail.From.Domain) v3.Mail.To v3.Mail.Body v3.Mail.Quiet v3.Mail.Helo v3.Mail.At)) v3.Id v3.Ids v3.Origin v3.Number v3.Offset v3.Data))).bind fun v4 =>
    (appO 208 s10 [(T_Rec.mk v4.Kind ((T_Mail.mk (T_Path.mk v4.Mail.From.Null v4.Mail.From.Local v4.Mail.From.Domain) v4.Mail.To v4.Mail.Body v4.Mail.Quiet v4.Mail.Helo v4.Mail.At)) v4.Id v4.Ids v4.Origin v4.Number v4.Offset v4.Data)]).bind fun v5 =>
    (some (IntKind.i64.wrap (s11 + 1))).bind fun v6 =>
    some (.inl (v5, v6)))
    (some (.inr (.inl s10))))
def orS : (((List Int) × Int)) → Option (((List Int) × Int) ⊕ (((List Int)) ⊕ (List Int))) := (fun ((s11, s12) : (List Int) × Int) =>
  cond ((decide (s12 < (s11.length : Int))))
    ((ixO s12 s11.length).bind fun v2 =>
    (getO s11 v2).bind fun v3 =>
    (some (IntKind.u8.wrap (v3 + 91))).bind fun v4 =>
    (ixO s12 s11.length).bind fun v5 =>
    (some (s11.set v5 v4)).bind fun v6 =>
    (some (IntKind.i64.wrap (s12 + 1))).bind fun v7 =>
    some (.inl (v6, v7)))
    (some (.inr (.inl s11))))
theorem loop_inv {S O : Type} {f : S → Option (S ⊕ O)} (I : Nat → S → Prop) (Z : O → Prop) : ∀ (n k fuel : Nat) (s : S), k ≤ n → n - k < fuel → I k s → (∀ i s, i < n → I i s → (∃ s', f s = some (.inl s') ∧ I (i + 1) s') ∨ ∃ o, f s = some (.inr o) ∧ Z o) → (∀ s, I n s → ∃ o, f s = some (.inr o) ∧ Z o) → ∃ o, loopF f fuel s = some o ∧ Z o := by
  intro n k fuel
  induction fuel generalizing k with
  | zero => intro s hk hf; omega
  | succ fuel ih =>
    intro s hk hf hI hs he
    by_cases h : k = n
    · subst h
      obtain ⟨o, ho, hz⟩ := he s hI
      exact ⟨o, loop_exit ho, hz⟩
    · rcases hs k s (by omega) hI with ⟨s', h1, h2⟩ | ⟨o, ho, hz⟩
      · rw [loop_next h1]
        exact ih (k + 1) s' (by omega) (by omega) h2 hs he
      · exact ⟨o, loop_exit ho, hz⟩
theorem rroom_eq {r : T_Rec} (h : LR r) : wherryref18_Room r = some ((room r : Nat) : Int) := by
  obtain ⟨h1, h2, h3, h4⟩ := h
  simp only [mW] at h4
  simp only [wherryref18_Room, Option.bind_some]
  have e1 : IntKind.i64.wrap (24 + (r.Data.length : Int)) = ((24 + r.Data.length : Nat) : Int) := by rw [wrap_i64 (by omega) (by omega)]; simp
  rw [e1]
  rw [Option.some.inj (wadd (a := 24 + r.Data.length) (b := r.Mail.Body.length) (by omega))]
  rw [Option.some.inj (wadd (a := 24 + r.Data.length + r.Mail.Body.length) (b := r.Mail.Helo.size) (by omega))]
  have e3 : IntKind.i64.wrap (1 + (r.Mail.To.length : Int)) = ((1 + r.Mail.To.length : Nat) : Int) := by rw [wrap_i64 (by omega) (by omega)]; simp
  rw [e3]
  have e5 : IntKind.i64.wrap (80 * ((1 + r.Mail.To.length : Nat) : Int)) = ((80 * (1 + r.Mail.To.length) : Nat) : Int) := by rw [wrap_i64 (by omega) (by omega)]; simp
  rw [e5]
  rw [Option.some.inj (wadd (a := 24 + r.Data.length + r.Mail.Body.length + r.Mail.Helo.size) (b := 80 * (1 + r.Mail.To.length)) (by omega))]
  have e6 : IntKind.i64.wrap (8 * (r.Ids.length : Int)) = ((8 * r.Ids.length : Nat) : Int) := by rw [wrap_i64 (by omega) (by omega)]; simp
  rw [e6]
  rw [Option.some.inj (wadd (a := 24 + r.Data.length + r.Mail.Body.length + r.Mail.Helo.size + 80 * (1 + r.Mail.To.length)) (b := 8 * r.Ids.length) (by omega))]
  congr 2
  simp only [room]; omega
theorem rrooms_eq (l : List T_Rec) (hr : ∀ r ∈ l, LR r) (hn : l.length < 1000000) : wherryref18_rooms l = some ((rooms l : Nat) : Int) := by
  have hrun : loopF (roS l) BIG (0, 0) = some (.inl ((rooms l : Nat) : Int)) := by
    refine loop_from (fun k => (((rooms (l.take k) : Nat) : Int), (k : Int))) l.length BIG rfl (by simp only [BIG]; omega) (fun k hk => ?_) ?_
    · have hix : ixO (k : Int) l.length = some k := ixO_of hk
      have hg : getO l k = some l[k] := by simp [getO, hk]
      have hl := hr l[k] (List.getElem_mem _)
      have hb := rooms_le (l.take k) (fun r hq => hr r (List.mem_of_mem_take hq))
      have h2 : (l.take k).length ≤ 1000000 := by rw [List.length_take]; omega
      have h3 : (l.take k).length * 25000 ≤ 1000000 * 25000 := Nat.mul_le_mul_right _ h2
      have h4 := room_le hl
      refine cnd_t (decide_eq_true (by omega)) (bnd hix (bnd hg (bnd (x := ((room l[k] : Nat) : Int)) (rroom_eq hl) (bnd (wadd (a := rooms (l.take k)) (b := room l[k]) (by omega)) (bnd (congrArg some (wrap_succ (by omega))) ?_)))))
      rw [rooms_take l k hk]
    · refine cnd_f (decide_eq_false (by omega)) ?_
      simp only [List.take_length]
  simp only [wherryref18_rooms]
  exact bndL hrun rfl
theorem eacho_eq (l : List T_Rec) (hl : ∀ r ∈ l, LR r) (hn : l.length < 1000000) : clone_Each_api_Rec_of_clone_Rec_oo l = some l := by
  have hrun : loopF (eoS l) BIG ([], 0) = some (.inl l) := by
    refine loop_from (fun k => (l.take k, (k : Int))) l.length BIG rfl (by simp only [BIG]; omega) (fun k hk => ?_) ?_
    · have hix : ixO (k : Int) l.length = some k := ixO_of hk
      have hg : getO l k = some l[k] := by simp [getO, hk]
      have h2 : (l.take k).length ≤ 1000000 := by rw [List.length_take]; omega
      refine cnd_t (decide_eq_true (by omega)) (bnd hix (bnd hg (bnd (x := l[k]) (clone_rec (hl _ (List.getElem_mem _))) (bnd (app_of (by simp; omega) (by simp; omega)) (bnd (congrArg some (wrap_succ (by omega))) ?_)))))
      rw [take_succ l k hk]
    · refine cnd_f (decide_eq_false (by omega)) ?_
      simp only [List.take_length]
  simp only [clone_Each_api_Rec_of_clone_Rec_oo]
  exact bndL hrun rfl
theorem twinso_eq (l : List T_Rec) (hl : ∀ r ∈ l, LR r) (hn : l.length < 1000000) : wherrykeep_TwinRecs_oo l = some l := (show wherrykeep_TwinRecs_oo l = wherrykeep_TwinRecs l from rfl).trans (twins_eq l hl hn)
theorem readx_on (d : T_diary_Diary) (h : d.off = false) (hl : ∀ r ∈ d.recs, LR r) (hn : d.recs.length < 1000000) : diary_Diary_Read d = some (d.recs, 0, d) := by
  simp only [diary_Diary_Read]
  exact cnd_f h (bnd (eacho_eq _ hl hn) rfl)
theorem over_ex (b : List Int) (hb : b.length < 4294967296) : ∃ c, wherrykeep_Over_row b = some c := by
  obtain ⟨o, ho, c, rfl⟩ := loop_inv (f := orS) (fun k s => s.1.length = b.length ∧ s.2 = (k : Int)) (fun o => ∃ c, o = .inl c) b.length 0 BIG (b, 0) (Nat.zero_le _) (by simp only [BIG]; omega) ⟨rfl, rfl⟩
    (fun i s hi hI => by
      obtain ⟨x, k⟩ := s
      obtain ⟨hl, rfl⟩ := hI
      simp only at hl
      have hix : ixO (i : Int) x.length = some i := ixO_of (by omega)
      have hg : getO x i = some (x[i]'(by omega)) := by simp [getO, List.getElem?_eq_getElem (show i < x.length by omega)]
      refine .inl ⟨_, cnd_t (decide_eq_true (by omega)) (bnd hix (bnd hg (bnd rfl (bnd hix (bnd rfl (bnd (congrArg some (wrap_succ (by omega))) rfl)))))), ?_, rfl⟩
      simpa using hl)
    (fun s hI => by
      obtain ⟨x, k⟩ := s
      obtain ⟨hl, rfl⟩ := hI
      simp only at hl
      exact ⟨_, cnd_f (decide_eq_false (by omega)) rfl, _, rfl⟩)
  refine ⟨c, ?_⟩
  simp only [wherrykeep_Over_row]
  exact bndL ho rfl
theorem rcrash_eq (L : Int) (rs : List T_Rec) (s K F : Nat) (tr tk keep : Int) (hn : rs.length < 1000000) (hs : s ≤ rs.length) (hK : K < 1000000000) (hF : F < 1000000000) :
    wherryref18_Diary_Crash (T_wherryref18_Diary.mk L rs (s : Int) false (F : Int) tr tk (K : Int)) keep = some (T_wherryref18_Diary.mk L (rs.take (s + kks keep (rs.length - s))) ((s + kks keep (rs.length - s) : Nat) : Int) true ((F + 1 : Nat) : Int) 0 0 ((K + kks keep (rs.length - s) : Nat) : Int)) := by
  obtain ⟨q, hq⟩ : ∃ q, q = kks keep (rs.length - s) := ⟨_, rfl⟩
  have hql : q ≤ rs.length - s := by rw [hq]; exact Nat.min_le_right _ _
  rw [← hq]
  have e1 : IntKind.i64.wrap ((rs.length : Int) - (s : Int)) = ((rs.length - s : Nat) : Int) := by rw [wrap_i64 (by omega) (by omega)]; omega
  have e2 : (if ((rs.length - s : Nat) : Int) < (if 0 > keep then 0 else keep) then ((rs.length - s : Nat) : Int) else (if 0 > keep then 0 else keep)) = (q : Int) := by
    rw [hq]; unfold kks
    split <;> split <;> omega
  have hl : (rs.take (s + q)).length = s + q := by rw [List.length_take]; omega
  simp only [wherryref18_Diary_Crash, cond_false, Option.bind_some, e1, e2]
  refine bnd (f := fun v6 => _) (x := rs.take (s + q)) ?_ ?_
  · have : IntKind.i64.wrap ((s : Int) + (q : Int)) = ((s + q : Nat) : Int) := Option.some.inj (wadd (by omega))
    rw [this]
    have := sli_nat rs (a := 0) (b := s + q) (by omega) (by omega)
    simpa using this
  have e3 : IntKind.i64.wrap ((K : Int) + (q : Int)) = ((K + q : Nat) : Int) := Option.some.inj (wadd (by omega))
  have e4 : IntKind.i64.wrap ((F : Int) + 1) = ((F + 1 : Nat) : Int) := wrap_succ (by omega)
  rw [e3, e4, hl]
def Rl (i : Nat) (D : T_diary_Diary) (E : T_wherryref18_Diary) : Prop :=
  ∃ (L : Int) (rs : List T_Rec) (s K F : Nat) (off : Bool) (t k1 k2 : Int), D = T_diary_Diary.mk L rs ((rooms rs : Nat) : Int) (s : Int) (K : Int) (F : Int) off t k1 ∧ E = T_wherryref18_Diary.mk L rs (s : Int) off (F : Int) t k2 (K : Int) ∧
    (t ≠ 0 → k1 = k2) ∧ rs.length ≤ 60 + i ∧ s ≤ rs.length ∧ K ≤ i * 200 ∧ F ≤ i ∧ 0 ≤ t ∧ t < 9223372036854775808 ∧ ∀ r ∈ rs, LR r
theorem step_two {i : Nat} (hi : i ≤ 40) (L U : Int) (rs : List T_Rec) (s K F : Nat) (t k1 k2 : Int) (hk : t ≠ 0 → k1 = k2) (hl : rs.length ≤ 60 + (i + 1)) (hs : s ≤ rs.length) (hK : K ≤ i * 200) (hF : F ≤ i) (h0 : 0 ≤ t) (h1 : t < 9223372036854775808) (hr : ∀ r ∈ rs, LR r) :
    (∃ t', 0 ≤ t' ∧ t' < 9223372036854775808 ∧ (t' ≠ 0 → k1 = k2) ∧ diary_Diary_step (T_diary_Diary.mk L rs U (s : Int) (K : Int) (F : Int) false t k1) = some (0, T_diary_Diary.mk L rs U (s : Int) (K : Int) (F : Int) false t' k1) ∧
      wherryref18_Diary_strikes (T_wherryref18_Diary.mk L rs (s : Int) false (F : Int) t k2 (K : Int)) = some (false, T_wherryref18_Diary.mk L rs (s : Int) false (F : Int) t' k2 (K : Int))) ∨
    ∃ D' E' E1, diary_Diary_step (T_diary_Diary.mk L rs U (s : Int) (K : Int) (F : Int) false t k1) = some (7, D') ∧
      wherryref18_Diary_strikes (T_wherryref18_Diary.mk L rs (s : Int) false (F : Int) t k2 (K : Int)) = some (true, E1) ∧ wherryref18_Diary_Crash E1 E1.Keep = some E' ∧ Rl (i + 1) D' E' := by
  have hi2 : i * 200 ≤ 8000 := by omega
  by_cases hz : t = 0
  · subst hz
    exact .inl ⟨0, by omega, by omega, fun h => absurd rfl h, rfl, rfl⟩
  have hw : IntKind.i64.wrap (t - 1) = t - 1 := wrap_i64 (by omega) (by omega)
  by_cases hp : t = 1
  · subst hp
    have hA : diary_Diary_step (T_diary_Diary.mk L rs U (s : Int) (K : Int) (F : Int) false 1 k1) = some (7, T_diary_Diary.mk L (rs.take (s + kks k1 (rs.length - s))) ((rooms (rs.take (s + kks k1 (rs.length - s))) : Nat) : Int) ((s + kks k1 (rs.length - s) : Nat) : Int) ((K + kks k1 (rs.length - s) : Nat) : Int) ((F + 1 : Nat) : Int) true 0 k1) := by
      simp only [diary_Diary_step]
      exact cnd_f rfl (bnd (congrArg some hw) (cnd_f rfl (bnd (crash_eq L rs U s K F _ k1 k1 hr (by omega) hs (by omega) (by omega)) rfl)))
    have hB : wherryref18_Diary_strikes (T_wherryref18_Diary.mk L rs (s : Int) false (F : Int) 1 k2 (K : Int)) = some (true, T_wherryref18_Diary.mk L rs (s : Int) false (F : Int) 0 k2 (K : Int)) := by
      simp only [wherryref18_Diary_strikes]
      exact cnd_t rfl (bnd (congrArg some hw) rfl)
    refine .inr ⟨_, _, _, hA, hB, rcrash_eq L rs s K F 0 k2 k2 (by omega) hs (by omega) (by omega), ?_⟩
    · rw [hk (by omega)]
      have hq : kks k2 (rs.length - s) ≤ rs.length - s := Nat.min_le_right _ _
      refine ⟨L, _, _, _, _, true, 0, k2, 0, rfl, rfl, fun h => absurd rfl h, ?_, ?_, ?_, by omega, by omega, by omega, fun r h => hr r (List.mem_of_mem_take h)⟩
      · rw [List.length_take]; omega
      · rw [List.length_take]; omega
      · omega
  · refine .inl ⟨t - 1, by omega, by omega, fun _ => hk hz, ?_, ?_⟩
    · simp only [diary_Diary_step]
      exact cnd_f (by simpa using hz) (bnd (congrArg some hw) (cnd_t (decide_eq_true (by omega)) rfl))
    · simp only [wherryref18_Diary_strikes]
      refine cnd_t (decide_eq_true (by omega)) (bnd (congrArg some hw) ?_)
      have : (t - 1 == 0) = false := by simp; omega
      rw [this]
theorem Rl.mono {i : Nat} {D : T_diary_Diary} {E : T_wherryref18_Diary} (h : Rl i D E) : Rl (i + 1) D E := by
  obtain ⟨L, rs, s, K, F, off, t, k1, k2, h1, h2, h3, h4, h5, h6, h7, h8, h9, h10⟩ := h
  exact ⟨L, rs, s, K, F, off, t, k1, k2, h1, h2, h3, by omega, h5, by omega, by omega, h8, h9, h10⟩
theorem put_two {i : Nat} (hi : i ≤ 40) {D : T_diary_Diary} {E : T_wherryref18_Diary} (h : Rl i D E) {r : T_Rec} (hr : LR r) : ∃ e D' E', diary_Diary_Put D r = some (e, D') ∧ wherryref18_Diary_Put E r = some (e, E') ∧ Rl (i + 1) D' E' := by
  have hh := h
  obtain ⟨L, rs, s, K, F, off, t, k1, k2, rfl, rfl, h3, h4, h5, h6, h7, h8, h9, h10⟩ := h
  cases off with
  | true => exact ⟨7, _, _, rfl, rfl, hh.mono⟩
  | false =>
    have hrm := room_le hr
    have hrs := rooms_le rs h10
    have hrs2 : rs.length * 25000 ≤ 100 * 25000 := Nat.mul_le_mul_right _ (by omega)
    have hw : some (IntKind.i64.wrap (((rooms rs : Nat) : Int) + ((room r : Nat) : Int))) = some ((rooms rs + room r : Nat) : Int) := wadd (by omega)
    have hU : wherryref18_Diary_Used_pinr (T_wherryref18_Diary.mk L rs (s : Int) false (F : Int) t k2 (K : Int)) = some ((rooms rs : Nat) : Int) := by
      simp only [wherryref18_Diary_Used_pinr]
      exact bnd (rrooms_eq rs h10 (by omega)) rfl
    by_cases hL : L < ((rooms rs + room r : Nat) : Int)
    · refine ⟨8, _, _, ?_, ?_, hh.mono⟩
      · simp only [diary_Diary_Put]
        exact cnd_f rfl (bnd (room_eq hr) (bnd hw (cnd_t (decide_eq_true hL) rfl)))
      · simp only [wherryref18_Diary_Put]
        exact cnd_f rfl (bnd hU (bnd (rroom_eq hr) (bnd hw (cnd_t (decide_eq_true hL) rfl))))
    · have hall : ∀ x ∈ rs ++ [r], LR x := fun x hx => by
        rcases List.mem_append.1 hx with h | h
        · exact h10 x h
        · rw [List.mem_singleton.1 h]; exact hr
      have hro : rooms (rs ++ [r]) = rooms rs + room r := by rw [rooms_app]; simp [rooms]
      have hP : ∀ {e : Int} {D' : T_diary_Diary}, diary_Diary_step (T_diary_Diary.mk L (rs ++ [r]) ((rooms rs + room r : Nat) : Int) (s : Int) (K : Int) (F : Int) false t k1) = some (e, D') → diary_Diary_Put (T_diary_Diary.mk L rs ((rooms rs : Nat) : Int) (s : Int) (K : Int) (F : Int) false t k1) r = some (e, D') := fun hst => by
        simp only [diary_Diary_Put]
        exact cnd_f rfl (bnd (room_eq hr) (bnd hw (cnd_f (decide_eq_false hL) (bnd (clone_rec hr) (bnd (app_of (by simp; omega) (by simp; omega)) (bnd (room_eq hr) (bnd hw (bnd hst rfl))))))))
      rcases step_two hi L ((rooms rs + room r : Nat) : Int) (rs ++ [r]) s K F t k1 k2 h3 (by simp; omega) (by simp; omega) h6 h7 h8 h9 hall with ⟨t', a1, a2, a3, a4, a5⟩ | ⟨D', E', E1, a1, a2, a3, a4⟩
      · refine ⟨0, _, _, hP a4, ?_, L, rs ++ [r], s, K, F, false, t', k1, k2, by rw [hro], rfl, a3, by simp; omega, by simp; omega, by omega, by omega, a1, a2, hall⟩
        simp only [wherryref18_Diary_Put]
        exact cnd_f rfl (bnd hU (bnd (rroom_eq hr) (bnd hw (cnd_f (decide_eq_false hL) (bnd (twin_rec hr) (bnd (app_of (by simp; omega) (by simp; omega)) (bnd a5 (cnd_f rfl rfl))))))))
      · refine ⟨7, D', E', hP a1, ?_, a4⟩
        simp only [wherryref18_Diary_Put]
        exact cnd_f rfl (bnd hU (bnd (rroom_eq hr) (bnd hw (cnd_f (decide_eq_false hL) (bnd (twin_rec hr) (bnd (app_of (by simp; omega) (by simp; omega)) (bnd a2 (cnd_t rfl (bnd a3 rfl)))))))))
theorem sync_two {i : Nat} (hi : i ≤ 40) {D : T_diary_Diary} {E : T_wherryref18_Diary} (h : Rl i D E) : ∃ e D' E', diary_Diary_Sync D = some (e, D') ∧ wherryref18_Diary_Sync E = some (e, E') ∧ Rl (i + 1) D' E' := by
  have hh := h
  obtain ⟨L, rs, s, K, F, off, t, k1, k2, rfl, rfl, h3, h4, h5, h6, h7, h8, h9, h10⟩ := h
  cases off with
  | true => exact ⟨7, _, _, rfl, rfl, hh.mono⟩
  | false =>
    rcases step_two hi L ((rooms rs : Nat) : Int) rs s K F t k1 k2 h3 (by omega) h5 h6 h7 h8 h9 h10 with ⟨t', a1, a2, a3, a4, a5⟩ | ⟨D', E', E1, a1, a2, a3, a4⟩
    · refine ⟨0, _, _, ?_, ?_, L, rs, rs.length, 0, F, false, t', k1, k2, rfl, rfl, a3, by omega, by omega, by omega, by omega, a1, a2, h10⟩
      · simp only [diary_Diary_Sync]
        exact cnd_f rfl (bnd a4 (cnd_f rfl (bnd rfl rfl)))
      · simp only [wherryref18_Diary_Sync]
        exact cnd_f rfl (bnd a5 (cnd_f rfl rfl))
    · refine ⟨7, D', E', ?_, ?_, a4⟩
      · simp only [diary_Diary_Sync]
        exact cnd_f rfl (bnd a1 (cnd_t rfl rfl))
      · simp only [wherryref18_Diary_Sync]
        exact cnd_f rfl (bnd a2 (cnd_t rfl (bnd a3 rfl)))
theorem renew_two {i : Nat} (hi : i ≤ 40) {D : T_diary_Diary} {E : T_wherryref18_Diary} (h : Rl i D E) {l : List T_Rec} (hl : ∀ r ∈ l, LR r) (hn : l.length ≤ 60) : ∃ e D' E', diary_Diary_Renew D l = some (e, D') ∧ wherryref18_Diary_Renew E l = some (e, E') ∧ Rl (i + 1) D' E' := by
  have hh := h
  obtain ⟨L, rs, s, K, F, off, t, k1, k2, rfl, rfl, h3, h4, h5, h6, h7, h8, h9, h10⟩ := h
  cases off with
  | true => exact ⟨7, _, _, rfl, rfl, hh.mono⟩
  | false =>
    by_cases hL : L < ((rooms l : Nat) : Int)
    · refine ⟨8, _, _, ?_, ?_, hh.mono⟩
      · simp only [diary_Diary_Renew]
        exact cnd_f rfl (bnd (size_eq l hl (by omega)) (cnd_t (decide_eq_true hL) rfl))
      · simp only [wherryref18_Diary_Renew]
        exact cnd_f rfl (bnd (rrooms_eq l hl (by omega)) (cnd_t (decide_eq_true hL) rfl))
    · rcases step_two hi L ((rooms rs : Nat) : Int) rs s K F t k1 k2 h3 (by omega) h5 h6 h7 h8 h9 h10 with ⟨t', a1, a2, a3, a4, a5⟩ | ⟨D', E', E1, a1, a2, a3, a4⟩
      · refine ⟨0, _, _, ?_, ?_, L, l, l.length, 0, F, false, t', k1, k2, rfl, rfl, a3, by omega, by omega, by omega, by omega, a1, a2, hl⟩
        · simp only [diary_Diary_Renew]
          exact cnd_f rfl (bnd (size_eq l hl (by omega)) (cnd_f (decide_eq_false hL) (bnd a4 (cnd_f rfl (bnd (each_eq l hl (by omega)) (bnd rfl rfl))))))
        · simp only [wherryref18_Diary_Renew]
          exact cnd_f rfl (bnd (rrooms_eq l hl (by omega)) (cnd_f (decide_eq_false hL) (bnd a5 (cnd_f rfl (bnd (twins_eq l hl (by omega)) rfl)))))
      · refine ⟨7, D', E', ?_, ?_, a4⟩
        · simp only [diary_Diary_Renew]
          exact cnd_f rfl (bnd (size_eq l hl (by omega)) (cnd_f (decide_eq_false hL) (bnd a1 (cnd_t rfl rfl))))
        · simp only [wherryref18_Diary_Renew]
          exact cnd_f rfl (bnd (rrooms_eq l hl (by omega)) (cnd_f (decide_eq_false hL) (bnd a2 (cnd_t rfl (bnd a3 rfl)))))
theorem crash_two {i : Nat} (hi : i ≤ 40) {D : T_diary_Diary} {E : T_wherryref18_Diary} (h : Rl i D E) (keep : Int) : ∃ D' E', diary_Diary_Crash D keep = some D' ∧ wherryref18_Diary_Crash E keep = some E' ∧ Rl (i + 1) D' E' := by
  have hh := h
  obtain ⟨L, rs, s, K, F, off, t, k1, k2, rfl, rfl, h3, h4, h5, h6, h7, h8, h9, h10⟩ := h
  cases off with
  | true => exact ⟨_, _, rfl, rfl, hh.mono⟩
  | false =>
    have hq : kks keep (rs.length - s) ≤ rs.length - s := Nat.min_le_right _ _
    refine ⟨_, _, crash_eq L rs _ s K F t k1 keep h10 (by omega) h5 (by omega) (by omega), rcrash_eq L rs s K F t k2 keep (by omega) h5 (by omega) (by omega), L, _, _, _, _, true, 0, k1, 0, rfl, rfl, fun h => absurd rfl h, ?_, ?_, ?_, by omega, by omega, by omega, fun r h => h10 r (List.mem_of_mem_take h)⟩
    · rw [List.length_take]; omega
    · rw [List.length_take]; omega
    · omega
theorem trip_two {i : Nat} {D : T_diary_Diary} {E : T_wherryref18_Diary} (h : Rl i D E) (n keep : Int) (hn : n < 9223372036854775808) : ∃ D' E', diary_Diary_Trip D n keep = some D' ∧ wherryref18_Diary_Trip E n keep = some E' ∧ Rl (i + 1) D' E' := by
  obtain ⟨L, rs, s, K, F, off, t, k1, k2, rfl, rfl, h3, h4, h5, h6, h7, h8, h9, h10⟩ := h
  refine ⟨_, _, rfl, rfl, L, rs, s, K, F, off, (if 0 > n then 0 else n), keep, keep, rfl, rfl, fun _ => rfl, by omega, h5, by omega, by omega, ?_, ?_, h10⟩
  · split <;> omega
  · split <;> omega
theorem start_two {i : Nat} {D : T_diary_Diary} {E : T_wherryref18_Diary} (h : Rl i D E) : ∃ D' E', diary_Diary_Start D = some D' ∧ wherryref18_Diary_Start E = some E' ∧ Rl (i + 1) D' E' := by
  obtain ⟨L, rs, s, K, F, off, t, k1, k2, rfl, rfl, h3, h4, h5, h6, h7, h8, h9, h10⟩ := h
  exact ⟨_, _, rfl, rfl, L, rs, s, K, F, false, t, k1, k2, rfl, rfl, h3, by omega, h5, by omega, by omega, h8, h9, h10⟩
theorem same_two {i : Nat} (hi : i ≤ 41) {D : T_diary_Diary} {E : T_wherryref18_Diary} (h : Rl i D E) : wherrylaw18_same D E = some (true, D, E) := by
  obtain ⟨L, rs, s, K, F, off, t, k1, k2, rfl, rfl, h3, h4, h5, h6, h7, h8, h9, h10⟩ := h
  have hU : wherryref18_Diary_Used_pinr (T_wherryref18_Diary.mk L rs (s : Int) off (F : Int) t k2 (K : Int)) = some ((rooms rs : Nat) : Int) := by
    simp only [wherryref18_Diary_Used_pinr]
    exact bnd (rrooms_eq rs h10 (by omega)) rfl
  have hrd : ∃ l e, diary_Diary_Read (T_diary_Diary.mk L rs ((rooms rs : Nat) : Int) (s : Int) (K : Int) (F : Int) off t k1) = some (l, e, T_diary_Diary.mk L rs ((rooms rs : Nat) : Int) (s : Int) (K : Int) (F : Int) off t k1) ∧ wherryref18_Diary_Read (T_wherryref18_Diary.mk L rs (s : Int) off (F : Int) t k2 (K : Int)) = some (l, e, T_wherryref18_Diary.mk L rs (s : Int) off (F : Int) t k2 (K : Int)) ∧ wherrykeep_Recs l l = some true := by
    cases off with
    | true => exact ⟨[], 7, rfl, rfl, rfl⟩
    | false =>
      refine ⟨rs, 0, readx_on _ rfl h10 (by simp only; omega), ?_, recs_refl rs h10 (by omega)⟩
      simp only [wherryref18_Diary_Read]
      exact cnd_f rfl (bnd (twins_eq rs h10 (by omega)) rfl)
  obtain ⟨l, e, r1, r2, r3⟩ := hrd
  simp only [wherrylaw18_same]
  refine bnd r1 (bnd r2 (bndL (s := (L, rs, ((rooms rs : Nat) : Int), (s : Int), (K : Int), (F : Int), off, t, k1, true)) ?_ rfl))
  refine bnd rfl (bnd rfl (cnd_t (by simp) (bnd rfl (cnd_t (by simp) (bnd rfl (cnd_t (by simp) (bnd rfl (cnd_t (by simp) (bnd rfl (bnd hU (cnd_t (by simp) (bnd rfl (cnd_t (by simp) (cnd_t (by simp) (bnd r3 rfl)))))))))))))))
end Go.Abs.Sh
