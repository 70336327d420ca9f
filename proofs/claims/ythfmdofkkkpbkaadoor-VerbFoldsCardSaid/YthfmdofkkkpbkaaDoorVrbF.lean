import Derived.Test.YthfmdofkkkpbkaaDoorVrbA
import Derived.Test.YthfmdofkkkpbkaaDoorPatJ
namespace Go.Abs.Sh
set_option linter.unusedVariables false
set_option linter.unusedSimpArgs false
set_option maxRecDepth 100000
/-! A command's first letters, great or small. -/
def relV (x y : Int) : Bool := (0 ≤ x ∧ x < 256 : Bool) && (lowB x == lowB y && (prB x == prB y && (x == 32) == (y == 32)))
theorem fl32_allV : (List.range 256).all (fun k => !letB ((k : Nat) : Int) || relV (fl32 ((k : Nat) : Int)) ((k : Nat) : Int)) = true := by kernel_rfl
theorem relV_self {c : Int} (hc : 0 ≤ c ∧ c < 256) : relV c c = true := by
  unfold relV
  simp [hc.1, hc.2]
theorem flB_relV (f : Bool) {c : Int} (hc : 0 ≤ c ∧ c < 256) : relV (flB f c) c = true := by
  unfold flB
  split
  · rename_i h
    have := of_byte (fun c => !letB c || relV (fl32 c) c) fl32_allV hc
    simpa [h.2] using this
  · exact relV_self hc
theorem relV_parts {x y : Int} (h : relV x y = true) : (0 ≤ x ∧ x < 256) ∧ lowB x = lowB y ∧ prB x = prB y ∧ (x = 32 ↔ y = 32) := by
  unfold relV at h
  simp only [Bool.and_eq_true, decide_eq_true_eq, beq_iff_eq] at h
  refine ⟨h.1, h.2.1, h.2.2.1, ?_⟩
  have := h.2.2.2
  constructor
  · intro e; rw [e] at this; simpa using this
  · intro e; rw [e] at this; simpa using this
structure RelW (a b : List Int) : Prop where
  len : a.length = b.length
  low : lowL a = lowL b
  pr : a.all prB = b.all prB
  sp : (32 : Int) ∈ a ↔ (32 : Int) ∈ b
  by_ : byt a
theorem relW_map (fs : List Bool) (l : List Int) (hb : byt l) : RelW (l.mapIdx (flF fs)) l := by
  have key : ∀ (l : List Int) (F : Nat → Int → Int), byt l → (∀ i x, x ∈ l → relV (F i x) x = true) → RelW (l.mapIdx F) l := by
    intro l
    induction l with
    | nil => intro F _ _; exact ⟨rfl, rfl, rfl, Iff.rfl, byt_nil⟩
    | cons x l ih =>
      intro F hb hF
      have h0 := relV_parts (hF 0 x List.mem_cons_self)
      have h1 := ih (fun i => F (i + 1)) (fun y hy => hb y (List.mem_cons_of_mem _ hy)) (fun i y hy => hF (i + 1) y (List.mem_cons_of_mem _ hy))
      rw [List.mapIdx_cons]
      refine ⟨by simp, ?_, ?_, ?_, byt_cons h0.1 h1.by_⟩
      · have := h1.low
        simp only [lowL, List.map_cons] at this ⊢
        rw [h0.2.1, this]
      · rw [List.all_cons, List.all_cons, h0.2.2.1, h1.pr]
      · rw [List.mem_cons, List.mem_cons, h1.sp]
        exact ⟨fun h => h.imp (fun e => (h0.2.2.2.1 e.symm).symm) id, fun h => h.imp (fun e => (h0.2.2.2.2 e.symm).symm) id⟩
  exact key l (flF fs) hb fun i x hx => flB_relV _ (hb x hx)
theorem cut_pre {a t : List Int} (h : (32 : Int) ∉ a) : cutW 32 (a ++ t) = (a ++ (cutW 32 t).1, (cutW 32 t).2.1, (cutW 32 t).2.2) := by
  rcases cutW_cases 32 t with ⟨p, q, e, hp, h2⟩ | ⟨hn, h2⟩
  · rw [h2, e, ← List.append_assoc, cutW_app (by simp only [List.mem_append]; rintro (h3 | h3); exact h h3; exact hp h3)]
  · rw [h2, cutW_none (by simp only [List.mem_append]; rintro (h3 | h3); exact h h3; exact hn h3)]
theorem kind_blank {a t : List Int} (h : (32 : Int) ∈ a) (hl : a.length ≤ 4) : kindL (a ++ t) = 0 := by
  cases hk : decide (kindL (a ++ t) = 0) with
  | true => exact of_decide_eq_true hk
  | false =>
    exfalso
    have hk := of_decide_eq_false hk
    have := kindW_len hk
    rw [low_len] at this
    rcases cutW_cases 32 a with ⟨p, q, e, hp, h2⟩ | ⟨hn, _⟩
    · rw [e, List.append_assoc, List.cons_append, cutW_app hp] at this
      simp only at this
      rw [e] at hl; simp at hl; omega
    · exact hn h
theorem pfx_rel {w a b t : List Int} (h : RelW a b) (hw : a.length ≤ w.length) : pfx w (a ++ t) = pfx w (b ++ t) := by
  unfold pfx
  have hl := h.len
  have e1 : lowL ((a ++ t).take w.length) = lowL ((b ++ t).take w.length) := by
    rw [List.take_append, List.take_append, low_app, low_app, List.take_of_length_le hw, List.take_of_length_le (l := b) (by omega), h.low, hl]
  have e2 : (a ++ t).drop w.length = (b ++ t).drop w.length := by
    rw [List.drop_append, List.drop_append, List.drop_eq_nil_of_le hw, List.drop_eq_nil_of_le (as := b) (by omega), hl]
  rw [e1, e2, List.length_append, List.length_append, hl]
theorem vparse_rel {a b t : List Int} (h : RelW a b) (h4 : a.length = 4 ∨ (a.length ≤ 4 ∧ t = [])) : vparse (a ++ t) = vparse (b ++ t) := by
  have hl := h.len
  have hlen : (a ++ t).length = (b ++ t).length := by rw [List.length_append, List.length_append, hl]
  have hpr : (a ++ t).all prB = (b ++ t).all prB := by rw [List.all_append, List.all_append, h.pr]
  by_cases hs : (32 : Int) ∈ a
  · have k1 := kind_blank (t := t) hs (by omega)
    have k2 := kind_blank (t := t) (h.sp.1 hs) (by omega)
    unfold vparse
    rw [if_pos (.inr (.inr k1)), if_pos (.inr (.inr k2))]
  · have hs2 : (32 : Int) ∉ b := fun hb => hs (h.sp.2 hb)
    have c1 := cut_pre (t := t) hs
    have c2 := cut_pre (t := t) hs2
    have hk : kindL (a ++ t) = kindL (b ++ t) := by
      unfold kindL
      rw [c1, c2]
      simp only [low_app, h.low]
    rcases h4 with h4 | ⟨h4, rfl⟩
    · have hm : mechB (a ++ t) = mechB (b ++ t) := by
        unfold mechB
        rw [pfx_rel h (by rw [h4]; decide)]
      have hc : cmdL (a ++ t) = cmdL (b ++ t) := by
        unfold cmdL
        rw [hk, c1, c2]
        have : ∀ k, pfx (openW k) (a ++ t) = pfx (openW k) (b ++ t) := fun k => pfx_rel h (by rw [h4]; unfold openW; split <;> decide)
        simp only [this]
      unfold vparse
      rw [hlen, hpr, hk, hm, hc]
    · by_cases h44 : a.length = 4
      · have hm : mechB (a ++ []) = mechB (b ++ []) := by
          rw [mech_short (by simp; omega), mech_short (by simp; omega)]
        have hc : cmdL (a ++ []) = cmdL (b ++ []) := by
          unfold cmdL
          rw [hk, c1, c2]
          have : ∀ k, pfx (openW k) (a ++ []) = pfx (openW k) (b ++ []) := fun k => pfx_rel h (by rw [h44]; unfold openW; split <;> decide)
          simp only [this]
        unfold vparse
        rw [hlen, hpr, hk, hm, hc]
      · have k0 : ∀ c : List Int, c.length < 4 → kindL (c ++ []) = 0 := by
          intro c hc
          cases hk : decide (kindL (c ++ []) = 0) with
          | true => exact of_decide_eq_true hk
          | false =>
            have hk := of_decide_eq_false hk
            have := kindW_len hk
            rw [low_len] at this
            have := (cutW_len 32 (c ++ [])).1
            rw [List.append_nil] at *
            omega
        unfold vparse
        rw [if_pos (.inr (.inr (k0 a (by omega)))), if_pos (.inr (.inr (k0 b (by omega))))]
def fl4 (fs : List Bool) (l : List Int) : List Int := (l.take 4).mapIdx (flF fs) ++ l.drop 4
theorem fl4_parse (fs : List Bool) (l : List Int) (hb : byt l) : vparse (fl4 fs l) = vparse l := by
  have h := relW_map fs (l.take 4) (byt_take hb 4)
  have hl := h.len
  unfold fl4
  rw [vparse_rel h, List.take_append_drop]
  rw [hl, List.length_take]
  by_cases h4 : 4 ≤ l.length
  · left; omega
  · right; exact ⟨by omega, List.drop_eq_nil_of_le (by omega)⟩
theorem byt_fl4 (fs : List Bool) (l : List Int) (hb : byt l) : byt (fl4 fs l) := byt_app (relW_map fs (l.take 4) (byt_take hb 4)).by_ (byt_drop hb 4)
theorem u8_ofB {c : Int} (h : wfI .u8 c) : 0 ≤ c ∧ c < 256 := by
  simp only [wfI, Lit.wf, IntKind.min, IntKind.max, IntKind.signed, IntKind.bits] at h
  have h2 : 0 ≤ c ∧ c ≤ 255 := by simpa using h
  omega
theorem parse_code {l : List Int} (h : 510 < l.length ∨ l.all prB = false) : vparse l = (noC, 500) := by
  unfold vparse
  rw [if_pos (h.imp id .inl)]
theorem verbFolds_true (s : ByteArray) (fs : List Bool) (bad at_ : Int) (hf : wzL 1 (fun _ => True) fs) (hbad : wfI .u8 bad) : wherrylaw12_VerbFolds s fs bad at_ = some true := by
  unfold wherrylaw12_VerbFolds
  by_cases h1 : 400 < s.size
  · exact cnd_t (decide_eq_true (by omega)) rfl
  have hfl : fs.length ≤ 140737488351232 := by
    have := hf.1
    simp only [reachBytes] at this
    omega
  have hlen : (sbytes s).length = s.size := sbytes_len s
  have hb := byt_sbytes s
  refine cnd_f (decide_eq_false (by omega)) (bnd (parse_S s) (bnd rfl ?_))
  have hlight : ((vparse (sbytes s)).1).Params.length < 4611686018427387904 := by
    by_cases hn : (vparse (sbytes s)).2 = 0
    · exact Nat.lt_of_le_of_lt (light_of (Prod.ext rfl hn : vparse (sbytes s) = (_, 0))).n (by decide)
    · rw [(vparse_code (sbytes s) hn).1]; decide
  obtain ⟨m, hm⟩ : ∃ m, m = min 4 s.size := ⟨_, rfl⟩
  refine bndL (s := fl4 fs (sbytes s)) ?_ ?_
  · refine loop_from (fun i => (((sbytes s).take i).mapIdx (flF fs) ++ (sbytes s).drop i, (i : Int))) m BIG (by simp) (by unfold BIG; omega) (fun i hi => ?_) ?_
    · have hi' : i < (sbytes s).length := by omega
      have hll : (((sbytes s).take i).mapIdx (flF fs) ++ (sbytes s).drop i).length = (sbytes s).length := by simp; omega
      have gt := get_midI (flF fs) (sbytes s) i hi'
      have st := set_midI (flF fs) (sbytes s) i hi'
      have ix : ixO (i : Int) (((sbytes s).take i).mapIdx (flF fs) ++ (sbytes s).drop i).length = some i := ixO_of (by omega)
      have w : some (IntKind.i64.wrap ((i : Int) + 1)) = some ((i + 1 : Nat) : Int) := by rw [wrap_succ (by omega)]
      have same : flF fs i (sbytes s)[i] = (sbytes s)[i] → ((sbytes s).take i).mapIdx (flF fs) ++ (sbytes s).drop i = ((sbytes s).take (i + 1)).mapIdx (flF fs) ++ (sbytes s).drop (i + 1) := by
        intro e
        rw [← st, e]
        rw [List.set_append_right _ _ (by simp; omega), show i - (((sbytes s).take i).mapIdx (flF fs)).length = 0 by simp; omega, List.drop_eq_getElem_cons hi', List.set_cons_zero]
      refine bndL (s := true) (cnd_t (decide_eq_true (by omega)) (by rw [decide_eq_true (by simp only [hll]; omega)])) (cnd_t rfl ?_)
      have fin : ∀ b : Bool, b = (fs.getD i false && letB (sbytes s)[i]) → (bindS (S := Bool) (A := (((List Int)) ⊕ (((List Int) × Int) ⊕ (((List Int)) ⊕ Bool)))) (some (.inl b)) (fun (s88 : Bool) =>
              cond (s88)
                ((ixO (i : Int) (((sbytes s).take i).mapIdx (flF fs) ++ (sbytes s).drop i).length).bind fun v22 =>
                (getO (((sbytes s).take i).mapIdx (flF fs) ++ (sbytes s).drop i) v22).bind fun v23 =>
                (some (bits .xor .u8 v23 32)).bind fun v24 =>
                (ixO (i : Int) (((sbytes s).take i).mapIdx (flF fs) ++ (sbytes s).drop i).length).bind fun v25 =>
                (some ((((sbytes s).take i).mapIdx (flF fs) ++ (sbytes s).drop i).set v25 v24)).bind fun v26 =>
                some (.inl v26))
                (some (.inl (((sbytes s).take i).mapIdx (flF fs) ++ (sbytes s).drop i)))) some : Option ((List Int) ⊕ (((List Int) × Int) ⊕ (((List Int)) ⊕ Bool)))) = some (.inl (((sbytes s).take (i + 1)).mapIdx (flF fs) ++ (sbytes s).drop (i + 1))) := by
        intro b hb
        cases b
        · have e : flF fs i (sbytes s)[i] = (sbytes s)[i] := by
            unfold flF flB
            rw [if_neg]
            rintro ⟨h1, h2⟩
            rw [h1, h2] at hb; cases hb
          rw [← same e]; rfl
        · have e : flF fs i (sbytes s)[i] = fl32 (sbytes s)[i] := by
            unfold flF flB
            rw [if_pos]
            exact ⟨by cases h : fs.getD i false <;> simp_all, by cases h : letB (sbytes s)[i] <;> simp_all⟩
          rw [e] at st
          exact bndL (s := true) rfl (cnd_t rfl (bnd ix (bnd gt (bnd rfl (bnd ix (bnd (by rw [show bits BinOp.xor IntKind.u8 (sbytes s)[i] 32 = fl32 (sbytes s)[i] from rfl, st]) rfl))))))
      refine bndL (s := ((sbytes s).take (i + 1)).mapIdx (flF fs) ++ (sbytes s).drop (i + 1)) ?_ (bnd w rfl)
      refine Eq.trans ?_ (fin _ rfl)
      congr 1
      by_cases hfi : i < fs.length
      · have gf : getO fs i = some (fs.getD i false) := by rw [getO_of hfi, List.getD_eq_getElem?_getD, List.getElem?_eq_getElem hfi]; rfl
        refine cnd_t (decide_eq_true (by omega)) (bnd (ixO_of hfi) (bnd gf ?_))
        cases fs.getD i false
        · rfl
        · refine cnd_t rfl (bnd ix (bnd gt ?_))
          rw [Bool.true_and, ← let_cond (R := (((List Int)) ⊕ (((List Int) × Int) ⊕ (((List Int)) ⊕ Bool)))) (sbytes s)[i] (some (.inl (decide ((sbytes s)[i] ≤ 90)))) none none rfl]
          have inner : ((ixO (i : Int) (((sbytes s).take i).mapIdx (flF fs) ++ (sbytes s).drop i).length).bind fun v13 =>
                  (getO (((sbytes s).take i).mapIdx (flF fs) ++ (sbytes s).drop i) v13).bind fun v14 =>
                  cond ((decide (65 ≤ v14)))
                    ((ixO (i : Int) (((sbytes s).take i).mapIdx (flF fs) ++ (sbytes s).drop i).length).bind fun v15 =>
                    (getO (((sbytes s).take i).mapIdx (flF fs) ++ (sbytes s).drop i) v15).bind fun v16 =>
                    some (Sum.inl (β := (((List Int)) ⊕ (((List Int) × Int) ⊕ (((List Int)) ⊕ Bool)))) ((decide (v16 ≤ 90)))))
                    (some (.inl false))) = cond (decide (65 ≤ (sbytes s)[i])) (some (.inl (decide ((sbytes s)[i] ≤ 90)))) (some (.inl false)) := by
            refine bnd ix (bnd gt ?_)
            cases decide (65 ≤ (sbytes s)[i])
            · rfl
            · exact cnd_t rfl (bnd ix (bnd gt rfl))
          cases decide (97 ≤ (sbytes s)[i])
          · exact inner
          · refine cnd_t rfl (bnd ix (bnd gt ?_))
            cases decide ((sbytes s)[i] ≤ 122)
            · exact inner
            · rfl
      · refine cnd_f (decide_eq_false (by omega)) ?_
        rw [List.getD_eq_getElem?_getD, List.getElem?_eq_none (by omega)]; rfl
    · have hfin : ((sbytes s).take m).mapIdx (flF fs) ++ (sbytes s).drop m = fl4 fs (sbytes s) := by
        unfold fl4
        by_cases h4 : 4 ≤ s.size
        · rw [show m = 4 by omega]
        · rw [show m = s.size by omega, List.take_of_length_le (by omega), List.take_of_length_le (by omega), List.drop_eq_nil_of_le (by omega), List.drop_eq_nil_of_le (by omega)]
      have hll : (((sbytes s).take m).mapIdx (flF fs) ++ (sbytes s).drop m).length = (sbytes s).length := by simp; omega
      rw [← hfin]
      refine bndL (s := false) ?_ (cnd_f rfl rfl)
      by_cases h4 : m < 4
      · exact cnd_t (decide_eq_true (by omega)) (by rw [decide_eq_false (by simp only [hll]; omega)])
      · exact cnd_f (decide_eq_false (by omega)) rfl
  · have hp2 := parse_L (fl4 fs (sbytes s)) (byt_fl4 fs _ hb)
    rw [fl4_parse fs _ hb] at hp2
    have hk := keepCmd (vparse (sbytes s)).1 (vparse (sbytes s)).1 hlight
    rw [decide_eq_true rfl] at hk
    refine bnd rfl (bnd hp2 (bndL (s := false) (cnd_f (by simp) (bnd hk rfl)) (cnd_f rfl ?_)))
    -- too long
    have h120 : sbytes (⟨#[120]⟩ : ByteArray) = [120] := rfl
    obtain ⟨k, hk5⟩ : ∃ k, s.size + k = 511 := ⟨511 - s.size, by omega⟩
    have hbx : ∀ i, byt (sbytes s ++ List.replicate i 120) := fun i => byt_app hb fun x hx => by rw [(List.mem_replicate.1 hx).2]; omega
    have hlx : ∀ i, (sbytes s ++ List.replicate i (120 : Int)).length = s.size + i := fun i => by rw [List.length_append, List.length_replicate, hlen]
    refine bndL (s := bstr (sbytes s ++ List.replicate k 120)) (loop_from (fun i => bstr (sbytes s ++ List.replicate i 120)) k _ (by simp [bstr_sbytes]) (by simp only [BIG]; omega) (fun i hi => ?_) ?_) ?_
    · have hc := catL (sbytes_bstr (hbx i)) h120 (by rw [hlx]; simp; omega)
      refine cnd_t (decide_eq_true (by rw [bstr_size, hlx]; omega)) (bnd hc ?_)
      rw [List.append_assoc, ← List.replicate_succ']
    · exact cnd_f (decide_eq_false (by rw [bstr_size, hlx]; omega)) rfl
    · have hpl := parse_L _ (hbx k)
      rw [parse_code (.inl (by rw [hlx]; omega))] at hpl
      refine bnd hpl (cnd_f rfl ?_)
      by_cases hok : 32 ≤ bad ∧ bad ≤ 126
      · exact bndL (s := true) (cnd_t (decide_eq_true hok.1) (by rw [decide_eq_true hok.2])) (cnd_t rfl (bnd verb_wakes rfl))
      · have hguard : (cond (decide (32 ≤ bad)) (some (.inl (decide (bad ≤ 126)))) (some (.inl false)) : Option (Bool ⊕ Bool)) = some (.inl false) := by
          by_cases h32 : 32 ≤ bad
          · exact cnd_t (decide_eq_true h32) (by rw [decide_eq_false (by omega)])
          · exact cnd_f (decide_eq_false h32) rfl
        refine bndL hguard (cnd_f rfl ?_)
        obtain ⟨q, hq, hr⟩ : ∃ q : Nat, q ≤ s.size ∧ remO (IntKind.u64.wrap at_) (IntKind.u64.wrap (((s.size + 1 : Nat)) : Int)) = some (q : Int) := by
          have hu : ∀ z : Int, IntKind.u64.wrap z = ((z % 18446744073709551616).toNat : Int) := by
            intro z
            simp only [IntKind.wrap, IntKind.bits, IntKind.signed]
            have e : (2 : Int) ^ 64 = 18446744073709551616 := by decide
            simp only [e, Bool.false_and, Bool.false_eq_true, if_false]
            omega
          have h2 : IntKind.u64.wrap (((s.size + 1 : Nat)) : Int) = ((s.size + 1 : Nat) : Int) := by rw [hu]; omega
          rw [h2, hu]
          exact ⟨_, by have := Nat.mod_lt ((at_ % 18446744073709551616).toNat) (show 0 < s.size + 1 by omega); omega, rem_nat _ _ (by omega)⟩
        have hb1 : byt [bad] := by
          have := u8_ofB hbad
          exact byt_cons this byt_nil
        have hs1 := sub_of (s := s) (a := 0) (b := q) (by omega) (by omega)
        have hs2 := sub_of (s := s) (a := q) (b := s.size) (by omega) (by omega)
        rw [List.drop_zero, Nat.sub_zero] at hs1
        rw [List.take_of_length_le (by rw [List.length_drop, hlen]; exact Nat.le_refl _)] at hs2
        have hbt := byt_take hb q
        have hbd := byt_drop hb q
        have hc1 := catL (s := bstr ((sbytes s).take q)) (t := bstr [bad]) (sbytes_bstr hbt) (sbytes_bstr hb1) (by rw [List.length_take]; simp; omega)
        have hc2 := catL (s := bstr ((sbytes s).take q ++ [bad])) (t := bstr ((sbytes s).drop q)) (sbytes_bstr (byt_app hbt hb1)) (sbytes_bstr hbd) (by rw [List.length_append, List.length_take, List.length_drop]; simp; omega)
        have hpb := parse_L ((sbytes s).take q ++ [bad] ++ (sbytes s).drop q) (byt_app (byt_app hbt hb1) hbd)
        have hprb : prB bad = false := by
          unfold prB
          rw [Bool.and_eq_false_iff, decide_eq_false_iff_not, decide_eq_false_iff_not]; omega
        rw [parse_code (.inr (by simp only [List.all_append, List.all_cons, List.all_nil, hprb, Bool.false_and, Bool.and_false]))] at hpb
        have hw : some (IntKind.i64.wrap ((s.size : Int) + 1)) = some (((s.size + 1 : Nat)) : Int) := by rw [wrap_succ (by omega)]
        exact bnd rfl (bnd hw (bnd rfl (bnd hr (bnd (some_wrap (by omega) (by omega)) (bnd hs1 (bnd rfl (bnd hc1 (bnd hs2 (bnd hc2 (bnd hpb (bndL (s := true) (cnd_t rfl (bnd verb_wakes rfl)) rfl)))))))))))
end Go.Abs.Sh
