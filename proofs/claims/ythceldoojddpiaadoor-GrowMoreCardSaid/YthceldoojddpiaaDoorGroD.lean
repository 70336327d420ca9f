import Derived.Test.YthceldoojddpiaaDoorGroE
namespace Go.Abs.Sh
set_option linter.unusedVariables false
set_option linter.unusedSimpArgs false
set_option maxRecDepth 100000
/-! Loops that end, in one run, in any run, in two runs. -/
theorem loopT {X Y S O : Type} {F : S → Option (S ⊕ O)} {σ : X → S} {ω : Y → O} {V : X → Prop} {G : Y → Prop} (μ : X → Nat)
    (step : ∀ x, V x → (∃ x', V x' ∧ μ x' < μ x ∧ F (σ x) = some (.inl (σ x'))) ∨ (∃ y, G y ∧ F (σ x) = some (.inr (ω y)))) :
    ∀ (fuel : Nat) (x : X), V x → μ x < fuel → ∃ y, G y ∧ loopF F fuel (σ x) = some (ω y)
  | 0, x, _, h => absurd h (Nat.not_lt_zero _)
  | fuel + 1, x, hv, h => by
    rcases step x hv with ⟨x', h1, h2, h3⟩ | ⟨y, h1, h2⟩
    · obtain ⟨y, hy, hl⟩ := loopT μ step fuel x' h1 (by omega)
      exact ⟨y, hy, by rw [loop_next h3]; exact hl⟩
    · exact ⟨y, h1, loop_exit h2⟩
theorem loopU {X Y S O : Type} {F : S → Option (S ⊕ O)} {σ : Nat → X → S} {ω : Nat → Y → O} {V : X → Prop} {G : Y → Prop} (μ : X → Nat)
    (step : ∀ x, V x → (∃ x', V x' ∧ μ x' < μ x ∧ ∀ M, F (σ M x) = some (.inl (σ M x'))) ∨ (∃ y, G y ∧ ∀ M, F (σ M x) = some (.inr (ω M y)))) :
    ∀ (fuel : Nat) (x : X), V x → μ x < fuel → ∃ y, G y ∧ ∀ M, loopF F fuel (σ M x) = some (ω M y)
  | 0, x, _, h => absurd h (Nat.not_lt_zero _)
  | fuel + 1, x, hv, h => by
    rcases step x hv with ⟨x', h1, h2, h3⟩ | ⟨y, h1, h2⟩
    · obtain ⟨y, hy, hl⟩ := loopU μ step fuel x' h1 (by omega)
      exact ⟨y, hy, fun M => by rw [loop_next (h3 M)]; exact hl M⟩
    · exact ⟨y, h1, fun M => loop_exit (h2 M)⟩
theorem loop2 {X Y S O : Type} {F : S → Option (S ⊕ O)} {σ τ : X → S} {ω π : Y → O} {V : X → Prop} {G Bad : Y → Prop} (μ : X → Nat)
    (step : ∀ x, V x → (∃ x', V x' ∧ μ x' < μ x ∧ F (σ x) = some (.inl (σ x')) ∧ F (τ x) = some (.inl (τ x'))) ∨ (∃ y, G y ∧ F (σ x) = some (.inr (ω y)) ∧ (Bad y ∨ F (τ x) = some (.inr (π y))))) :
    ∀ (fuel : Nat) (x : X), V x → μ x < fuel → ∃ y, G y ∧ loopF F fuel (σ x) = some (ω y) ∧ (Bad y ∨ loopF F fuel (τ x) = some (π y))
  | 0, x, _, h => absurd h (Nat.not_lt_zero _)
  | fuel + 1, x, hv, h => by
    rcases step x hv with ⟨x', h1, h2, h3, h4⟩ | ⟨y, h1, h2, h3⟩
    · obtain ⟨y, hy, hl, hr⟩ := loop2 μ step fuel x' h1 (by omega)
      exact ⟨y, hy, by rw [loop_next h3]; exact hl, hr.imp id fun hr => by rw [loop_next h4]; exact hr⟩
    · exact ⟨y, h1, loop_exit h2, h3.imp id fun h3 => loop_exit h3⟩
theorem u32_nat (n : Nat) (h : n < 4294967296) : IntKind.u32.wrap (n : Int) = (n : Int) := by
  have e : (2 : Int) ^ 32 = 4294967296 := by decide
  simp only [IntKind.wrap, IntKind.bits, IntKind.signed]
  simp only [e, Bool.false_and, Bool.false_eq_true, if_false]
  omega
theorem and32 (a b : Int) : ∃ m : Nat, m < 4294967296 ∧ bits .and .u32 a b = (m : Int) ∧ (b = 15 → m < 16) := by
  refine ⟨(BitVec.ofInt 32 a &&& BitVec.ofInt 32 b).toNat, (BitVec.ofInt 32 a &&& BitVec.ofInt 32 b).isLt, ?_, fun hb => ?_⟩
  · show IntKind.u32.wrap ((BitVec.ofInt 32 a &&& BitVec.ofInt 32 b).toNat : Int) = _
    exact u32_nat _ (BitVec.ofInt 32 a &&& BitVec.ofInt 32 b).isLt
  · subst hb
    rw [BitVec.toNat_and]
    have : (BitVec.ofInt 32 15).toNat = 15 := by decide
    rw [this]
    exact Nat.lt_of_le_of_lt Nat.and_le_right (by decide)
theorem shl_some (k : IntKind) (a : Int) (n : Nat) : ∃ r, shlO k a (n : Int) = some r := by
  unfold shlO
  rw [if_pos (by omega)]
  exact ⟨_, rfl⟩
theorem shr_some (k : IntKind) (a : Int) (n : Nat) : ∃ r, shrO k a (n : Int) = some r := by
  unfold shrO
  rw [if_pos (by omega)]
  exact ⟨_, rfl⟩
def bgS (b : List Int) (at_ n v10 : Int) : ((Int × Int)) → Option ((Int × Int) ⊕ ((Int) ⊕ (Int × Int × Int))) := (fun ((s25, s26) : Int × Int) =>
          (some (IntKind.i64.wrap (at_ + n))).bind fun v11 =>
          (bits_bytesFor v11).bind fun v12 =>
          cond ((decide (s26 < v12)))
            ((ixO s26 b.length).bind fun v14 =>
            (getO b v14).bind fun v15 =>
            (some (IntKind.u32.wrap v15)).bind fun v16 =>
            (some (IntKind.i64.wrap (s26 - v10))).bind fun v17 =>
            (some (IntKind.i64.wrap (8 * v17))).bind fun v18 =>
            (shlO .u32 v16 v18).bind fun v19 =>
            (some (bits .or .u32 s25 v19)).bind fun v20 =>
            (some (IntKind.i64.wrap (s26 + 1))).bind fun v21 =>
            some (.inl (v20, v21)))
            (some (.inr (.inl s25))))
def crS (lengths b v13 v9 : List Int) : ((Int × Int × Int)) → Option ((Int × Int × Int) ⊕ ((Unit) ⊕ (Int × Int × Int))) := (fun ((s52, s53, s54) : Int × Int × Int) =>
          bindS (S := Bool) (A := ((Int × Int × Int) ⊕ ((Unit) ⊕ (Int × Int × Int))))
            (cond ((decide (s54 ≤ 15)))
              ((some (IntKind.i64.wrap (8 * (b.length : Int)))).bind fun v16 =>
              some (.inl ((decide (s52 < v16)))))
              (some (.inl false)))
            (fun (s67 : Bool) =>
              cond (s67)
                ((shlO .i64 s53 1).bind fun v22 =>
                (quoO .i64 s52 8).bind fun v23 =>
                (ixO v23 b.length).bind fun v24 =>
                (getO b v24).bind fun v25 =>
                (remO s52 8).bind fun v26 =>
                (shrO .u8 v25 v26).bind fun v27 =>
                (some (bits .and .u8 v27 1)).bind fun v28 =>
                (some (IntKind.i64.wrap v28)).bind fun v29 =>
                (some (bits .or .i64 v22 v29)).bind fun v30 =>
                (some (IntKind.i64.wrap (s52 + 1))).bind fun v31 =>
                (ixO s54 16).bind fun v32 =>
                (getO v13 v32).bind fun v33 =>
                (ixO s54 16).bind fun v34 =>
                (getO v9 v34).bind fun v35 =>
                (some (IntKind.i64.wrap (v33 + v35))).bind fun v36 =>
                cond ((decide (v30 < v36)))
                  ((ixO s54 16).bind fun v38 =>
                  (getO v13 v38).bind fun v39 =>
                  (some (IntKind.i64.wrap (v30 - v39))).bind fun v40 =>
                  (canon_nth lengths s54 v40).bind fun v41 =>
                  some (.inr (.inr ((v41, v31, 0)))))
                  ((some (IntKind.i64.wrap (s54 + 1))).bind fun v42 =>
                  some (.inl (v31, v30, v42))))
                (some (.inr (.inl ())))) some)
def ogI (y : Int) : Int ⊕ (Int × Int × Int) := .inl y
def onI : Option Nat → Unit ⊕ Int
  | none => .inl ()
  | some r => .inr (r : Int)
def orI : Option (Nat × Nat) → Unit ⊕ (Int × Int × Int)
  | none => .inl ()
  | some r => .inr ((r.1 : Int), (r.2 : Int), 0)
theorem get_tot (b : List Int) (hbl : b.length ≤ 1500) (p n : Nat) (hp : p ≤ 8 * b.length) (hn : n ≤ 24) :
    bits_Get b (p : Int) (n : Int) = some (0, 0, 3) ∨ (p + n ≤ 8 * b.length ∧ ∃ v : Nat, v < 4294967296 ∧ (n = 4 → v < 16) ∧ bits_Get b (p : Int) (n : Int) = some ((v : Int), ((p + n : Nat) : Int), 0)) := by
  have w8 : some (IntKind.i64.wrap (8 * (b.length : Int))) = some ((8 * b.length : Nat) : Int) := by rw [wrap_i64 (by omega) (by omega)]; simp
  have wn : some (IntKind.i64.wrap ((p : Int) + (n : Int))) = some ((p + n : Nat) : Int) := by rw [wrap_i64 (by omega) (by omega)]; simp
  unfold bits_Get
  by_cases hlt : 8 * b.length < p + n
  · left
    exact bndL (s := false) (cnd_f (decide_eq_false (by omega)) (cnd_f (decide_eq_false (by omega)) (cnd_f (decide_eq_false (by omega)) (bnd w8 (by rw [decide_eq_false (by omega)]))))) (cnd_f rfl (bnd wn (bnd w8 (cnd_t (decide_eq_true (by omega)) rfl))))
  · right
    refine ⟨by omega, ?_⟩
    have hl : ∃ acc : Int, True ∧ loopF (bgS b (p : Int) (n : Int) ((p / 8 : Nat) : Int)) BIG (0, ((p / 8 : Nat) : Int)) = some (ogI acc) := by
      refine loopT (F := bgS b (p : Int) (n : Int) ((p / 8 : Nat) : Int)) (X := Int × Nat) (Y := Int) (σ := fun x => (x.1, (x.2 : Int))) (ω := ogI) (V := fun x => p / 8 ≤ x.2) (G := fun _ => True) (fun x => (p + n + 7) / 8 - x.2) (fun x hx => ?_) BIG (0, p / 8) (Nat.le_refl _) (by simp only [BIG]; omega)
      obtain ⟨acc, i⟩ := x
      have hbf : bits_bytesFor ((p + n : Nat) : Int) = some (((p + n + 7) / 8 : Nat) : Int) := by
        unfold bits_bytesFor
        refine bnd (x := ((p + n + 7 : Nat) : Int)) (by rw [wrap_i64 (by omega) (by omega)]; simp) (bnd (quo_nat _ 8 (by omega) (by omega)) rfl)
      dsimp only at hx ⊢
      by_cases hi : i < (p + n + 7) / 8
      · left
        have hib : i < b.length := by omega
        have w1 : some (IntKind.i64.wrap ((i : Int) - ((p / 8 : Nat) : Int))) = some ((i - p / 8 : Nat) : Int) := by rw [wrap_i64 (by omega) (by omega)]; congr 1; omega
        have w2 : some (IntKind.i64.wrap (8 * ((i - p / 8 : Nat) : Int))) = some ((8 * (i - p / 8) : Nat) : Int) := by rw [wrap_i64 (by omega) (by omega)]; simp
        obtain ⟨r, hr⟩ := shl_some .u32 (IntKind.u32.wrap b[i]) (8 * (i - p / 8))
        refine ⟨(bits .or .u32 acc r, i + 1), by dsimp only; omega, by dsimp only; omega, ?_⟩
        unfold bgS
        exact bnd wn (bnd hbf (cnd_t (decide_eq_true (by omega)) (bnd (ixO_of hib) (bnd (by simp [getO, hib] : getO b i = some b[i]) (bnd rfl (bnd w1 (bnd w2 (bnd hr (bnd rfl (bnd (congrArg some (wrap_succ (n := i) (by omega))) rfl))))))))))
      · right
        refine ⟨acc, trivial, ?_⟩
        unfold bgS
        exact bnd wn (bnd hbf (cnd_f (decide_eq_false (by omega)) rfl))
    obtain ⟨acc, _, hacc⟩ := hl
    obtain ⟨r1, hr1⟩ := shl_some .u32 1 n
    obtain ⟨r2, hr2⟩ := shr_some .u32 acc (p % 8)
    obtain ⟨m, hm, hm2, hm3⟩ := and32 r2 (IntKind.u32.wrap (r1 - 1))
    refine ⟨m, hm, fun h4 => hm3 ?_, ?_⟩
    · subst h4
      have : shlO .u32 1 ((4 : Nat) : Int) = some 16 := by kernel_rfl
      rw [this] at hr1
      rw [← Option.some.inj hr1]
      decide
    · exact bndL (s := false) (cnd_f (decide_eq_false (by omega)) (cnd_f (decide_eq_false (by omega)) (cnd_f (decide_eq_false (by omega)) (bnd w8 (by rw [decide_eq_false (by omega)]))))) (cnd_f rfl (bnd wn (bnd w8 (cnd_f (decide_eq_false (by omega)) (bnd (quo_nat p 8 (by omega) (by omega)) (bndL hacc (bnd hr1 (bnd rfl (bnd (rem_nat p 8 (by omega)) (bnd hr2 (bnd (congrArg some hm2) (bnd (congrArg some (wrap_nat m (by omega))) (bnd wn rfl)))))))))))))
def cnS (lengths : List Int) (n : Int) : ((Int × Int)) → Option ((Int × Int) ⊕ ((Unit) ⊕ Int)) := (fun ((s25, s26) : Int × Int) =>
  cond ((decide (s26 < (lengths.length : Int))))
    (bindS (S := Int) (A := ((Int × Int) ⊕ ((Unit) ⊕ Int)))
      ((ixO s26 lengths.length).bind fun v2 =>
      (getO lengths v2).bind fun v3 =>
      cond ((v3 != n))
        (some (.inl s25))
        (cond ((s25 == 0))
          (some (.inr (.inr (.inr (s26)))))
          ((some (IntKind.i64.wrap (s25 - 1))).bind fun v6 =>
          some (.inl v6))))
      (fun (s45 : Int) =>
        (some (IntKind.i64.wrap (s26 + 1))).bind fun v13 =>
        some (.inl (s45, v13))) some)
    (some (.inr (.inl ()))))
theorem nth_tot (l : List Int) (n k : Int) (hl : l.length ≤ 1000) : ∃ r : Nat, r ≤ l.length ∧ canon_nth l n k = some (r : Int) := by
  unfold canon_nth
  have h : ∃ y : Option Nat, (∀ r, y = some r → r ≤ l.length) ∧ loopF (cnS l n) BIG (k, 0) = some (onI y) := by
    refine loopT (F := cnS l n) (X := Int × Nat) (Y := Option Nat) (σ := fun x => (x.1, (x.2 : Int))) (ω := onI) (V := fun _ => True) (G := fun y => ∀ r, y = some r → r ≤ l.length) (fun x => l.length - x.2) (fun x _ => ?_) BIG (k, 0) trivial (by simp only [BIG]; omega)
    obtain ⟨a, i⟩ := x
    dsimp only
    by_cases hi : i < l.length
    · have hg : getO l i = some l[i] := by simp [getO, hi]
      have e1 : some (IntKind.i64.wrap ((i : Int) + 1)) = some ((i + 1 : Nat) : Int) := congrArg some (wrap_succ (n := i) (by omega))
      by_cases hne : l[i] = n
      · by_cases h0 : a = 0
        · right
          exact ⟨some i, fun r e => by cases e; omega, cnd_t (decide_eq_true (by omega)) (bndR (bnd (ixO_of hi) (bnd hg (cnd_f (by simp [hne]) (cnd_t (beq_iff_eq.2 h0) rfl)))) rfl)⟩
        · left
          exact ⟨(IntKind.i64.wrap (a - 1), i + 1), trivial, by dsimp only; omega, cnd_t (decide_eq_true (by omega)) (bndL (bnd (ixO_of hi) (bnd hg (cnd_f (by simp [hne]) (cnd_f (beq_eq_false_iff_ne.2 h0) (bnd rfl rfl))))) (bnd e1 rfl))⟩
      · left
        exact ⟨(a, i + 1), trivial, by dsimp only; omega, cnd_t (decide_eq_true (by omega)) (bndL (bnd (ixO_of hi) (bnd hg (cnd_t (by simpa using hne) rfl))) (bnd e1 rfl))⟩
    · right
      exact ⟨none, fun r e => by (cases e), cnd_f (decide_eq_false (by omega)) rfl⟩
  obtain ⟨y, hy, hloop⟩ := h
  cases y with
  | none => exact ⟨0, by omega, bndL hloop rfl⟩
  | some r => exact ⟨r, hy r rfl, bndR hloop rfl⟩
theorem read_tot (l b : List Int) (hl : l.length ≤ 1000) (hbl : b.length ≤ 1500) (p : Nat) (hp : p ≤ 8 * b.length) :
    (∃ e : Int, e ≠ 0 ∧ canon_Read l b (p : Int) = some (0, 0, e)) ∨ (∃ x s : Nat, x ≤ l.length ∧ p < s ∧ s ≤ 8 * b.length ∧ canon_Read l b (p : Int) = some ((x : Int), (s : Int), 0)) := by
  have w8 : some (IntKind.i64.wrap (8 * (b.length : Int))) = some ((8 * b.length : Nat) : Int) := by rw [wrap_i64 (by omega) (by omega)]; simp
  unfold canon_Read
  by_cases he : err l = 0
  case neg => exact .inl ⟨err l, he, bnd (check_eq2 l hl) (cnd_t (by simpa using he) rfl)⟩
  have hv : valid l := by
    refine Classical.byContradiction fun h => ?_
    rw [err, if_neg h] at he; omega
  have hf : forms (nat l) = true := by
    refine Classical.byContradiction fun h => ?_
    rw [err, if_pos hv, if_neg h] at he; omega
  have hle := nat_le hv
  have hni := nat_ints hv
  have hnl : (nat l).length = l.length := by simp [nat]
  have hcn := count_eq (nat l) hle (by omega)
  rw [hni] at hcn
  have hfr := firsts_eq (nat l) (by omega) (forms_ws hf)
  have z16 : lnO 16 (List.replicate 16 (0 : Int)) = some (List.replicate 16 (0 : Int)) := by simp [lnO]
  have t16 : lnO 16 (ints (tal (nat l))) = some (ints (tal (nat l))) := by simp [lnO, ints_len, tal_len]
  have f16 : lnO 16 (ints (fl (nat l) 16)) = some (ints (fl (nat l) 16)) := by simp [lnO, ints_len, fl_len]
  have hloop : ∃ y : Option (Nat × Nat), (∀ r, y = some r → r.1 ≤ l.length ∧ p < r.2 ∧ r.2 ≤ 8 * b.length) ∧ loopF (crS l b (ints (fl (nat l) 16)) (ints (tal (nat l)))) BIG ((p : Int), 0, 1) = some (orI y) := by
    refine loopT (F := crS l b (ints (fl (nat l) 16)) (ints (tal (nat l)))) (X := Nat × Int × Nat) (Y := Option (Nat × Nat)) (σ := fun x => ((x.1 : Int), x.2.1, (x.2.2 : Int))) (ω := orI) (V := fun x => p ≤ x.1 ∧ x.1 ≤ 8 * b.length) (G := fun y => ∀ r, y = some r → r.1 ≤ l.length ∧ p < r.2 ∧ r.2 ≤ 8 * b.length) (fun x => 8 * b.length - x.1) (fun x hx => ?_) BIG (p, 0, 1) ⟨Nat.le_refl _, hp⟩ (by simp only [BIG]; omega)
    obtain ⟨q, c, i⟩ := x
    obtain ⟨hq1, hq2⟩ := hx
    dsimp only at hq1 hq2 ⊢
    by_cases hi : i ≤ 15
    · by_cases hq : q < 8 * b.length
      · have hqb : q / 8 < b.length := by omega
        obtain ⟨a1, ha1⟩ := shl_some .i64 c 1
        have ha1 : shlO .i64 c 1 = some a1 := ha1
        obtain ⟨a2, ha2⟩ := shr_some .u8 b[q / 8] (q % 8)
        have hg1 : getO (ints (fl (nat l) 16)) i = some (((fl (nat l) 16)[i]'(by rw [fl_len]; omega) : Nat) : Int) := ints_get (by rw [fl_len]; omega)
        have hg2 : getO (ints (tal (nat l))) i = some (((tal (nat l))[i]'(by rw [tal_len]; omega) : Nat) : Int) := ints_get (by rw [tal_len]; omega)
        have hix : ixO (i : Int) 16 = some i := ixO_of (by omega)
        have hs1 : some (IntKind.i64.wrap ((q : Int) + 1)) = some ((q + 1 : Nat) : Int) := congrArg some (wrap_succ (n := q) (by omega))
        obtain ⟨v30, hv30⟩ : ∃ v30 : Int, v30 = bits .or .i64 a1 (IntKind.i64.wrap (bits .and .u8 a2 1)) := ⟨_, rfl⟩
        obtain ⟨v36, hv36⟩ : ∃ v36 : Int, v36 = IntKind.i64.wrap ((((fl (nat l) 16)[i]'(by rw [fl_len]; omega) : Nat) : Int) + (((tal (nat l))[i]'(by rw [tal_len]; omega) : Nat) : Int)) := ⟨_, rfl⟩
        by_cases hc : v30 < v36
        · right
          obtain ⟨r, hr1, hr2⟩ := nth_tot l (i : Int) (IntKind.i64.wrap (v30 - (((fl (nat l) 16)[i]'(by rw [fl_len]; omega) : Nat) : Int))) hl
          refine ⟨some (r, q + 1), fun y hy => by cases hy; exact ⟨hr1, by dsimp only; omega, by dsimp only; omega⟩, ?_⟩
          exact bndL (s := true) (cnd_t (decide_eq_true (by omega)) (bnd w8 (by rw [decide_eq_true (by omega)]))) (cnd_t rfl (bnd ha1 (bnd (quo_nat q 8 (by omega) (by omega)) (bnd (ixO_of hqb) (bnd (by simp [getO, hqb] : getO b (q / 8) = some b[q / 8]) (bnd (rem_nat q 8 (by omega)) (bnd ha2 (bnd rfl (bnd rfl (bnd (congrArg some hv30.symm) (bnd hs1 (bnd hix (bnd hg1 (bnd hix (bnd hg2 (bnd (congrArg some hv36.symm) (cnd_t (decide_eq_true hc) (bnd hix (bnd hg1 (bnd rfl (bnd hr2 rfl)))))))))))))))))))))
        · left
          refine ⟨(q + 1, v30, i + 1), ⟨by dsimp only; omega, by dsimp only; omega⟩, by dsimp only; omega, ?_⟩
          exact bndL (s := true) (cnd_t (decide_eq_true (by omega)) (bnd w8 (by rw [decide_eq_true (by omega)]))) (cnd_t rfl (bnd ha1 (bnd (quo_nat q 8 (by omega) (by omega)) (bnd (ixO_of hqb) (bnd (by simp [getO, hqb] : getO b (q / 8) = some b[q / 8]) (bnd (rem_nat q 8 (by omega)) (bnd ha2 (bnd rfl (bnd rfl (bnd (congrArg some hv30.symm) (bnd hs1 (bnd hix (bnd hg1 (bnd hix (bnd hg2 (bnd (congrArg some hv36.symm) (cnd_f (decide_eq_false hc) (bnd (congrArg some (wrap_succ (n := i) (by omega))) rfl))))))))))))))))))
      · right
        exact ⟨none, fun r e => by (cases e), bndL (s := false) (cnd_t (decide_eq_true (by omega)) (bnd w8 (by rw [decide_eq_false (by omega)]))) (cnd_f rfl rfl)⟩
    · right
      exact ⟨none, fun r e => by (cases e), bndL (s := false) (cnd_f (decide_eq_false (by omega)) rfl) (cnd_f rfl rfl)⟩
  obtain ⟨y, hy, hlp⟩ := hloop
  cases y with
  | none => exact .inl ⟨3, by omega, bnd (check_eq2 l hl) (cnd_f (by simp [he]) (bndL (s := false) (cnd_f (decide_eq_false (by omega)) (bnd w8 (by rw [decide_eq_false (by omega)]))) (cnd_f rfl (bnd hcn (bnd z16 (bnd t16 (bnd t16 (bnd hfr (bnd z16 (bnd f16 (bndL hlp rfl)))))))))))⟩
  | some r =>
    obtain ⟨x, s⟩ := r
    obtain ⟨h1, h2, h3⟩ := hy _ rfl
    exact .inr ⟨x, s, h1, h2, h3, bnd (check_eq2 l hl) (cnd_f (by simp [he]) (bndL (s := false) (cnd_f (decide_eq_false (by omega)) (bnd w8 (by rw [decide_eq_false (by omega)]))) (cnd_f rfl (bnd hcn (bnd z16 (bnd t16 (bnd t16 (bnd hfr (bnd z16 (bnd f16 (bndR hlp rfl)))))))))))⟩
end Go.Abs.Sh
