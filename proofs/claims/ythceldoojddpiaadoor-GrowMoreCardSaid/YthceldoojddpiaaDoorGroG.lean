import Derived.Test.YthceldoojddpiaaDoorGroF
import Derived.Test.YthceldoojddpiaaDoorKeepM
namespace Go.Abs.Sh
set_option linter.unusedVariables false
set_option linter.unusedSimpArgs false
set_option maxRecDepth 100000
def R2 (b : List Int) (M M' : Nat) (c : Cs) (f : T_grow_stream → Option (Int × T_grow_stream)) : Prop :=
  ∃ (e : Int) (c' : Cs), c.1 ≤ c'.1 ∧ c'.1 ≤ 8 * b.length ∧ c'.2.1.length ≤ M ∧ f (mkS b M c) = some (e, mkS b M c') ∧ (e = 2 ∨ f (mkS b M' c) = some (e, mkS b M' c'))
theorem lit_r {b : List Int} {M M' : Nat} (hM : M ≤ M') (hM4 : M' ≤ 4096) (c : Cs) (hp : c.1 ≤ 8 * b.length) (ho : c.2.1.length ≤ M) (x : Int) : R2 b M M' c (fun s => grow_stream_literal s x) := by
  have w1 : some (IntKind.i64.wrap ((c.2.1.length : Int) + 1)) = some ((c.2.1.length + 1 : Nat) : Int) := congrArg some (wrap_succ (by omega))
  by_cases h : M < c.2.1.length + 1
  · exact ⟨2, c, Nat.le_refl _, hp, ho, bnd w1 (cnd_t (decide_eq_true (by show (M : Int) < _; omega)) rfl), .inl rfl⟩
  · have ha : appO 1 c.2.1 [IntKind.u8.wrap x] = some (c.2.1 ++ [IntKind.u8.wrap x]) := app_of (by simp; omega) (by simp; omega)
    exact ⟨0, (c.1, c.2.1 ++ [IntKind.u8.wrap x], c.2.2), Nat.le_refl _, hp, by simp; omega, bnd w1 (cnd_f (decide_eq_false (by show ¬ (M : Int) < _; omega)) (bnd rfl (bnd ha rfl))), .inr (bnd w1 (cnd_f (decide_eq_false (by show ¬ (M' : Int) < _; omega)) (bnd rfl (bnd ha rfl))))⟩
def rpS (n dist : Int) : (((List Int) × Int)) → Option (((List Int) × Int) ⊕ (((List Int)) ⊕ (Int × T_grow_stream))) := (fun ((s13, s14) : (List Int) × Int) =>
      cond ((decide (s14 < n)))
        ((some (IntKind.i64.wrap ((s13.length : Int) - dist))).bind fun v5 =>
        (ixO v5 s13.length).bind fun v6 =>
        (getO s13 v6).bind fun v7 =>
        (appO 1 s13 [v7]).bind fun v8 =>
        (some (IntKind.i64.wrap (s14 + 1))).bind fun v9 =>
        some (.inl (v8, v9)))
        (some (.inr (.inl s13))))
theorem rep_run (o : List Int) (n d : Nat) (hd : 1 ≤ d) (hdo : d ≤ o.length) (hn : o.length + n ≤ 10000) : ∃ o' : List Int, o'.length = o.length + n ∧ loopF (rpS (n : Int) (d : Int)) BIG (o, 0) = some (.inl o') := by
  refine loopT (F := rpS (n : Int) (d : Int)) (X := List Int × Nat) (Y := List Int) (σ := fun x => (x.1, (x.2 : Int))) (ω := fun y => .inl y) (V := fun x => x.1.length = o.length + x.2 ∧ x.2 ≤ n) (G := fun y => y.length = o.length + n) (fun x => n - x.2) (fun x hx => ?_) BIG (o, 0) ⟨by simp, by omega⟩ (by simp only [BIG]; omega)
  obtain ⟨l, i⟩ := x
  obtain ⟨h1, h2⟩ := hx
  dsimp only at h1 h2 ⊢
  by_cases hi : i < n
  · left
    have w1 : some (IntKind.i64.wrap ((l.length : Int) - (d : Int))) = some ((l.length - d : Nat) : Int) := by rw [wrap_i64 (by omega) (by omega)]; congr 1; omega
    have hl : l.length - d < l.length := by omega
    refine ⟨(l ++ [l[l.length - d]], i + 1), ⟨by simp; omega, by dsimp only; omega⟩, by dsimp only; omega, ?_⟩
    exact cnd_t (decide_eq_true (by omega)) (bnd w1 (bnd (ixO_of hl) (bnd (by simp only [getO]; rw [List.getElem?_eq_getElem hl] : getO l (l.length - d) = some l[l.length - d]) (bnd (app_of (by simp; omega) (by simp; omega)) (bnd (congrArg some (wrap_succ (n := i) (by omega))) rfl)))))
  · right
    exact ⟨l, by omega, cnd_f (decide_eq_false (by omega)) rfl⟩
theorem rep_r {b : List Int} {M M' : Nat} (hM : M ≤ M') (hM4 : M' ≤ 4096) (c : Cs) (hp : c.1 ≤ 8 * b.length) (ho : c.2.1.length ≤ M) (n d : Nat) (hd : 1 ≤ d) (hn : n < 8589934592) (hd2 : d < 8589934592) : R2 b M M' c (fun s => grow_stream_repeat s (n : Int) (d : Int)) := by
  by_cases h1 : c.2.1.length < d
  · exact ⟨3, c, Nat.le_refl _, hp, ho, cnd_t (decide_eq_true (by show (c.2.1.length : Int) < _; omega)) rfl, .inr (cnd_t (decide_eq_true (by show (c.2.1.length : Int) < _; omega)) rfl)⟩
  have w1 : some (IntKind.i64.wrap ((c.2.1.length : Int) + (n : Int))) = some ((c.2.1.length + n : Nat) : Int) := by rw [wrap_i64 (by omega) (by omega)]; simp
  by_cases h2 : M < c.2.1.length + n
  · exact ⟨2, c, Nat.le_refl _, hp, ho, cnd_f (decide_eq_false (by show ¬ (c.2.1.length : Int) < _; omega)) (bnd w1 (cnd_t (decide_eq_true (by show (M : Int) < _; omega)) rfl)), .inl rfl⟩
  · obtain ⟨o', ho', hl⟩ := rep_run c.2.1 n d hd (by omega) (by omega)
    exact ⟨0, (c.1, o', c.2.2), Nat.le_refl _, hp, by dsimp only; omega, cnd_f (decide_eq_false (by show ¬ (c.2.1.length : Int) < _; omega)) (bnd w1 (cnd_f (decide_eq_false (by show ¬ (M : Int) < _; omega)) (bndL hl rfl))),
      .inr (cnd_f (decide_eq_false (by show ¬ (c.2.1.length : Int) < _; omega)) (bnd w1 (cnd_f (decide_eq_false (by show ¬ (M' : Int) < _; omega)) (bndL hl rfl))))⟩
theorem len_all : (List.range 29).all (fun k => match sym_LenOf (((k + 257 : Nat)) : Int) with | some (a, e, z) => decide (0 ≤ a ∧ a ≤ 300 ∧ 0 ≤ e ∧ e ≤ 24) | none => false) = true := by kernel_rfl
theorem len_at {x : Nat} (h1 : 257 ≤ x) (h2 : x ≤ 285) : ∃ (a e : Nat) (z : Int), a ≤ 300 ∧ e ≤ 24 ∧ sym_LenOf (x : Int) = some ((a : Int), (e : Int), z) := by
  have := List.all_eq_true.1 len_all (x - 257) (List.mem_range.2 (by omega))
  rw [show x - 257 + 257 = x from by omega] at this
  cases hg : sym_LenOf (x : Int) with
  | none => rw [hg] at this; simp at this
  | some v =>
    obtain ⟨a, e, z⟩ := v
    rw [hg] at this
    have := of_decide_eq_true this
    exact ⟨a.toNat, e.toNat, z, by omega, by omega, by rw [Int.toNat_of_nonneg this.1, Int.toNat_of_nonneg this.2.2.1]⟩
theorem dist_all : (List.range 30).all (fun k => match sym_DistOf ((k : Nat) : Int) with | some (a, e, z) => decide (1 ≤ a ∧ a ≤ 40000 ∧ 0 ≤ e ∧ e ≤ 24 ∧ z = 0) | none => false) = true := by kernel_rfl
theorem dist_at (x : Nat) (hx : x ≤ 1000) : (sym_DistOf (x : Int) = some (0, 0, 1)) ∨ ∃ a e : Nat, 1 ≤ a ∧ a ≤ 40000 ∧ e ≤ 24 ∧ sym_DistOf (x : Int) = some ((a : Int), (e : Int), 0) := by
  by_cases h : x < 30
  · have := List.all_eq_true.1 dist_all x (List.mem_range.2 h)
    cases hg : sym_DistOf (x : Int) with
    | none => rw [hg] at this; simp at this
    | some v =>
      obtain ⟨a, e, z⟩ := v
      rw [hg] at this
      have := of_decide_eq_true this
      obtain ⟨h1, h2, h3, h4, rfl⟩ := this
      exact .inr ⟨a.toNat, e.toNat, by omega, by omega, by omega, by rw [Int.toNat_of_nonneg (by omega : 0 ≤ a), Int.toNat_of_nonneg h3]⟩
  · left
    unfold sym_DistOf
    exact bndL (s := true) (cnd_f (decide_eq_false (by omega)) (by rw [decide_eq_true (by omega)])) (cnd_t rfl rfl)
theorem match_r {b : List Int} (hbl : b.length ≤ 1500) {M M' : Nat} (hM : M ≤ M') (hM4 : M' ≤ 4096) (c : Cs) (hp : c.1 ≤ 8 * b.length) (ho : c.2.1.length ≤ M) (x : Nat) (hx : 257 ≤ x) (ds : List Int) (hds : ds.length ≤ 1000) : R2 b M M' c (fun s => grow_stream_match s (x : Int) ds) := by
  by_cases h285 : 285 < x
  · exact ⟨3, c, Nat.le_refl _, hp, ho, cnd_t (decide_eq_true (by omega)) rfl, .inr (cnd_t (decide_eq_true (by omega)) rfl)⟩
  obtain ⟨a, e, z, ha, he, hL⟩ := len_at hx (by omega)
  have h2 : decide ((285 : Int) < (x : Int)) = false := decide_eq_false (by omega)
  rcases num_u hbl c hp e he with ⟨u, u1, _, u3, u4⟩ | u
  · have w1 : some (IntKind.i64.wrap ((a : Int) + (u : Int))) = some ((a + u : Nat) : Int) := by rw [wrap_i64 (by omega) (by omega)]; simp
    rcases sym_u hbl (c.1 + e, c.2) u3 ds hds with ⟨y, p', y1, y2, y3, y4⟩ | ⟨e', he', y⟩
    · dsimp only at y2
      rcases dist_at y (by omega) with hD | ⟨da, de, d1, d2, d3, hD⟩
      · exact ⟨3, (p', c.2), by dsimp only; omega, y3, ho, cnd_f h2 (bnd hL (bnd (u4 M) (cnd_f rfl (bnd w1 (bnd (y4 M) (cnd_f rfl (bnd hD (cnd_t rfl rfl)))))))), .inr (cnd_f h2 (bnd hL (bnd (u4 M') (cnd_f rfl (bnd w1 (bnd (y4 M') (cnd_f rfl (bnd hD (cnd_t rfl rfl)))))))))⟩
      · rcases num_u hbl (p', c.2) y3 de d3 with ⟨v, v1, _, v3, v4⟩ | v
        · have w2 : some (IntKind.i64.wrap ((da : Int) + (v : Int))) = some ((da + v : Nat) : Int) := by rw [wrap_i64 (by omega) (by omega)]; simp
          obtain ⟨e2, c', r1, r2, r3, r4, r5⟩ := rep_r hM hM4 (p' + de, c.2) v3 ho (a + u) (da + v) (by omega) (by omega) (by omega)
          dsimp only at r1
          exact ⟨e2, c', by omega, r2, r3, cnd_f h2 (bnd hL (bnd (u4 M) (cnd_f rfl (bnd w1 (bnd (y4 M) (cnd_f rfl (bnd hD (cnd_f rfl (bnd (v4 M) (cnd_f rfl (bnd w2 (bnd r4 rfl)))))))))))),
            r5.imp id fun r5 => cnd_f h2 (bnd hL (bnd (u4 M') (cnd_f rfl (bnd w1 (bnd (y4 M') (cnd_f rfl (bnd hD (cnd_f rfl (bnd (v4 M') (cnd_f rfl (bnd w2 (bnd r5 rfl))))))))))))⟩
        · exact ⟨3, (p', c.2), by dsimp only; omega, y3, ho, cnd_f h2 (bnd hL (bnd (u4 M) (cnd_f rfl (bnd w1 (bnd (y4 M) (cnd_f rfl (bnd hD (cnd_f rfl (bnd (v M) (cnd_t rfl rfl)))))))))), .inr (cnd_f h2 (bnd hL (bnd (u4 M') (cnd_f rfl (bnd w1 (bnd (y4 M') (cnd_f rfl (bnd hD (cnd_f rfl (bnd (v M') (cnd_t rfl rfl)))))))))))⟩
    · have hne : (e' != 0) = true := by simpa using he'
      exact ⟨e', (c.1 + e, c.2), by dsimp only; omega, u3, ho, cnd_f h2 (bnd hL (bnd (u4 M) (cnd_f rfl (bnd w1 (bnd (y M) (cnd_t hne rfl)))))), .inr (cnd_f h2 (bnd hL (bnd (u4 M') (cnd_f rfl (bnd w1 (bnd (y M') (cnd_t hne rfl)))))))⟩
  · exact ⟨3, c, Nat.le_refl _, hp, ho, cnd_f h2 (bnd hL (bnd (u M) (cnd_t rfl rfl))), .inr (cnd_f h2 (bnd hL (bnd (u M') (cnd_t rfl rfl))))⟩
def tkS (lits dists : List Int) : (((List Int) × Int × (List Int) × Int × Int)) → Option (((List Int) × Int × (List Int) × Int × Int) ⊕ ((Unit) ⊕ (Int × T_grow_stream))) := (fun ((s39, s40, s41, s42, s43) : (List Int) × Int × (List Int) × Int × Int) =>
  (grow_stream_symbol (T_grow_stream.mk s39 s40 s41 s42 s43) lits).bind fun v1 =>
  cond ((v1.2.1 != 0))
    (some (.inr (.inr ((v1.2.1, v1.2.2)))))
    (bindS (S := (List Int) × Int × (List Int) × Int × Int × Int) (A := (((List Int) × Int × (List Int) × Int × Int) ⊕ ((Unit) ⊕ (Int × T_grow_stream))))
      (cond ((v1.1 == 256))
        (some (.inr (.inr (.inr ((0, v1.2.2))))))
        (cond ((decide (v1.1 < 256)))
          ((grow_stream_literal v1.2.2 v1.1).bind fun v5 =>
          some (.inl (v5.2.b, v5.2.at_, v5.2.out, v5.2.most, v5.2.blocks, v5.1)))
          ((grow_stream_match v1.2.2 v1.1 dists).bind fun v6 =>
          some (.inl (v6.2.b, v6.2.at_, v6.2.out, v6.2.most, v6.2.blocks, v6.1)))))
      (fun ((s68, s69, s70, s71, s72, s73) : (List Int) × Int × (List Int) × Int × Int × Int) =>
        cond ((s73 != 0))
          (some (.inr (.inr ((s73, (T_grow_stream.mk s68 s69 s70 s71 s72))))))
          (some (.inl (s68, s69, s70, s71, s72)))) some))
def stS (v3 : Int × Int × T_grow_stream) : (((List Int) × Int × (List Int) × Int × Int × Int)) → Option (((List Int) × Int × (List Int) × Int × Int × Int) ⊕ (((List Int) × Int × (List Int) × Int × Int) ⊕ (Int × T_grow_stream))) := (fun ((s24, s25, s26, s27, s28, s29) : (List Int) × Int × (List Int) × Int × Int × Int) =>
          cond ((decide (s29 < v3.1)))
            ((grow_stream_number (T_grow_stream.mk s24 s25 s26 s27 s28) 8).bind fun v10 =>
            cond ((v10.2.1 != 0))
              (some (.inr (.inr ((v10.2.1, v10.2.2)))))
              ((grow_stream_literal v10.2.2 v10.1).bind fun v12 =>
              cond ((v12.1 != 0))
                (some (.inr (.inr ((v12.1, v12.2)))))
                ((some (IntKind.i64.wrap (s29 + 1))).bind fun v14 =>
                some (.inl (v12.2.b, v12.2.at_, v12.2.out, v12.2.most, v12.2.blocks, v14)))))
            (some (.inr (.inl (s24, s25, s26, s27, s28)))))
def rdS : (((List Int) × Int × (List Int) × Int × Int × Bool)) → Option (((List Int) × Int × (List Int) × Int × Int × Bool) ⊕ (((List Int) × Int × (List Int) × Int × Int) ⊕ ((Option T_grow_stream) × Int))) := (fun ((s18, s19, s20, s21, s22, s23) : (List Int) × Int × (List Int) × Int × Int × Bool) =>
          cond ((!s23))
            ((grow_stream_block (T_grow_stream.mk s18 s19 s20 s21 s22)).bind fun v7 =>
            cond ((v7.2.1 != 0))
              (some (.inr (.inr ((none, v7.2.1)))))
              ((some (IntKind.i64.wrap (v7.2.2.blocks + 1))).bind fun v9 =>
              some (.inl (v7.2.2.b, v7.2.2.at_, v7.2.2.out, v7.2.2.most, v9, v7.1))))
            (some (.inr (.inl (s18, s19, s20, s21, s22)))))
def tkO (b : List Int) (M : Nat) (y : Int × Cs) : Unit ⊕ (Int × T_grow_stream) := .inr (y.1, mkS b M y.2)
theorem tok_r {b : List Int} (hbl : b.length ≤ 1500) {M M' : Nat} (hM : M ≤ M') (hM4 : M' ≤ 4096) (c : Cs) (hp : c.1 ≤ 8 * b.length) (ho : c.2.1.length ≤ M) (ls ds : List Int) (hls : ls.length ≤ 1000) (hds : ds.length ≤ 1000) : R2 b M M' c (fun s => grow_stream_tokens s ls ds) := by
  have h := loop2 (F := tkS ls ds) (X := Cs) (Y := Int × Cs) (σ := fun x => (b, (x.1 : Int), x.2.1, (M : Int), x.2.2)) (τ := fun x => (b, (x.1 : Int), x.2.1, (M' : Int), x.2.2)) (ω := tkO b M) (π := tkO b M') (V := fun x => c.1 ≤ x.1 ∧ x.1 ≤ 8 * b.length ∧ x.2.1.length ≤ M) (G := fun y => c.1 ≤ y.2.1 ∧ y.2.1 ≤ 8 * b.length ∧ y.2.2.1.length ≤ M) (Bad := fun y => y.1 = 2) (fun x => 8 * b.length - x.1) (fun x hx => ?_) BIG c ⟨Nat.le_refl _, hp, ho⟩ (by simp only [BIG]; omega)
  · obtain ⟨y, ⟨g1, g2, g3⟩, h1, h2⟩ := h
    exact ⟨y.1, y.2, g1, g2, g3, bndR h1 rfl, h2.imp id fun h2 => bndR h2 rfl⟩
  · obtain ⟨a1, a2, a3⟩ := hx
    rcases sym_u hbl x a2 ls hls with ⟨y, p', y1, y2, y3, y4⟩ | ⟨e, he, y⟩
    · by_cases h256 : y = 256
      · right
        have hb : ((y : Int) == 256) = true := by simp [h256]
        refine ⟨(0, (p', x.2)), ⟨by dsimp only; omega, y3, a3⟩, ?_, .inr ?_⟩
        · unfold tkS; exact bnd (y4 M) (cnd_f rfl (bndR (cnd_t hb rfl) rfl))
        · unfold tkS; exact bnd (y4 M') (cnd_f rfl (bndR (cnd_t hb rfl) rfl))
      · have hb : ((y : Int) == 256) = false := by simp only [beq_eq_false_iff_ne, ne_eq]; omega
        have key : ∀ {f : T_grow_stream → Option (Int × T_grow_stream)}, R2 b M M' (p', x.2) f → (∀ s, (cond (decide ((y : Int) < 256)) ((grow_stream_literal s (y : Int)).bind fun v5 => some (.inl (v5.2.b, v5.2.at_, v5.2.out, v5.2.most, v5.2.blocks, v5.1)))
            ((grow_stream_match s (y : Int) ds).bind fun v6 => some (.inl (v6.2.b, v6.2.at_, v6.2.out, v6.2.most, v6.2.blocks, v6.1)))) = ((f s).bind fun v5 => some ((.inl (v5.2.b, v5.2.at_, v5.2.out, v5.2.most, v5.2.blocks, v5.1)) : (List Int × Int × List Int × Int × Int × Int) ⊕ (((List Int) × Int × (List Int) × Int × Int) ⊕ ((Unit) ⊕ (Int × T_grow_stream))))) ) →
            (∃ x' : Cs, (c.1 ≤ x'.1 ∧ x'.1 ≤ 8 * b.length ∧ x'.2.1.length ≤ M) ∧ 8 * b.length - x'.1 < 8 * b.length - x.1 ∧ tkS ls ds (b, (x.1 : Int), x.2.1, (M : Int), x.2.2) = some (.inl (b, (x'.1 : Int), x'.2.1, (M : Int), x'.2.2)) ∧ tkS ls ds (b, (x.1 : Int), x.2.1, (M' : Int), x.2.2) = some (.inl (b, (x'.1 : Int), x'.2.1, (M' : Int), x'.2.2))) ∨
            (∃ y : Int × Cs, (c.1 ≤ y.2.1 ∧ y.2.1 ≤ 8 * b.length ∧ y.2.2.1.length ≤ M) ∧ tkS ls ds (b, (x.1 : Int), x.2.1, (M : Int), x.2.2) = some (.inr (tkO b M y)) ∧ (y.1 = 2 ∨ tkS ls ds (b, (x.1 : Int), x.2.1, (M' : Int), x.2.2) = some (.inr (tkO b M' y)))) := by
          intro f hR hf
          obtain ⟨e, c', r1, r2, r3, r4, r5⟩ := hR
          dsimp only at r1
          by_cases he : e = 0
          · subst he
            left
            have r5 := r5.resolve_left (by omega)
            refine ⟨c', ⟨by omega, r2, r3⟩, by omega, ?_, ?_⟩
            · unfold tkS; exact bnd (y4 M) (cnd_f rfl (bndL (cnd_f hb ((hf _).trans (bnd r4 rfl))) (cnd_f rfl rfl)))
            · unfold tkS; exact bnd (y4 M') (cnd_f rfl (bndL (cnd_f hb ((hf _).trans (bnd r5 rfl))) (cnd_f rfl rfl)))
          · right
            have hne : (e != 0) = true := by simpa using he
            refine ⟨(e, c'), ⟨by dsimp only; omega, r2, r3⟩, ?_, r5.imp id fun r5 => ?_⟩
            · unfold tkS; exact bnd (y4 M) (cnd_f rfl (bndL (cnd_f hb ((hf _).trans (bnd r4 rfl))) (cnd_t hne rfl)))
            · unfold tkS; exact bnd (y4 M') (cnd_f rfl (bndL (cnd_f hb ((hf _).trans (bnd r5 rfl))) (cnd_t hne rfl)))
        by_cases hlt : y < 256
        · exact key (lit_r hM hM4 (p', x.2) y3 a3 (y : Int)) (fun s => by rw [decide_eq_true (by omega : (y : Int) < 256)]; rfl)
        · exact key (match_r hbl hM hM4 (p', x.2) y3 a3 y (by omega) ds hds) (fun s => by rw [decide_eq_false (by omega : ¬ (y : Int) < 256)]; rfl)
    · right
      have hne : (e != 0) = true := by simpa using he
      refine ⟨(e, x), ⟨a1, a2, a3⟩, ?_, .inr ?_⟩
      · unfold tkS; exact bnd (y M) (cnd_t hne rfl)
      · unfold tkS; exact bnd (y M') (cnd_t hne rfl)
def stO (b : List Int) (M : Nat) (y : Option Int × Cs) : ((List Int) × Int × (List Int) × Int × Int) ⊕ (Int × T_grow_stream) := match y.1 with
  | none => .inl (b, (y.2.1 : Int), y.2.2.1, (M : Int), y.2.2.2)
  | some e => .inr (e, mkS b M y.2)
theorem stored_r {b : List Int} (hbl : b.length ≤ 1500) {M M' : Nat} (hM : M ≤ M') (hM4 : M' ≤ 4096) (c : Cs) (hp : c.1 ≤ 8 * b.length) (ho : c.2.1.length ≤ M) : R2 b M M' c grow_stream_stored := by
  obtain ⟨e0, c0, p1, p2, p3, p4⟩ := pad_u hbl c hp
  have ho0 : c0.2.1.length ≤ M := by rw [p3]; exact ho
  by_cases he0 : e0 = 0
  case neg =>
    have hne : (e0 != 0) = true := by simpa using he0
    exact ⟨e0, c0, p1, p2, ho0, bnd (p4 M) (cnd_t hne rfl), .inr (bnd (p4 M') (cnd_t hne rfl))⟩
  subst he0
  rcases num_u hbl c0 p2 16 (by omega) with ⟨u, u1, _, u3, u4⟩ | u
  case inr => exact ⟨3, c0, p1, p2, ho0, bnd (p4 M) (cnd_f rfl (bnd (u M) (cnd_t rfl rfl))), .inr (bnd (p4 M') (cnd_f rfl (bnd (u M') (cnd_t rfl rfl))))⟩
  rcases num_u hbl (c0.1 + 16, c0.2) u3 16 (by omega) with ⟨v, v1, _, v3, v4⟩ | v
  case inr => exact ⟨3, (c0.1 + 16, c0.2), by dsimp only; omega, u3, ho0, bnd (p4 M) (cnd_f rfl (bnd (u4 M) (cnd_f rfl (bnd (v M) (cnd_t rfl rfl))))), .inr (bnd (p4 M') (cnd_f rfl (bnd (u4 M') (cnd_f rfl (bnd (v M') (cnd_t rfl rfl))))))⟩
  dsimp only at v3
  by_cases hx : bits .xor .i64 (u : Int) (v : Int) = 65535
  case neg =>
    have hne : (bits .xor .i64 (u : Int) (v : Int) != 65535) = true := by simpa using hx
    exact ⟨3, (c0.1 + 16 + 16, c0.2), by dsimp only; omega, v3, ho0, bnd (p4 M) (cnd_f rfl (bnd (u4 M) (cnd_f rfl (bnd (v4 M) (cnd_f rfl (bnd rfl (cnd_t hne rfl))))))), .inr (bnd (p4 M') (cnd_f rfl (bnd (u4 M') (cnd_f rfl (bnd (v4 M') (cnd_f rfl (bnd rfl (cnd_t hne rfl))))))))⟩
  have hne : (bits .xor .i64 (u : Int) (v : Int) != 65535) = false := by simp [hx]
  have h := loop2 (F := stS ((u : Int), 0, mkS b M (c0.1 + 16, c0.2))) (X := Cs × Nat) (Y := Option Int × Cs) (σ := fun x => (b, (x.1.1 : Int), x.1.2.1, (M : Int), x.1.2.2, (x.2 : Int))) (τ := fun x => (b, (x.1.1 : Int), x.1.2.1, (M' : Int), x.1.2.2, (x.2 : Int))) (ω := stO b M) (π := stO b M') (V := fun x => c.1 ≤ x.1.1 ∧ x.1.1 ≤ 8 * b.length ∧ x.1.2.1.length ≤ M) (G := fun y => c.1 ≤ y.2.1 ∧ y.2.1 ≤ 8 * b.length ∧ y.2.2.1.length ≤ M) (Bad := fun y => y.1 = some 2) (fun x => 8 * b.length - x.1.1) (fun x hx => ?_) BIG ((c0.1 + 16 + 16, c0.2), 0) ⟨by dsimp only; omega, v3, ho0⟩ (by simp only [BIG]; omega)
  · obtain ⟨y, ⟨g1, g2, g3⟩, h1, h2⟩ := h
    obtain ⟨oe, c'⟩ := y
    cases oe with
    | none =>
      have h2 := h2.resolve_left (by simp)
      exact ⟨0, c', g1, g2, g3, bnd (p4 M) (cnd_f rfl (bnd (u4 M) (cnd_f rfl (bnd (v4 M) (cnd_f rfl (bnd rfl (cnd_f hne (bndL h1 rfl)))))))), .inr (bnd (p4 M') (cnd_f rfl (bnd (u4 M') (cnd_f rfl (bnd (v4 M') (cnd_f rfl (bnd rfl (cnd_f hne (bndL h2 rfl)))))))))⟩
    | some e => exact ⟨e, c', g1, g2, g3, bnd (p4 M) (cnd_f rfl (bnd (u4 M) (cnd_f rfl (bnd (v4 M) (cnd_f rfl (bnd rfl (cnd_f hne (bndR h1 rfl)))))))), h2.imp (fun h => by simpa using h) fun h2 => (bnd (p4 M') (cnd_f rfl (bnd (u4 M') (cnd_f rfl (bnd (v4 M') (cnd_f rfl (bnd rfl (cnd_f hne (bndR h2 rfl)))))))))⟩
  · obtain ⟨x1, i⟩ := x
    obtain ⟨a1, a2, a3⟩ := hx
    dsimp only at a1 a2 a3 ⊢
    by_cases hi : i < u
    · have hd : decide ((i : Int) < (u : Int)) = true := decide_eq_true (by omega)
      rcases num_u hbl x1 a2 8 (by omega) with ⟨w, w1, _, w3, w4⟩ | w
      · obtain ⟨e, c', r1, r2, r3, r4, r5⟩ := lit_r hM hM4 (x1.1 + 8, x1.2) w3 a3 (w : Int)
        dsimp only at r1
        by_cases he : e = 0
        · subst he
          left
          have r5 := r5.resolve_left (by omega)
          have hiw : i < 4611686018427387904 := by omega
          exact ⟨(c', i + 1), ⟨by dsimp only; omega, r2, r3⟩, by dsimp only; omega, cnd_t hd (bnd (w4 M) (cnd_f rfl (bnd r4 (cnd_f rfl (bnd (congrArg some (wrap_succ (n := i) hiw)) rfl))))), cnd_t hd (bnd (w4 M') (cnd_f rfl (bnd r5 (cnd_f rfl (bnd (congrArg some (wrap_succ (n := i) hiw)) rfl)))))⟩
        · right
          have hne : (e != 0) = true := by simpa using he
          exact ⟨(some e, c'), ⟨by dsimp only; omega, r2, r3⟩, cnd_t hd (bnd (w4 M) (cnd_f rfl (bnd r4 (cnd_t hne rfl)))), r5.imp (fun h => by rw [h]) fun r5 => cnd_t hd (bnd (w4 M') (cnd_f rfl (bnd r5 (cnd_t hne rfl))))⟩
      · right
        exact ⟨(some 3, x1), ⟨a1, a2, a3⟩, cnd_t hd (bnd (w M) (cnd_t rfl rfl)), .inr (cnd_t hd (bnd (w M') (cnd_t rfl rfl)))⟩
    · right
      have hd : decide ((i : Int) < (u : Int)) = false := decide_eq_false (by omega)
      exact ⟨(none, x1), ⟨a1, a2, a3⟩, cnd_f hd rfl, .inr (cnd_f hd rfl)⟩
end Go.Abs.Sh
