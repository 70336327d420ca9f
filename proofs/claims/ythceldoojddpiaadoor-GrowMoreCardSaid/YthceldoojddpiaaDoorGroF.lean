import Derived.Test.YthceldoojddpiaaDoorGroD
namespace Go.Abs.Sh
set_option linter.unusedVariables false
set_option linter.unusedSimpArgs false
set_option maxRecDepth 100000
/-! A stream: where it stands, what came of it, its blocks; how much may come of it stands apart. -/
abbrev Cs := Nat × List Int × Int
def mkS (b : List Int) (M : Nat) (c : Cs) : T_grow_stream := ⟨b, (c.1 : Int), c.2.1, (M : Int), c.2.2⟩
theorem num_u {b : List Int} (hbl : b.length ≤ 1500) (c : Cs) (hp : c.1 ≤ 8 * b.length) (n : Nat) (hn : n ≤ 24) :
    (∃ v : Nat, v < 4294967296 ∧ (n = 4 → v < 16) ∧ c.1 + n ≤ 8 * b.length ∧ ∀ M, grow_stream_number (mkS b M c) (n : Int) = some ((v : Int), 0, mkS b M (c.1 + n, c.2))) ∨ (∀ M, grow_stream_number (mkS b M c) (n : Int) = some (0, 3, mkS b M c)) := by
  rcases get_tot b hbl c.1 n hp hn with h | ⟨h1, v, h2, h3, h4⟩
  · exact .inr fun M => bnd h (cnd_t rfl rfl)
  · exact .inl ⟨v, h2, h3, h1, fun M => bnd h4 (cnd_f rfl rfl)⟩
theorem sym_u {b : List Int} (hbl : b.length ≤ 1500) (c : Cs) (hp : c.1 ≤ 8 * b.length) (l : List Int) (hl : l.length ≤ 1000) :
    (∃ x p' : Nat, x ≤ l.length ∧ c.1 < p' ∧ p' ≤ 8 * b.length ∧ ∀ M, grow_stream_symbol (mkS b M c) l = some ((x : Int), 0, mkS b M (p', c.2))) ∨ (∃ e : Int, e ≠ 0 ∧ ∀ M, grow_stream_symbol (mkS b M c) l = some (0, e, mkS b M c)) := by
  rcases read_tot l b hl hbl c.1 hp with ⟨e, he, h⟩ | ⟨x, s, h1, h2, h3, h4⟩
  · exact .inr ⟨e, he, fun M => bnd h (cnd_t (by simpa using he) rfl)⟩
  · exact .inl ⟨x, s, h1, h2, h3, fun M => bnd h4 (cnd_f rfl rfl)⟩
theorem pad_u {b : List Int} (hbl : b.length ≤ 1500) (c : Cs) (hp : c.1 ≤ 8 * b.length) : ∃ (e : Int) (c' : Cs), c.1 ≤ c'.1 ∧ c'.1 ≤ 8 * b.length ∧ c'.2 = c.2 ∧ ∀ M, grow_stream_pad (mkS b M c) = some (e, mkS b M c') := by
  have r1 : remO (c.1 : Int) 8 = some ((c.1 % 8 : Nat) : Int) := rem_nat c.1 8 (by omega)
  have r2 : some (IntKind.i64.wrap (8 - ((c.1 % 8 : Nat) : Int))) = some ((8 - c.1 % 8 : Nat) : Int) := by rw [wrap_i64 (by omega) (by omega)]; congr 1; omega
  have r3 : remO ((8 - c.1 % 8 : Nat) : Int) 8 = some (((8 - c.1 % 8) % 8 : Nat) : Int) := rem_nat _ 8 (by omega)
  rcases num_u hbl c hp ((8 - c.1 % 8) % 8) (by omega) with ⟨v, h1, _, h3, h4⟩ | h
  · by_cases h0 : v = 0
    · subst h0
      exact ⟨0, (c.1 + (8 - c.1 % 8) % 8, c.2), by dsimp only; omega, h3, rfl, fun M => bnd r1 (bnd r2 (bnd r3 (bnd (h4 M) (cnd_f rfl (cnd_f rfl rfl)))))⟩
    · exact ⟨3, (c.1 + (8 - c.1 % 8) % 8, c.2), by dsimp only; omega, h3, rfl, fun M => bnd r1 (bnd r2 (bnd r3 (bnd (h4 M) (cnd_f rfl (cnd_t (by simp only [bne_iff_ne, ne_eq]; omega) rfl)))))⟩
  · exact ⟨3, c, Nat.le_refl _, hp, rfl, fun M => bnd r1 (bnd r2 (bnd r3 (bnd (h M) (cnd_t rfl rfl))))⟩
def rlS (v4 : Int) : (((List Int) × Int × (List Int) × Int × Int × (List Int) × Int)) → Option (((List Int) × Int × (List Int) × Int × Int × (List Int) × Int) ⊕ (((List Int) × Int × (List Int) × Int × Int × (List Int)) ⊕ ((List Int) × Int × T_grow_stream))) := (fun ((s22, s23, s24, s25, s26, s27, s28) : (List Int) × Int × (List Int) × Int × Int × (List Int) × Int) =>
    cond ((decide (s28 < v4)))
      ((ixO s28 19).bind fun v6 =>
      (getO grow_rowOrder (0 + v6 * 1)).bind fun v7 =>
      (grow_stream_number (T_grow_stream.mk s22 s23 s24 s25 s26) 3).bind fun v8 =>
      (ixO v7 s27.length).bind fun v9 =>
      (some (s27.set v9 v8.1)).bind fun v10 =>
      cond ((v8.2.1 != 0))
        (some (.inr (.inr (([], v8.2.1, v8.2.2)))))
        ((some (IntKind.i64.wrap (s28 + 1))).bind fun v12 =>
        some (.inl (v8.2.2.b, v8.2.2.at_, v8.2.2.out, v8.2.2.most, v8.2.2.blocks, v10, v12))))
      (some (.inr (.inl (s22, s23, s24, s25, s26, s27)))))
theorem ord_all : (List.range 19).all (fun i => match getO grow_rowOrder (0 + i * 1) with | some v => decide (0 ≤ v ∧ v < 19) | none => false) = true := by kernel_rfl
theorem ord_at {i : Nat} (h : i < 19) : ∃ k : Nat, k < 19 ∧ getO grow_rowOrder (0 + i * 1) = some (k : Int) := by
  have := List.all_eq_true.1 ord_all i (List.mem_range.2 h)
  cases hg : getO grow_rowOrder (0 + i * 1) with
  | none => rw [hg] at this; simp at this
  | some v =>
    rw [hg] at this
    have := of_decide_eq_true this
    exact ⟨v.toNat, by omega, by rw [Int.toNat_of_nonneg this.1]⟩
def rlO (b : List Int) (M : Nat) (y : List Int × Option Int × Cs) : ((List Int) × Int × (List Int) × Int × Int × (List Int)) ⊕ ((List Int) × Int × T_grow_stream) := match y.2.1 with
  | none => .inl (b, (y.2.2.1 : Int), y.2.2.2.1, (M : Int), y.2.2.2.2, y.1)
  | some e => .inr ([], e, mkS b M y.2.2)
theorem rowLens_u {b : List Int} (hbl : b.length ≤ 1500) (c : Cs) (hp : c.1 ≤ 8 * b.length) : ∃ (l : List Int) (e : Int) (c' : Cs), l.length ≤ 19 ∧ c.1 ≤ c'.1 ∧ c'.1 ≤ 8 * b.length ∧ c'.2 = c.2 ∧ ∀ M, grow_stream_rowLengths (mkS b M c) = some (l, e, mkS b M c') := by
  rcases num_u hbl c hp 4 (by omega) with ⟨v, h1, h2, h3, h4⟩ | h
  · have hv := h2 rfl
    have hm : mkO 8 19 (0 : Int) = some (List.replicate 19 0) := by simp [mkO]
    have w4 : some (IntKind.i64.wrap ((v : Int) + 4)) = some ((v + 4 : Nat) : Int) := by rw [wrap_i64 (by omega) (by omega)]; simp
    have hl := loopU (F := rlS ((v + 4 : Nat) : Int)) (X := Cs × List Int × Nat) (Y := List Int × Option Int × Cs) (σ := fun M x => (b, (x.1.1 : Int), x.1.2.1, (M : Int), x.1.2.2, x.2.1, (x.2.2 : Int))) (ω := rlO b) (V := fun x => c.1 ≤ x.1.1 ∧ x.1.1 ≤ 8 * b.length ∧ x.1.2 = c.2 ∧ x.2.1.length = 19) (G := fun y => c.1 ≤ y.2.2.1 ∧ y.2.2.1 ≤ 8 * b.length ∧ y.2.2.2 = c.2 ∧ y.1.length = 19 ∧ ∀ e, y.2.1 = some e → e ≠ 0) (fun x => v + 4 - x.2.2) (fun x hx => ?_) BIG ((c.1 + 4, c.2), List.replicate 19 0, 0) ⟨by dsimp only; omega, h3, rfl, by simp⟩ (by simp only [BIG]; omega)
    · obtain ⟨y, ⟨g1, g2, g3, g4, g5⟩, hl⟩ := hl
      obtain ⟨l, oe, c'⟩ := y
      cases oe with
      | none =>
        have hck := check_eq2 l (by dsimp only at g4; omega)
        by_cases he : err l = 0
        · exact ⟨l, 0, c', by dsimp only at g4; omega, g1, g2, g3, fun M => bnd (h4 M) (cnd_f rfl (bnd hm (bnd w4 (bndL (hl M) (bnd hck (cnd_f (by simp [he]) rfl))))))⟩
        · exact ⟨[], 3, c', by simp, g1, g2, g3, fun M => bnd (h4 M) (cnd_f rfl (bnd hm (bnd w4 (bndL (hl M) (bnd hck (cnd_t (by simpa using he) rfl))))))⟩
      | some e => exact ⟨[], e, c', by simp, g1, g2, g3, fun M => bnd (h4 M) (cnd_f rfl (bnd hm (bnd w4 (bndR (hl M) rfl))))⟩
    · obtain ⟨x1, ls, i⟩ := x
      obtain ⟨a1, a2, a3, a4⟩ := hx
      dsimp only at a1 a2 a3 a4 ⊢
      by_cases hi : i < v + 4
      · obtain ⟨k, hk, hg⟩ := ord_at (i := i) (by omega)
        have hix : ixO (k : Int) ls.length = some k := ixO_of (by omega)
        rcases num_u hbl x1 a2 3 (by omega) with ⟨u, u1, _, u3, u4⟩ | u
        · left
          refine ⟨((x1.1 + 3, x1.2), ls.set k (u : Int), i + 1), ⟨by dsimp only; omega, u3, a3, by dsimp only; rw [List.length_set]; exact a4⟩, by dsimp only; omega, fun M => ?_⟩
          exact cnd_t (decide_eq_true (by omega)) (bnd (ixO_of (n := 19) (by omega)) (bnd hg (bnd (u4 M) (bnd hix (bnd rfl (cnd_f rfl (bnd (congrArg some (wrap_succ (n := i) (by omega))) rfl)))))))
        · right
          refine ⟨(ls, some 3, x1), ⟨a1, a2, a3, a4, fun e he => by cases he; omega⟩, fun M => ?_⟩
          exact cnd_t (decide_eq_true (by omega)) (bnd (ixO_of (n := 19) (by omega)) (bnd hg (bnd (u M) (bnd hix (bnd rfl (cnd_t rfl rfl))))))
      · right
        exact ⟨(ls, none, x1), ⟨a1, a2, a3, a4, fun e he => by cases he⟩, fun M => cnd_f (decide_eq_false (by omega)) rfl⟩
  · exact ⟨[], 3, c, by simp, Nat.le_refl _, hp, rfl, fun M => bnd (h M) (cnd_t rfl rfl)⟩
def rwO (code : List Int) (n : Int) : (((List Int) × Int × (List Int) × Int × Int × (List Int))) → Option (((List Int) × Int × (List Int) × Int × Int × (List Int)) ⊕ (((List Int) × Int × (List Int) × Int × Int × (List Int)) ⊕ ((List Int) × Int × T_grow_stream))) := (fun ((s123, s124, s125, s126, s127, s128) : (List Int) × Int × (List Int) × Int × Int × (List Int)) =>
  cond ((decide ((s128.length : Int) < n)))
    ((grow_stream_symbol (T_grow_stream.mk s123 s124 s125 s126 s127) code).bind fun v2 =>
    cond ((v2.2.1 != 0))
      (some (.inr (.inr (([], v2.2.1, v2.2.2)))))
      (bindS (S := Int × Int × Int) (A := (((List Int) × Int × (List Int) × Int × Int × (List Int)) ⊕ (((List Int) × Int × (List Int) × Int × Int × (List Int)) ⊕ ((List Int) × Int × T_grow_stream))))
        (bindS (S := Int × Int × Int) (A := ((Int × Int × Int) ⊕ (((List Int) × Int × (List Int) × Int × Int × (List Int)) ⊕ (((List Int) × Int × (List Int) × Int × Int × (List Int)) ⊕ ((List Int) × Int × T_grow_stream)))))
          (cond ((v2.1 == 16))
            (cond (((s128.length : Int) == 0))
              (some (.inr (.inr (.inr (.inr (([], 3, v2.2.2)))))))
              ((some (IntKind.i64.wrap ((s128.length : Int) - 1))).bind fun v6 =>
              (ixO v6 s128.length).bind fun v72 =>
              (getO s128 v72).bind fun v73 =>
              some (.inl (v73, 3, 2))))
            (cond ((v2.1 == 17))
              (some (.inl (0, 3, 3)))
              (cond ((v2.1 == 18))
                (some (.inl (0, 11, 7)))
                (some (.inl (v2.1, 1, 0))))))
          (fun ((s220, s221, s222) : Int × Int × Int) =>
            some (.inl (s220, s221, s222))) some)
        (fun ((s210, s211, s212) : Int × Int × Int) =>
          (grow_stream_number v2.2.2 s212).bind fun v39 =>
          cond ((v39.2.1 != 0))
            (some (.inr (.inr (([], v39.2.1, v39.2.2)))))
            ((some (IntKind.i64.wrap (s211 + v39.1))).bind fun v41 =>
            (some (IntKind.i64.wrap (n - (s128.length : Int)))).bind fun v42 =>
            cond ((decide (v42 < v41)))
              (some (.inr (.inr (([], 3, v39.2.2)))))
              ((some (IntKind.i64.wrap (s211 + v39.1))).bind fun v44 =>
              bindS (S := ((List Int))) (A := (((List Int) × Int × (List Int) × Int × Int × (List Int)) ⊕ (((List Int) × Int × (List Int) × Int × Int × (List Int)) ⊕ ((List Int) × Int × T_grow_stream))))
                (loopF (S := ((List Int) × Int)) (O := ((List Int)) ⊕ (((List Int) × Int × (List Int) × Int × Int × (List Int)) ⊕ (((List Int) × Int × (List Int) × Int × Int × (List Int)) ⊕ ((List Int) × Int × T_grow_stream)))) (fun ((s236, s237) : (List Int) × Int) =>
                  cond ((decide (s237 < v44)))
                    ((appO 8 s236 [s210]).bind fun v46 =>
                    (some (IntKind.i64.wrap (s237 + 1))).bind fun v47 =>
                    some (.inl (v46, v47)))
                    (some (.inr (.inl s236))))
                  BIG (s128, 0))
                (fun (s239 : (List Int)) =>
                  some (.inl (v39.2.2.b, v39.2.2.at_, v39.2.2.out, v39.2.2.most, v39.2.2.blocks, s239))) some))) some))
    (some (.inr (.inl (s123, s124, s125, s126, s127, s128)))))
def rwI (v44 s210 : Int) : (((List Int) × Int)) → Option (((List Int) × Int) ⊕ (((List Int)) ⊕ (((List Int) × Int × (List Int) × Int × Int × (List Int)) ⊕ (((List Int) × Int × (List Int) × Int × Int × (List Int)) ⊕ ((List Int) × Int × T_grow_stream))))) := (fun ((s236, s237) : (List Int) × Int) =>
                  cond ((decide (s237 < v44)))
                    ((appO 8 s236 [s210]).bind fun v46 =>
                    (some (IntKind.i64.wrap (s237 + 1))).bind fun v47 =>
                    some (.inl (v46, v47)))
                    (some (.inr (.inl s236))))
theorem app_k (m : Nat) (x : Int) (l : List Int) (hm : m ≤ 1000) (hl : l.length ≤ 1000) : loopF (rwI (m : Int) x) BIG (l, 0) = some (.inl (l ++ List.replicate m x)) := by
  have h := loopT (F := rwI (m : Int) x) (X := Nat) (Y := Unit) (σ := fun i => (l ++ List.replicate i x, (i : Int))) (ω := fun _ => .inl (l ++ List.replicate m x)) (V := fun i => i ≤ m) (G := fun _ => True) (fun i => m - i) (fun i hi => ?_) BIG 0 (by omega) (by simp only [BIG]; omega)
  · obtain ⟨_, _, h⟩ := h
    simpa using h
  · by_cases h : i < m
    · left
      refine ⟨i + 1, by omega, by omega, ?_⟩
      refine cnd_t (decide_eq_true (by omega)) (bnd (app_of (k := 8) (l := l ++ List.replicate i x) (m := [x]) (by simp; omega) (by simp; omega)) (bnd (congrArg some (wrap_succ (n := i) (by omega))) ?_))
      rw [List.replicate_succ', List.append_assoc]
    · right
      have e : i = m := by omega
      subst e
      exact ⟨(), trivial, cnd_f (decide_eq_false (by omega)) rfl⟩
theorem row_u {b : List Int} (hbl : b.length ≤ 1500) (c : Cs) (hp : c.1 ≤ 8 * b.length) (code : List Int) (hc : code.length ≤ 19) (n : Nat) (hn : n ≤ 400) : ∃ (l : List Int) (e : Int) (c' : Cs), (e = 0 → l.length = n) ∧ c.1 ≤ c'.1 ∧ c'.1 ≤ 8 * b.length ∧ c'.2 = c.2 ∧ ∀ M, grow_stream_row (mkS b M c) code (n : Int) = some (l, e, mkS b M c') := by
  have hl := loopU (F := rwO code (n : Int)) (X := Cs × List Int) (Y := List Int × Option Int × Cs) (σ := fun M x => (b, (x.1.1 : Int), x.1.2.1, (M : Int), x.1.2.2, x.2)) (ω := rlO b) (V := fun x => c.1 ≤ x.1.1 ∧ x.1.1 ≤ 8 * b.length ∧ x.1.2 = c.2 ∧ x.2.length ≤ n) (G := fun y => c.1 ≤ y.2.2.1 ∧ y.2.2.1 ≤ 8 * b.length ∧ y.2.2.2 = c.2 ∧ (y.2.1 = none → y.1.length = n) ∧ ∀ e, y.2.1 = some e → e ≠ 0) (fun x => 8 * b.length - x.1.1) (fun x hx => ?_) BIG (c, []) ⟨Nat.le_refl _, hp, rfl, by simp⟩ (by simp only [BIG]; omega)
  · obtain ⟨y, ⟨g1, g2, g3, g4, g5⟩, hl⟩ := hl
    obtain ⟨l, oe, c'⟩ := y
    cases oe with
    | none => exact ⟨l, 0, c', fun _ => g4 rfl, g1, g2, g3, fun M => bndL (hl M) rfl⟩
    | some e => exact ⟨[], e, c', fun h => absurd h (g5 e rfl), g1, g2, g3, fun M => bndR (hl M) rfl⟩
  · obtain ⟨x1, ls⟩ := x
    obtain ⟨a1, a2, a3, a4⟩ := hx
    dsimp only at a1 a2 a3 a4 ⊢
    by_cases hi : ls.length < n
    · rcases sym_u hbl x1 a2 code (by omega) with ⟨x, p', y1, y2, y3, y4⟩ | ⟨e, he, y⟩
      · -- a value, how often at least, how many bits tell more
        have rest : ∀ (vl : Int) (least more : Nat), least ≤ 11 → more ≤ 7 → ∀ {D : Nat → Option ((Int × Int × Int) ⊕ (((List Int) × Int × (List Int) × Int × Int × (List Int)) ⊕ (((List Int) × Int × (List Int) × Int × Int × (List Int)) ⊕ ((List Int) × Int × T_grow_stream))))}, (∀ M, D M = some (.inl (vl, (least : Int), (more : Int)))) →
            (∃ x' : Cs × List Int, (c.1 ≤ x'.1.1 ∧ x'.1.1 ≤ 8 * b.length ∧ x'.1.2 = c.2 ∧ x'.2.length ≤ n) ∧ 8 * b.length - x'.1.1 < 8 * b.length - x1.1 ∧ ∀ M : Nat, (bindS (S := Int × Int × Int) (A := (((List Int) × Int × (List Int) × Int × Int × (List Int)) ⊕ (((List Int) × Int × (List Int) × Int × Int × (List Int)) ⊕ ((List Int) × Int × T_grow_stream)))) (D M) (fun ((s210, s211, s212) : Int × Int × Int) =>
              (grow_stream_number (mkS b M (p', x1.2)) s212).bind fun v39 =>
              cond ((v39.2.1 != 0))
                (some (.inr (.inr (([], v39.2.1, v39.2.2)))))
                ((some (IntKind.i64.wrap (s211 + v39.1))).bind fun v41 =>
                (some (IntKind.i64.wrap ((n : Int) - (ls.length : Int)))).bind fun v42 =>
                cond ((decide (v42 < v41)))
                  (some (.inr (.inr (([], 3, v39.2.2)))))
                  ((some (IntKind.i64.wrap (s211 + v39.1))).bind fun v44 =>
                  bindS (S := ((List Int))) (A := (((List Int) × Int × (List Int) × Int × Int × (List Int)) ⊕ (((List Int) × Int × (List Int) × Int × Int × (List Int)) ⊕ ((List Int) × Int × T_grow_stream))))
                    (loopF (rwI v44 s210) BIG (ls, 0))
                    (fun (s239 : (List Int)) =>
                      some (.inl (v39.2.2.b, v39.2.2.at_, v39.2.2.out, v39.2.2.most, v39.2.2.blocks, s239))) some))) some) = some (.inl (b, (x'.1.1 : Int), x'.1.2.1, (M : Int), x'.1.2.2, x'.2))) ∨
            (∃ y : List Int × Option Int × Cs, (c.1 ≤ y.2.2.1 ∧ y.2.2.1 ≤ 8 * b.length ∧ y.2.2.2 = c.2 ∧ (y.2.1 = none → y.1.length = n) ∧ ∀ e, y.2.1 = some e → e ≠ 0) ∧ ∀ M : Nat, (bindS (S := Int × Int × Int) (A := (((List Int) × Int × (List Int) × Int × Int × (List Int)) ⊕ (((List Int) × Int × (List Int) × Int × Int × (List Int)) ⊕ ((List Int) × Int × T_grow_stream)))) (D M) (fun ((s210, s211, s212) : Int × Int × Int) =>
              (grow_stream_number (mkS b M (p', x1.2)) s212).bind fun v39 =>
              cond ((v39.2.1 != 0))
                (some (.inr (.inr (([], v39.2.1, v39.2.2)))))
                ((some (IntKind.i64.wrap (s211 + v39.1))).bind fun v41 =>
                (some (IntKind.i64.wrap ((n : Int) - (ls.length : Int)))).bind fun v42 =>
                cond ((decide (v42 < v41)))
                  (some (.inr (.inr (([], 3, v39.2.2)))))
                  ((some (IntKind.i64.wrap (s211 + v39.1))).bind fun v44 =>
                  bindS (S := ((List Int))) (A := (((List Int) × Int × (List Int) × Int × Int × (List Int)) ⊕ (((List Int) × Int × (List Int) × Int × Int × (List Int)) ⊕ ((List Int) × Int × T_grow_stream))))
                    (loopF (rwI v44 s210) BIG (ls, 0))
                    (fun (s239 : (List Int)) =>
                      some (.inl (v39.2.2.b, v39.2.2.at_, v39.2.2.out, v39.2.2.most, v39.2.2.blocks, s239))) some))) some) = some (.inr (rlO b M y))) := by
          intro vl least more hl1 hm1 D hD
          rcases num_u hbl (p', x1.2) y3 more (by omega) with ⟨u, u1, _, u3, u4⟩ | u
          · have w1 : some (IntKind.i64.wrap ((least : Int) + (u : Int))) = some ((least + u : Nat) : Int) := by rw [wrap_i64 (by omega) (by omega)]; simp
            have w2 : some (IntKind.i64.wrap ((n : Int) - (ls.length : Int))) = some ((n - ls.length : Nat) : Int) := by rw [wrap_i64 (by omega) (by omega)]; congr 1; omega
            by_cases hgt : n - ls.length < least + u
            · right
              exact ⟨([], some 3, (p' + more, x1.2)), ⟨by dsimp only; omega, u3, a3, fun h => by (cases h), fun e he => by (cases he; omega)⟩, fun M => bndL (hD M) (bnd (u4 M) (cnd_f rfl (bnd w1 (bnd w2 (cnd_t (decide_eq_true (by omega)) rfl)))))⟩
            · left
              exact ⟨((p' + more, x1.2), ls ++ List.replicate (least + u) vl), ⟨by dsimp only; omega, u3, a3, by simp; omega⟩, by dsimp only; omega, fun M => bndL (hD M) (bnd (u4 M) (cnd_f rfl (bnd w1 (bnd w2 (cnd_f (decide_eq_false (by omega)) (bnd w1 (bndL (app_k _ vl ls (by omega) (by omega)) rfl)))))))⟩
          · right
            exact ⟨([], some 3, (p', x1.2)), ⟨by dsimp only; omega, y3, a3, fun h => by (cases h), fun e he => by (cases he; omega)⟩, fun M => bndL (hD M) (bnd (u M) (cnd_t rfl rfl))⟩
        by_cases x16 : x = 16
        · by_cases hl0 : ls.length = 0
          · right
            refine ⟨([], some 3, (p', x1.2)), ⟨by dsimp only; omega, y3, a3, fun h => by (cases h), fun e he => by (cases he; omega)⟩, fun M => ?_⟩
            exact cnd_t (decide_eq_true (by omega)) (bnd (y4 M) (cnd_f rfl (bndR (bndR (cnd_t (by simp [x16]) (cnd_t (by simp [hl0]) rfl)) rfl) rfl)))
          · have w3 : some (IntKind.i64.wrap ((ls.length : Int) - 1)) = some ((ls.length - 1 : Nat) : Int) := by rw [wrap_i64 (by omega) (by omega)]; congr 1; omega
            have hg : getO ls (ls.length - 1) = some (ls[ls.length - 1]'(by omega)) := by simp only [getO]; rw [List.getElem?_eq_getElem (by omega)]
            have hD : ∀ M : Nat, bindS (S := Int × Int × Int) (A := ((Int × Int × Int) ⊕ (((List Int) × Int × (List Int) × Int × Int × (List Int)) ⊕ (((List Int) × Int × (List Int) × Int × Int × (List Int)) ⊕ ((List Int) × Int × T_grow_stream))))) (cond (((x : Int) == 16))
                (cond (((ls.length : Int) == 0))
                  (some (.inr (.inr (.inr (.inr (([], 3, mkS b M (p', x1.2))))))))
                  ((some (IntKind.i64.wrap ((ls.length : Int) - 1))).bind fun v6 =>
                  (ixO v6 ls.length).bind fun v72 =>
                  (getO ls v72).bind fun v73 =>
                  some (.inl (v73, 3, 2))))
                (cond (((x : Int) == 17))
                  (some (.inl (0, 3, 3)))
                  (cond (((x : Int) == 18))
                    (some (.inl (0, 11, 7)))
                    (some (.inl ((x : Int), 1, 0)))))) (fun ((s220, s221, s222) : Int × Int × Int) => some (.inl (s220, s221, s222))) some = some (.inl (ls[ls.length - 1]'(by omega), ((3 : Nat) : Int), ((2 : Nat) : Int))) := fun M =>
              bndL (cnd_t (by simp [x16]) (cnd_f (by simp only [beq_eq_false_iff_ne, ne_eq]; omega) (bnd w3 (bnd (ixO_of (by omega)) (bnd hg rfl))))) rfl
            rcases rest _ 3 2 (by omega) (by omega) hD with ⟨x', k1, k2, k3⟩ | ⟨y, k1, k2⟩
            · exact .inl ⟨x', k1, k2, fun M => cnd_t (decide_eq_true (by omega)) (bnd (y4 M) (cnd_f rfl (k3 M)))⟩
            · exact .inr ⟨y, k1, fun M => cnd_t (decide_eq_true (by omega)) (bnd (y4 M) (cnd_f rfl (k2 M)))⟩
        · have hany : ∃ (vl : Int) (least more : Nat), least ≤ 11 ∧ more ≤ 7 ∧ ∀ M : Nat, bindS (S := Int × Int × Int) (A := ((Int × Int × Int) ⊕ (((List Int) × Int × (List Int) × Int × Int × (List Int)) ⊕ (((List Int) × Int × (List Int) × Int × Int × (List Int)) ⊕ ((List Int) × Int × T_grow_stream))))) (cond (((x : Int) == 16))
                (cond (((ls.length : Int) == 0))
                  (some (.inr (.inr (.inr (.inr (([], 3, mkS b M (p', x1.2))))))))
                  ((some (IntKind.i64.wrap ((ls.length : Int) - 1))).bind fun v6 =>
                  (ixO v6 ls.length).bind fun v72 =>
                  (getO ls v72).bind fun v73 =>
                  some (.inl (v73, 3, 2))))
                (cond (((x : Int) == 17))
                  (some (.inl (0, 3, 3)))
                  (cond (((x : Int) == 18))
                    (some (.inl (0, 11, 7)))
                    (some (.inl ((x : Int), 1, 0)))))) (fun ((s220, s221, s222) : Int × Int × Int) => some (.inl (s220, s221, s222))) some = some (.inl (vl, (least : Int), (more : Int))) := by
            have n16 : ((x : Int) == 16) = false := by simp only [beq_eq_false_iff_ne, ne_eq]; omega
            by_cases x17 : x = 17
            · exact ⟨0, 3, 3, by omega, by omega, fun M => bndL (cnd_f n16 (cnd_t (by simp [x17]) rfl)) rfl⟩
            · have n17 : ((x : Int) == 17) = false := by simp only [beq_eq_false_iff_ne, ne_eq]; omega
              by_cases x18 : x = 18
              · exact ⟨0, 11, 7, by omega, by omega, fun M => bndL (cnd_f n16 (cnd_f n17 (cnd_t (by simp [x18]) rfl))) rfl⟩
              · have n18 : ((x : Int) == 18) = false := by simp only [beq_eq_false_iff_ne, ne_eq]; omega
                exact ⟨(x : Int), 1, 0, by omega, by omega, fun M => bndL (cnd_f n16 (cnd_f n17 (cnd_f n18 rfl))) rfl⟩
          obtain ⟨vl, least, more, m1, m2, hD⟩ := hany
          rcases rest vl least more m1 m2 hD with ⟨x', k1, k2, k3⟩ | ⟨y, k1, k2⟩
          · exact .inl ⟨x', k1, k2, fun M => cnd_t (decide_eq_true (by omega)) (bnd (y4 M) (cnd_f rfl (k3 M)))⟩
          · exact .inr ⟨y, k1, fun M => cnd_t (decide_eq_true (by omega)) (bnd (y4 M) (cnd_f rfl (k2 M)))⟩
      · right
        exact ⟨([], some e, x1), ⟨a1, a2, a3, fun h => by (cases h), fun e' h => by cases h; exact he⟩, fun M => cnd_t (decide_eq_true (by omega)) (bnd (y M) (cnd_t (by simpa using he) rfl))⟩
    · right
      exact ⟨(ls, none, x1), ⟨a1, a2, a3, fun _ => by dsimp only; omega, fun e h => by (cases h)⟩, fun M => cnd_f (decide_eq_false (by omega)) rfl⟩
end Go.Abs.Sh
