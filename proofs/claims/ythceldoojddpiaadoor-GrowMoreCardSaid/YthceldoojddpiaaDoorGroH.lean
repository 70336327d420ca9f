import Derived.Test.YthceldoojddpiaaDoorGroG
namespace Go.Abs.Sh
set_option linter.unusedVariables false
set_option linter.unusedSimpArgs false
set_option maxRecDepth 100000
theorem r2_back {b : List Int} {M M' : Nat} {c c0 : Cs} {f g : T_grow_stream → Option (Int × T_grow_stream)} (h0 : c.1 ≤ c0.1) (h : R2 b M M' c0 f) (hg : ∀ K, g (mkS b K c) = (f (mkS b K c0)).bind fun v => some (v.1, v.2)) : R2 b M M' c g := by
  obtain ⟨e, c', r1, r2, r3, r4, r5⟩ := h
  exact ⟨e, c', by omega, r2, r3, (hg M).trans (bnd r4 rfl), r5.imp id fun r5 => (hg M').trans (bnd r5 rfl)⟩
theorem dyn_r {b : List Int} (hbl : b.length ≤ 1500) {M M' : Nat} (hM : M ≤ M') (hM4 : M' ≤ 4096) (c : Cs) (hp : c.1 ≤ 8 * b.length) (ho : c.2.1.length ≤ M) : R2 b M M' c grow_stream_dynamic := by
  rcases num_u hbl c hp 5 (by omega) with ⟨u, u1, _, u3, u4⟩ | u
  case inr => exact ⟨3, c, Nat.le_refl _, hp, ho, bnd (u M) (cnd_t rfl rfl), .inr (bnd (u M') (cnd_t rfl rfl))⟩
  rcases num_u hbl (c.1 + 5, c.2) u3 5 (by omega) with ⟨v, v1, _, v3, v4⟩ | v
  case inr => exact ⟨3, (c.1 + 5, c.2), by dsimp only; omega, u3, ho, bnd (u4 M) (cnd_f rfl (bnd (v M) (cnd_t rfl rfl))), .inr (bnd (u4 M') (cnd_f rfl (bnd (v M') (cnd_t rfl rfl))))⟩
  dsimp only at v3
  have w5 : some (IntKind.i64.wrap ((u : Int) + 257)) = some ((u + 257 : Nat) : Int) := by rw [wrap_i64 (by omega) (by omega)]; simp
  have w6 : some (IntKind.i64.wrap ((v : Int) + 1)) = some ((v + 1 : Nat) : Int) := congrArg some (wrap_succ (by omega))
  by_cases hb1 : 286 < u + 257
  · exact ⟨3, (c.1 + 5 + 5, c.2), by dsimp only; omega, v3, ho, bnd (u4 M) (cnd_f rfl (bnd (v4 M) (cnd_f rfl (bnd w5 (bnd w6 (bndL (s := true) (cnd_t (decide_eq_true (by omega)) rfl) (cnd_t rfl rfl))))))), .inr (bnd (u4 M') (cnd_f rfl (bnd (v4 M') (cnd_f rfl (bnd w5 (bnd w6 (bndL (s := true) (cnd_t (decide_eq_true (by omega)) rfl) (cnd_t rfl rfl))))))))⟩
  by_cases hb2 : 30 < v + 1
  · exact ⟨3, (c.1 + 5 + 5, c.2), by dsimp only; omega, v3, ho, bnd (u4 M) (cnd_f rfl (bnd (v4 M) (cnd_f rfl (bnd w5 (bnd w6 (bndL (s := true) (cnd_f (decide_eq_false (by omega)) (by rw [decide_eq_true (by omega)])) (cnd_t rfl rfl))))))), .inr (bnd (u4 M') (cnd_f rfl (bnd (v4 M') (cnd_f rfl (bnd w5 (bnd w6 (bndL (s := true) (cnd_f (decide_eq_false (by omega)) (by rw [decide_eq_true (by omega)])) (cnd_t rfl rfl))))))))⟩
  -- what stands behind the two counts
  have pre : ∀ K, ∀ {R : Option (Int × T_grow_stream)}, ((grow_stream_rowLengths (mkS b K (c.1 + 5 + 5, c.2))).bind fun v12 =>
            cond ((v12.2.1 != 0))
              (some ((v12.2.1, v12.2.2)))
              ((some (IntKind.i64.wrap (((u + 257 : Nat) : Int) + ((v + 1 : Nat) : Int)))).bind fun v14 =>
              (grow_stream_row v12.2.2 v12.1 v14).bind fun v15 =>
              cond ((v15.2.1 != 0))
                (some ((v15.2.1, v15.2.2)))
                (bindS (S := Bool) (A := (Int × T_grow_stream))
                  ((sliO v15.1 0 ((u + 257 : Nat) : Int)).bind fun v17 =>
                  (canon_Check v17).bind fun v18 =>
                  cond ((v18 != 0))
                    (some (.inl true))
                    ((sliO v15.1 ((u + 257 : Nat) : Int) (v15.1.length : Int)).bind fun v19 =>
                    (canon_Check v19).bind fun v20 =>
                    cond ((v20 != 0))
                      (some (.inl true))
                      ((ixO 256 v15.1.length).bind fun v21 =>
                      (getO v15.1 v21).bind fun v22 =>
                      some (.inl (v22 == 0)))))
                  (fun (s23 : Bool) =>
                    cond (s23)
                      (some ((3, v15.2.2)))
                      ((sliO v15.1 0 ((u + 257 : Nat) : Int)).bind fun v28 =>
                      (sliO v15.1 ((u + 257 : Nat) : Int) (v15.1.length : Int)).bind fun v29 =>
                      (grow_stream_tokens v15.2.2 v28 v29).bind fun v30 =>
                      some ((v30.1, v30.2)))) some))) = R → grow_stream_dynamic (mkS b K c) = R := fun K R h =>
    bnd (u4 K) (cnd_f rfl (bnd (v4 K) (cnd_f rfl (bnd w5 (bnd w6 (bndL (s := false) (cnd_f (decide_eq_false (by omega)) (by rw [decide_eq_false (by omega)])) (cnd_f rfl h)))))))
  obtain ⟨l1, e1, c1, r1, r2, r3, r4, r5⟩ := rowLens_u hbl (c.1 + 5 + 5, c.2) v3
  dsimp only at r2 r4
  have ho1 : c1.2.1.length ≤ M := by rw [r4]; exact ho
  by_cases he1 : e1 = 0
  case neg =>
    have hne : (e1 != 0) = true := by simpa using he1
    exact ⟨e1, c1, by omega, r3, ho1, pre M (bnd (r5 M) (cnd_t hne rfl)), .inr (pre M' (bnd (r5 M') (cnd_t hne rfl)))⟩
  subst he1
  have w14 : some (IntKind.i64.wrap (((u + 257 : Nat) : Int) + ((v + 1 : Nat) : Int))) = some ((u + 257 + (v + 1) : Nat) : Int) := by rw [wrap_i64 (by omega) (by omega)]; simp
  obtain ⟨l2, e2, c2, t0, t2, t3, t4, t5⟩ := row_u hbl c1 r3 l1 r1 (u + 257 + (v + 1)) (by omega)
  have ho2 : c2.2.1.length ≤ M := by rw [t4]; exact ho1
  by_cases he2 : e2 = 0
  case neg =>
    have hne : (e2 != 0) = true := by simpa using he2
    exact ⟨e2, c2, by omega, t3, ho2, pre M (bnd (r5 M) (cnd_f rfl (bnd w14 (bnd (t5 M) (cnd_t hne rfl))))), .inr (pre M' (bnd (r5 M') (cnd_f rfl (bnd w14 (bnd (t5 M') (cnd_t hne rfl))))))⟩
  subst he2
  have hlen := t0 rfl
  have hs1 := sli_nat l2 (a := 0) (b := u + 257) (by omega) (by omega)
  have hs2 := sli_nat l2 (a := u + 257) (b := l2.length) (by omega) (Nat.le_refl _)
  rw [List.drop_zero, Nat.sub_zero] at hs1
  obtain ⟨A, hA⟩ : ∃ A, A = l2.take (u + 257) := ⟨_, rfl⟩
  obtain ⟨B, hB⟩ : ∃ B, B = (l2.drop (u + 257)).take (l2.length - (u + 257)) := ⟨_, rfl⟩
  rw [← hA] at hs1; rw [← hB] at hs2
  have hAl : A.length ≤ 1000 := by rw [hA, List.length_take]; omega
  have hBl : B.length ≤ 1000 := by rw [hB, List.length_take, List.length_drop]; omega
  have h256 : 256 < l2.length := by omega
  have hck : ∃ w : Bool, ∀ {Z : Type}, ((sliO l2 0 ((u + 257 : Nat) : Int)).bind fun v17 =>
                  (canon_Check v17).bind fun v18 =>
                  cond ((v18 != 0))
                    (some ((.inl true) : Bool ⊕ Z))
                    ((sliO l2 ((u + 257 : Nat) : Int) (l2.length : Int)).bind fun v19 =>
                    (canon_Check v19).bind fun v20 =>
                    cond ((v20 != 0))
                      (some (.inl true))
                      ((ixO 256 l2.length).bind fun v21 =>
                      (getO l2 v21).bind fun v22 =>
                      some (.inl (v22 == 0))))) = some (.inl w) := by
    have k1 := check_eq2 A hAl
    have k2 := check_eq2 B hBl
    by_cases hA0 : err A = 0
    · by_cases hB0 : err B = 0
      · exact ⟨(l2[256] == 0), fun {Z} => bnd hs1 (bnd k1 (cnd_f (by simp [hA0]) (bnd hs2 (bnd k2 (cnd_f (by simp [hB0]) (bnd (ixO_of h256) (bnd (by simp only [getO]; rw [List.getElem?_eq_getElem h256] : getO l2 256 = some l2[256]) rfl)))))))⟩
      · exact ⟨true, fun {Z} => bnd hs1 (bnd k1 (cnd_f (by simp [hA0]) (bnd hs2 (bnd k2 (cnd_t (by simpa using hB0) rfl)))))⟩
    · exact ⟨true, fun {Z} => bnd hs1 (bnd k1 (cnd_t (by simpa using hA0) rfl))⟩
  obtain ⟨w, hw⟩ := hck
  cases w
  case true =>
    exact ⟨3, c2, by omega, t3, ho2, pre M (bnd (r5 M) (cnd_f rfl (bnd w14 (bnd (t5 M) (cnd_f rfl (bndL hw (cnd_t rfl rfl))))))), .inr (pre M' (bnd (r5 M') (cnd_f rfl (bnd w14 (bnd (t5 M') (cnd_f rfl (bndL hw (cnd_t rfl rfl))))))))⟩
  refine r2_back (by omega) (tok_r hbl hM hM4 c2 t3 ho2 A B hAl hBl) (fun K => ?_)
  exact pre K (bnd (r5 K) (cnd_f rfl (bnd w14 (bnd (t5 K) (cnd_f rfl (bndL hw (cnd_f rfl (bnd hs1 (bnd hs2 rfl)))))))))
theorem fix_all : (match sym_Fixed with | some (a, b) => decide (a.length ≤ 1000 ∧ b.length ≤ 1000) | none => false) = true := by kernel_rfl
theorem fix_at : ∃ a b : List Int, a.length ≤ 1000 ∧ b.length ≤ 1000 ∧ sym_Fixed = some (a, b) := by
  have := fix_all
  cases hg : sym_Fixed with
  | none => rw [hg] at this; simp at this
  | some v =>
    obtain ⟨a, b⟩ := v
    rw [hg] at this
    have := of_decide_eq_true this
    exact ⟨a, b, this.1, this.2, rfl⟩
theorem block_r {b : List Int} (hbl : b.length ≤ 1500) {M M' : Nat} (hM : M ≤ M') (hM4 : M' ≤ 4096) (c : Cs) (hp : c.1 ≤ 8 * b.length) (ho : c.2.1.length ≤ M) :
    ∃ (la : Bool) (e : Int) (c' : Cs), (e = 0 → c.1 < c'.1) ∧ c.1 ≤ c'.1 ∧ c'.1 ≤ 8 * b.length ∧ c'.2.1.length ≤ M ∧ grow_stream_block (mkS b M c) = some (la, e, mkS b M c') ∧ (e = 2 ∨ grow_stream_block (mkS b M' c) = some (la, e, mkS b M' c')) := by
  rcases num_u hbl c hp 1 (by omega) with ⟨u, u1, _, u3, u4⟩ | u
  case inr => exact ⟨false, 3, c, by omega, Nat.le_refl _, hp, ho, bnd (u M) (cnd_t rfl rfl), .inr (bnd (u M') (cnd_t rfl rfl))⟩
  rcases num_u hbl (c.1 + 1, c.2) u3 2 (by omega) with ⟨v, v1, _, v3, v4⟩ | v
  case inr => exact ⟨false, 3, (c.1 + 1, c.2), by omega, by dsimp only; omega, u3, ho, bnd (u4 M) (cnd_f rfl (bnd (v M) (cnd_t rfl rfl))), .inr (bnd (u4 M') (cnd_f rfl (bnd (v M') (cnd_t rfl rfl))))⟩
  dsimp only at v3
  obtain ⟨fa, fb, f1, f2, f3⟩ := fix_at
  have key : ∀ {f : T_grow_stream → Option (Int × T_grow_stream)}, R2 b M M' (c.1 + 1 + 2, c.2) f → (∀ K, (cond (((v : Int) == 0))
            ((grow_stream_stored (mkS b K (c.1 + 1 + 2, c.2))).bind fun v6 =>
            some ((.inl (v6.2.b, v6.2.at_, v6.2.out, v6.2.most, v6.2.blocks, v6.1)) : (List Int × Int × List Int × Int × Int × Int) ⊕ (((List Int) × Int × (List Int) × Int × Int × Int) ⊕ (Bool × Int × T_grow_stream))))
            (cond (((v : Int) == 1))
              ((sym_Fixed ).bind fun v8 =>
              (grow_stream_tokens (mkS b K (c.1 + 1 + 2, c.2)) v8.1 v8.2).bind fun v9 =>
              some (.inl (v9.2.b, v9.2.at_, v9.2.out, v9.2.most, v9.2.blocks, v9.1)))
              (cond (((v : Int) == 2))
                ((grow_stream_dynamic (mkS b K (c.1 + 1 + 2, c.2))).bind fun v19 =>
                some (.inl (v19.2.b, v19.2.at_, v19.2.out, v19.2.most, v19.2.blocks, v19.1)))
                (some (.inl (b, ((c.1 + 1 + 2 : Nat) : Int), c.2.1, (K : Int), c.2.2, 3)))))) = (f (mkS b K (c.1 + 1 + 2, c.2))).bind fun v6 => some (.inl (v6.2.b, v6.2.at_, v6.2.out, v6.2.most, v6.2.blocks, v6.1))) →
      ∃ (la : Bool) (e : Int) (c' : Cs), (e = 0 → c.1 < c'.1) ∧ c.1 ≤ c'.1 ∧ c'.1 ≤ 8 * b.length ∧ c'.2.1.length ≤ M ∧ grow_stream_block (mkS b M c) = some (la, e, mkS b M c') ∧ (e = 2 ∨ grow_stream_block (mkS b M' c) = some (la, e, mkS b M' c')) := by
    intro f hR hf
    obtain ⟨e, c', r1, r2, r3, r4, r5⟩ := hR
    dsimp only at r1
    refine ⟨(u : Int) == 1, e, c', fun _ => by omega, by omega, r2, r3, bnd (u4 M) (cnd_f rfl (bnd (v4 M) (cnd_f rfl (bndL (bndL ((hf M).trans (bnd r4 rfl)) rfl) rfl)))), r5.imp id fun r5 => bnd (u4 M') (cnd_f rfl (bnd (v4 M') (cnd_f rfl (bndL (bndL ((hf M').trans (bnd r5 rfl)) rfl) rfl))))⟩
  by_cases h0 : v = 0
  · exact key (stored_r hbl hM hM4 _ v3 ho) (fun K => cnd_t (by simp [h0]) rfl)
  have n0 : ((v : Int) == 0) = false := by simp only [beq_eq_false_iff_ne, ne_eq]; omega
  by_cases h1 : v = 1
  · exact key (tok_r hbl hM hM4 (c.1 + 1 + 2, c.2) v3 ho fa fb f1 f2) (fun K => cnd_f n0 (cnd_t (by simp [h1]) (bnd f3 rfl)))
  have n1 : ((v : Int) == 1) = false := by simp only [beq_eq_false_iff_ne, ne_eq]; omega
  by_cases h2 : v = 2
  · exact key (dyn_r hbl hM hM4 _ v3 ho) (fun K => cnd_f n0 (cnd_f n1 (cnd_t (by simp [h2]) rfl)))
  have n2 : ((v : Int) == 2) = false := by simp only [beq_eq_false_iff_ne, ne_eq]; omega
  exact key (f := fun s => some (3, s)) ⟨3, (c.1 + 1 + 2, c.2), Nat.le_refl _, v3, ho, rfl, .inr rfl⟩ (fun K => cnd_f n0 (cnd_f n1 (cnd_f n2 rfl)))
def rdO (b : List Int) (M : Nat) (y : Option Int × Cs) : ((List Int) × Int × (List Int) × Int × Int) ⊕ ((Option T_grow_stream) × Int) := match y.1 with
  | none => .inl (b, (y.2.1 : Int), y.2.2.1, (M : Int), y.2.2.2)
  | some e => .inr (none, e)
theorem read_r {b : List Int} (hbl : b.length ≤ 1500) {M M' : Nat} (hM : M ≤ M') (hM4 : M' ≤ 4096) : ∃ (e : Int) (out : List Int), out.length ≤ M ∧ grow_Grow b (M : Int) = some (if e = 0 then (out, 0) else ([], e)) ∧ (e = 2 ∨ grow_Grow b (M' : Int) = some (if e = 0 then (out, 0) else ([], e))) := by
  have h := loop2 (F := rdS) (X := Cs × Bool) (Y := Option Int × Cs) (σ := fun x => (b, (x.1.1 : Int), x.1.2.1, (M : Int), x.1.2.2, x.2)) (τ := fun x => (b, (x.1.1 : Int), x.1.2.1, (M' : Int), x.1.2.2, x.2)) (ω := rdO b M) (π := rdO b M') (V := fun x => x.1.1 ≤ 8 * b.length ∧ x.1.2.1.length ≤ M) (G := fun y => y.2.1 ≤ 8 * b.length ∧ y.2.2.1.length ≤ M ∧ ∀ e, y.1 = some e → e ≠ 0) (Bad := fun y => y.1 = some 2) (fun x => 8 * b.length - x.1.1) (fun x hx => ?_) BIG ((0, [], 0), false) ⟨by simp, by simp⟩ (by simp only [BIG]; omega)
  · obtain ⟨y, ⟨g1, g2, g3⟩, h1, h2⟩ := h
    obtain ⟨oe, c'⟩ := y
    have pre : ∀ K : Nat, K ≤ 4096 → ∀ {R : Option ((Option T_grow_stream) × Int)}, bindS (S := ((List Int) × Int × (List Int) × Int × Int)) (A := ((Option T_grow_stream) × Int)) (loopF rdS BIG (b, 0, [], (K : Int), 0, false))
            (fun ((s26, s27, s28, s29, s30) : (List Int) × Int × (List Int) × Int × Int) =>
              (grow_stream_end (T_grow_stream.mk s26 s27 s28 s29 s30)).bind fun v39 =>
              some ((some v39.2, v39.1))) some = R → grow_read_sh b (K : Int) = R := fun K hK R hR =>
      bndL (s := false) (cnd_f (decide_eq_false (by omega)) (by rw [decide_eq_false (by omega)])) (cnd_f rfl (cnd_f (decide_eq_false (by omega)) hR))
    cases oe with
    | some e =>
      have he := g3 e rfl
      have hne : (e != 0) = true := by simpa using he
      have fin : ∀ K : Nat, K ≤ 4096 → loopF rdS BIG (b, 0, [], (K : Int), 0, false) = some (.inr (none, e)) → grow_Grow b (K : Int) = some ([], e) := fun K hK h => bnd (pre K hK (bndR h rfl)) (cnd_t hne rfl)
      refine ⟨e, [], by simp, ?_, h2.imp (fun h => by simpa using h) fun h2 => ?_⟩
      · rw [if_neg he]; exact fin M (by omega) h1
      · rw [if_neg he]; exact fin M' hM4 h2
    | none =>
      have h2 := h2.resolve_left (by simp)
      dsimp only at g1 g2
      have hend : ∃ (e : Int) (c2 : Cs), c2.2 = c'.2 ∧ ∀ K, grow_stream_end (mkS b K c') = some (e, mkS b K c2) := by
        have w1 : some (IntKind.i64.wrap (8 * (b.length : Int))) = some ((8 * b.length : Nat) : Int) := by rw [wrap_i64 (by omega) (by omega)]; simp
        have w2 : some (IntKind.i64.wrap (((8 * b.length : Nat) : Int) - (c'.1 : Int))) = some ((8 * b.length - c'.1 : Nat) : Int) := by rw [wrap_i64 (by omega) (by omega)]; congr 1; omega
        by_cases h8 : 8 ≤ 8 * b.length - c'.1
        · exact ⟨3, c', rfl, fun K => bnd w1 (bnd w2 (cnd_t (decide_eq_true (by omega)) rfl))⟩
        · obtain ⟨e, c2, _, _, p3, p4⟩ := pad_u hbl c' g1
          exact ⟨e, c2, p3, fun K => bnd w1 (bnd w2 (cnd_f (decide_eq_false (by omega)) (bnd (p4 K) rfl)))⟩
      obtain ⟨e, c2, k1, k2⟩ := hend
      have fin : ∀ K : Nat, K ≤ 4096 → loopF rdS BIG (b, 0, [], (K : Int), 0, false) = some (rdO b K (none, c')) → grow_Grow b (K : Int) = some (if e = 0 then (c2.2.1, 0) else ([], e)) := fun K hK h => by
        refine bnd (pre K hK (bndL h (bnd (k2 K) rfl))) ?_
        by_cases he : e = 0
        · rw [if_pos he]; subst he; rfl
        · rw [if_neg he]; exact cnd_t (by simpa using he) rfl
      exact ⟨e, c2.2.1, by rw [k1]; exact g2, fin M (by omega) h1, .inr (fin M' hM4 h2)⟩
  · obtain ⟨x1, la⟩ := x
    obtain ⟨a1, a2⟩ := hx
    dsimp only at a1 a2 ⊢
    cases la
    · obtain ⟨la, e, c', r0, r1, r2, r3, r4, r5⟩ := block_r hbl hM hM4 x1 a1 a2
      by_cases he : e = 0
      · subst he
        have r5 := r5.resolve_left (by omega)
        have r0 := r0 rfl
        left
        exact ⟨((c'.1, c'.2.1, IntKind.i64.wrap (c'.2.2 + 1)), la), ⟨r2, r3⟩, by dsimp only; omega, by unfold rdS; exact bnd r4 (cnd_f rfl (bnd rfl rfl)), by unfold rdS; exact bnd r5 (cnd_f rfl (bnd rfl rfl))⟩
      · right
        have hne : (e != 0) = true := by simpa using he
        exact ⟨(some e, c'), ⟨r2, r3, fun e' h => by cases h; exact he⟩, by unfold rdS; exact bnd r4 (cnd_t hne rfl), r5.imp (fun h => by rw [h]) fun r5 => by unfold rdS; exact bnd r5 (cnd_t hne rfl)⟩
    · right
      exact ⟨(none, x1), ⟨a1, a2, fun e h => by cases h⟩, by unfold rdS; rfl, .inr (by unfold rdS; rfl)⟩
theorem u64_mod (z : Int) (n : Nat) (h0 : 0 < n) : ∃ q : Nat, q < n ∧ remO (IntKind.u64.wrap z) (n : Int) = some (q : Int) := by
  have h : IntKind.u64.wrap z = ((z % 18446744073709551616).toNat : Int) := by
    simp only [IntKind.wrap, IntKind.bits, IntKind.signed]
    have e : (2 : Int) ^ 64 = 18446744073709551616 := by decide
    simp only [e, Bool.false_and, Bool.false_eq_true, if_false]
    omega
  rw [h]
  exact ⟨_, Nat.mod_lt _ h0, rem_nat _ n h0⟩
theorem gro_wakes : wherrylaw07_wakes = some true := by kernel_rfl
theorem growMore_true (b : List Int) (n more : Int) : wherrylaw07_GrowMore b n more = some true := by
  unfold wherrylaw07_GrowMore
  by_cases hb : 1500 < b.length
  · exact cnd_t (decide_eq_true (by omega)) rfl
  obtain ⟨q, hq, h1⟩ := u64_mod n 4097 (by omega)
  obtain ⟨p, hp, h2⟩ := u64_mod more 4097 (by omega)
  have hmax : (some (if (p : Int) > (q : Int) then (p : Int) else (q : Int)) : Option Int) = some ((max q p : Nat) : Int) := by
    by_cases h : p > q
    · rw [if_pos (by omega), Nat.max_eq_right (by omega)]
    · rw [if_neg (by omega), Nat.max_eq_left (by omega)]
  have hqp : q ≤ max q p := Nat.le_max_left _ _
  have hm4 : max q p ≤ 4096 := Nat.max_le.2 ⟨by omega, by omega⟩
  obtain ⟨e, out, ho, g1, g2⟩ := read_r (b := b) (by omega) hqp hm4
  obtain ⟨e', out', ho', k1, _⟩ := read_r (b := b) (by omega) (Nat.le_refl (max q p)) hm4
  refine cnd_f (decide_eq_false (by omega)) (bnd rfl (bnd h1 (bnd (congrArg some (wrap_nat q (by omega))) (bnd rfl (bnd h2 (bnd (congrArg some (wrap_nat p (by omega))) (bnd g1 (bnd hmax (bnd k1 ?_)))))))))
  by_cases he : e = 0
  · subst he
    have g2 := g2.resolve_left (by omega)
    rw [g2] at k1
    rw [← Option.some.inj k1, if_pos rfl]
    exact cnd_t rfl (bndL (s := true) (cnd_t rfl (bnd (x := true) (by rw [keepBytes_eq _ _ (by dsimp only; omega)]; simp) (cnd_t rfl (cnd_t (decide_eq_true (by dsimp only; omega)) (bnd gro_wakes rfl))))) rfl)
  · rw [if_neg he]
    have hne : (e == 0) = false := beq_eq_false_iff_ne.2 he
    by_cases h2 : e = 2
    · exact cnd_f hne (bndL (s := true) (cnd_t rfl (cnd_t (beq_iff_eq.2 h2) (bnd gro_wakes rfl))) rfl)
    · have g2 := g2.resolve_left h2
      rw [g2] at k1
      rw [← Option.some.inj k1, if_neg he]
      exact cnd_f hne (bndL (s := true) (cnd_t rfl (cnd_f (beq_eq_false_iff_ne.2 h2) (cnd_t (beq_self_eq_true _) (bnd gro_wakes rfl)))) rfl)
end Go.Abs.Sh
