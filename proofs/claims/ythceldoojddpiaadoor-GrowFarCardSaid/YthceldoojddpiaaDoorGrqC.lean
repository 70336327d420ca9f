import Derived.Test.YthceldoojddpiaaDoorGrqB
import Derived.KernelRfl
namespace Go.Abs.Sh
set_option linter.unusedVariables false
set_option linter.unusedSimpArgs false
set_option maxRecDepth 10000
def ptS (v38 : List T_pair) : (((List Int) × Int × Int)) → Option (((List Int) × Int × Int) ⊕ (((List Int) × Int) ⊕ Bool)) := (fun ((s52, s53, s54) : (List Int) × Int × Int) =>
      cond ((decide (s54 < (v38.length : Int))))
        ((ixO s54 v38.length).bind fun v40 =>
        (getO v38 v40).bind fun v41 =>
        (ixO s54 v38.length).bind fun v42 =>
        (getO v38 v42).bind fun v43 =>
        (bits_Put (T_Bits.mk s52 s53) v41.a0 v43.a1).bind fun v44 =>
        cond ((v44.2 != 0))
          (some (.inr (.inr (false))))
          ((some (IntKind.i64.wrap (s54 + 1))).bind fun v46 =>
          some (.inl (v44.1.B, v44.1.N, v46))))
        (some (.inr (.inl (s52, s53)))))
def rpS (dist n : Int) : (((List Int) × Int)) → Option (((List Int) × Int) ⊕ (((List Int)) ⊕ (Int × T_grow_stream))) := (fun ((s13, s14) : (List Int) × Int) =>
      cond ((decide (s14 < n)))
        ((some (IntKind.i64.wrap ((s13.length : Int) - dist))).bind fun v5 =>
        (ixO v5 s13.length).bind fun v6 =>
        (getO s13 v6).bind fun v7 =>
        (appO 1 s13 [v7]).bind fun v8 =>
        (some (IntKind.i64.wrap (s14 + 1))).bind fun v9 =>
        some (.inl (v8, v9)))
        (some (.inr (.inl s13))))
def waS (v4 v8 : Int) : (((List Int) × Int)) → Option (((List Int) × Int) ⊕ (((List Int)) ⊕ Bool)) := (fun ((s84, s85) : (List Int) × Int) =>
            cond ((decide (s85 < v8)))
              ((some (IntKind.i64.wrap ((s84.length : Int) - v4))).bind fun v76 =>
              (ixO v76 s84.length).bind fun v77 =>
              (getO s84 v77).bind fun v78 =>
              (appO 1 s84 [v78]).bind fun v79 =>
              (some (IntKind.i64.wrap (s85 + 1))).bind fun v80 =>
              some (.inl (v79, v80)))
              (some (.inr (.inl s84))))
def tkS (lits dists : List Int) : (((List Int) × Int × (List Int) × Int × Int)) → Option (((List Int) × Int × (List Int) × Int × Int) ⊕ ((Unit) ⊕ (Int × T_grow_stream))) := (fun ((s39, s40, s41, s42, s43) : (List Int) × Int × (List Int) × Int × Int) =>
  (grow_stream_symbol (T_grow_stream.mk s39 s40 s41 s42 s43) lits).bind fun v1 =>
  cond ((v1.2.1 != 0))
    (some (.inr (.inr ((v1.2.1, v1.2.2)))))
    (bindS (S := (List Int) × Int × (List Int) × Int × Int × Int) (A := (((List Int) × Int × (List Int) × Int × Int) ⊕ ((Unit) ⊕ (Int × T_grow_stream))))
      (cond ((v1.1 == 256))
        (some (.inr (.inr (.inr ((0, v1.2.2))))))
        (cond ((decide (v1.1 < 256)))
          ((grow_stream_literal v1.2.2 v1.1).bind fun v5 =>
          some (.inl (v5.2.b, v5.2.at_, v5.2.out, v5.2.most, v5.2.blocks, v5.1)))
          ((grow_stream_match v1.2.2 v1.1 dists).bind fun v6 =>
          some (.inl (v6.2.b, v6.2.at_, v6.2.out, v6.2.most, v6.2.blocks, v6.1)))))
      (fun ((s68, s69, s70, s71, s72, s73) : (List Int) × Int × (List Int) × Int × Int × Int) =>
        cond ((s73 != 0))
          (some (.inr (.inr ((s73, (T_grow_stream.mk s68 s69 s70 s71 s72))))))
          (some (.inl (s68, s69, s70, s71, s72)))) some))
def prm (p : Nat × Nat) : T_pair := ⟨(p.1 : Int), (p.2 : Int)⟩
def Sp : List (Nat × Nat) → Nat → List Int → Prop
  | [], _, _ => True
  | p :: ps, N, B => (∀ t, t < p.2 → bitC B (N + t) = p.1.testBit t) ∧ Sp ps (N + p.2) B
def wid (ps : List (Nat × Nat)) : Nat := (ps.map (·.2)).sum
theorem pts (l : List T_pair) (hl : l.length ≤ 100) : ∀ (ps : List (Nat × Nat)) (i fuel N : Nat) (B : List Int), l.drop i = ps.map prm → ps.length < fuel → (∀ p ∈ ps, p.2 ≤ 24 ∧ p.1 < 2 ^ p.2) → N + 24 * ps.length ≤ 40000 → Good B N →
    ∃ B', loopF (ptS l) fuel (B, (N : Int), (i : Int)) = some (.inl (B', ((N + wid ps : Nat) : Int))) ∧ Good B' (N + wid ps) ∧ (∀ q, q < N → bitC B' q = bitC B q) ∧ Sp ps N B'
  | [], i, fuel, N, B, hd, hf, _, _, hG => by
    obtain ⟨fu, rfl⟩ : ∃ fu, fuel = fu + 1 := ⟨fuel - 1, by simp at hf; omega⟩
    have : l.length ≤ i := by have := congrArg List.length hd; simp at this; omega
    exact ⟨B, loop_exit (cnd_f (decide_eq_false (by omega)) rfl), hG, fun q _ => rfl, trivial⟩
  | p :: ps, i, fuel, N, B, hd, hf, hv, hN, hG => by
    obtain ⟨fu, rfl⟩ : ∃ fu, fuel = fu + 1 := ⟨fuel - 1, by simp at hf; omega⟩
    have hlen := congrArg List.length hd
    simp only [List.length_drop, List.map_cons, List.length_cons, List.length_map] at hlen
    simp only [List.length_cons] at hN hf
    have hi : i < l.length := by omega
    have hd2 := hd
    rw [List.drop_eq_getElem_cons hi, List.map_cons] at hd2
    obtain ⟨e1, e2⟩ := List.cons.inj hd2
    have hg : getO l i = some (prm p) := by rw [← e1]; simp [getO, hi]
    obtain ⟨p1, p2⟩ := hv p List.mem_cons_self
    obtain ⟨B1, b1, b2, b3, b4⟩ := put_eq hG p.1 p.2 p1 p2 (by omega)
    obtain ⟨B2, c1, c2, c3, c4⟩ := pts l hl ps (i + 1) fu (N + p.2) B1 e2 (by omega) (fun x hx => hv x (List.mem_cons_of_mem _ hx)) (by omega) b2
    have hw : N + wid (p :: ps) = N + p.2 + wid ps := by simp [wid]; omega
    rw [hw]
    refine ⟨B2, (loop_next (cnd_t (decide_eq_true (by omega)) (bnd (ixO_of hi) (bnd hg (bnd (ixO_of hi) (bnd hg (bnd b1 (cnd_f rfl (bnd (congrArg some (wrapS (n := i) (by omega))) rfl))))))))).trans c1, c2, fun q hq => (c3 q (by omega)).trans (b3 q hq), fun t ht => (c3 (N + t) (by omega)).trans (b4 t ht), c4⟩
/-! The fixed code. -/
def mL : List Nat := List.replicate 144 8 ++ (List.replicate 112 9 ++ (List.replicate 24 7 ++ List.replicate 8 8))
def mD : List Nat := List.replicate 32 5
theorem fixed_eq : sym_Fixed = some (ints mL, ints mD) := by kernel_rfl
theorem mL_ok : (mL.length = 288 ∧ ∀ x ∈ mL, x ≤ 15) := of_decide_eq_true (by kernel_rfl)
theorem mD_ok : (mD.length = 32 ∧ ∀ x ∈ mD, x ≤ 15) := of_decide_eq_true (by kernel_rfl)
theorem mL_forms : forms mL = true := by kernel_rfl
theorem mD_forms : forms mD = true := by kernel_rfl
theorem cd_lit : (List.range 128).all (fun j => decide (mL[j]? = some 8 ∧ code mL j = 48 + j)) = true := by kernel_rfl
theorem cd_len : (List.range 8).all (fun k => decide (mL[257 + k]? = some 7 ∧ code mL (257 + k) = k + 1)) = true := by kernel_rfl
theorem cd_end : mL[256]? = some 7 ∧ code mL 256 = 0 := of_decide_eq_true (by kernel_rfl)
theorem cd_dist : (List.range 4).all (fun j => decide (mD[j]? = some 5 ∧ code mD j = j)) = true := by kernel_rfl
theorem rd_of {m : List Nat} (hl : m.length ≤ 300) (hm : ∀ x ∈ m, x ≤ 15) (hf : forms m = true) {B : List Int} (hB : isB B) (hbl : B.length ≤ 1000) {j n cd : Nat} (h : m[j]? = some n ∧ code m j = cd) (hn : n ≠ 0) (P : Nat) (hP : P + n ≤ 8 * B.length)
    (hb : ∀ i, i < n → bitC B (P + i) = cd.testBit (n - 1 - i)) : canon_Read (ints m) B (P : Int) = some ((j : Int), ((P + n : Nat) : Int), 0) := by
  obtain ⟨h1, rfl⟩ := h
  obtain ⟨hj, hv⟩ := List.getElem?_eq_some_iff.1 h1
  subst hv
  exact read_code hl hm hf hB hbl hj hn P hP hb
/-! What a match copies. -/
def cpy (d : Nat) : List Int → Nat → List Int
  | b, 0 => b
  | b, k + 1 => cpy d (b ++ [b.getD (b.length - d) 0]) k
theorem rpS_loop {d n : Nat} (hd : 1 ≤ d) (hn : n ≤ 1000) : ∀ (k j fuel : Nat) (s : List Int), j + k = n → k < fuel → d ≤ s.length → s.length + k ≤ 10000 →
    loopF (rpS (d : Int) (n : Int)) fuel (s, (j : Int)) = some (.inl (cpy d s k))
  | 0, j, fuel, s, hL, hf, hs, hb => by
    obtain ⟨fu, rfl⟩ : ∃ fu, fuel = fu + 1 := ⟨fuel - 1, by omega⟩
    exact loop_exit (cnd_f (decide_eq_false (by omega)) rfl)
  | k + 1, j, fuel, s, hL, hf, hs, hb => by
    obtain ⟨fu, rfl⟩ : ∃ fu, fuel = fu + 1 := ⟨fuel - 1, by omega⟩
    have hlt : s.length - d < s.length := by omega
    have hw : IntKind.i64.wrap ((s.length : Int) - (d : Int)) = ((s.length - d : Nat) : Int) := by rw [wrap_i64 (by omega) (by omega)]; omega
    have hg : getO s (s.length - d) = some (s.getD (s.length - d) 0) := by
      rw [List.getD_eq_getElem?_getD, List.getElem?_eq_getElem hlt, Option.getD_some]; simp [getO, hlt]
    have ha : appO 1 s [s.getD (s.length - d) 0] = some (s ++ [s.getD (s.length - d) 0]) := by
      unfold appO; rw [if_pos (by simp only [List.length_cons, List.length_nil]; omega)]
    unfold cpy
    exact (loop_next (cnd_t (decide_eq_true (by omega)) (bnd (congrArg some hw) (bnd (ixO_of hlt) (bnd hg (bnd ha (bnd (congrArg some (wrapS (n := j) (by omega))) rfl))))))).trans (rpS_loop hd hn k (j + 1) fu _ (by omega) (by omega) (by simp; omega) (by simp; omega))
theorem waS_loop {d n : Nat} (hd : 1 ≤ d) (hn : n ≤ 1000) : ∀ (k j fuel : Nat) (s : List Int), j + k = n → k < fuel → d ≤ s.length → s.length + k ≤ 10000 →
    loopF (waS (d : Int) (n : Int)) fuel (s, (j : Int)) = some (.inl (cpy d s k))
  | 0, j, fuel, s, hL, hf, hs, hb => by
    obtain ⟨fu, rfl⟩ : ∃ fu, fuel = fu + 1 := ⟨fuel - 1, by omega⟩
    exact loop_exit (cnd_f (decide_eq_false (by omega)) rfl)
  | k + 1, j, fuel, s, hL, hf, hs, hb => by
    obtain ⟨fu, rfl⟩ : ∃ fu, fuel = fu + 1 := ⟨fuel - 1, by omega⟩
    have hlt : s.length - d < s.length := by omega
    have hw : IntKind.i64.wrap ((s.length : Int) - (d : Int)) = ((s.length - d : Nat) : Int) := by rw [wrap_i64 (by omega) (by omega)]; omega
    have hg : getO s (s.length - d) = some (s.getD (s.length - d) 0) := by
      rw [List.getD_eq_getElem?_getD, List.getElem?_eq_getElem hlt, Option.getD_some]; simp [getO, hlt]
    have ha : appO 1 s [s.getD (s.length - d) 0] = some (s ++ [s.getD (s.length - d) 0]) := by
      unfold appO; rw [if_pos (by simp only [List.length_cons, List.length_nil]; omega)]
    unfold cpy
    exact (loop_next (cnd_t (decide_eq_true (by omega)) (bnd (congrArg some hw) (bnd (ixO_of hlt) (bnd hg (bnd ha (bnd (congrArg some (wrapS (n := j) (by omega))) rfl))))))).trans (waS_loop hd hn k (j + 1) fu _ (by omega) (by omega) (by simp; omega) (by simp; omega))
end Go.Abs.Sh
