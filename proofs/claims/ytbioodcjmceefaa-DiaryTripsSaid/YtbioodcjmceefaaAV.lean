/-
  What came in, opened, with the form's own reach: each row and each text takes at most so many bytes.
-/
import Derived.Test.YtbioodcjmceefaaAU
import Derived.SizedLaws
namespace Go.Abs
open Go.WideShapes

def wzS (s : ByteArray) : Prop := s.size ≤ reachBytes
def wzL {A : Type} (b : Nat) (p : A → Prop) (l : List A) : Prop := l.length * b ≤ reachBytes ∧ ∀ x ∈ l, p x

def Heavy {H : Type} (P : Program) (t : TypeId) (d : DataW H) : Prop := ∀ n ∈ d.weights P t, n ≤ reachBytes

def CameZ {H : Type} (enc : TypeId × Value → H) (P : Program) (W : World) (sp : Nat → Bool) (hd : Bool) (t : TypeId) {A : Type} (ie : A → List IC) (wf : A → Prop) : Prop :=
  ∀ (fuel : Nat) (cs : List Value) (y : DataW H × List MemPlace), DataW.trod enc P W 0 sp hd fuel t cs = some y → Heavy P t y.1 → ∃ x : A, RIs (inW W) W true (ie x) cs ∧ (∀ u ∈ cs, u.oneCell' = true) ∧ wf x

section
variable {H : Type} {enc : TypeId × Value → H} {P : Program} {W : World} {sp : Nat → Bool} {hd : Bool} {t : TypeId}

theorem weightsAll_mem {e : TypeId} {d : DataW H} {n : Nat} (hn : n ∈ d.weights P e) : ∀ {ds : List (DataW H)}, d ∈ ds → n ∈ DataW.weightsAll P e ds
  | d0 :: ds, h => by
    simp only [DataW.weightsAll, List.mem_append]
    rcases List.mem_cons.1 h with rfl | h
    · exact .inl hn
    · exact .inr (weightsAll_mem hn h)

theorem heavy_arg {ts : List TypeId} {ds : List (DataW H)} (h : (DataW.weightsEach P ts ds).all (· ≤ reachBytes) = true) (j : Nat) {t : TypeId} {d : DataW H} (ht : ts[j]? = some t) (hd : ds[j]? = some d) : Heavy P t d := fun n hn => by
  simpa using List.all_eq_true.1 h _ (DataW.weights_mem_each ht hd n hn)

theorem camez_int {k : IntKind} (ht : P.underlying t = some (.int k)) : CameZ enc P W sp hd t (fun n : Int => [IC.v (.int k n)]) (wfI k) := fun fuel cs y h _ => came_int ht fuel cs y h
theorem camez_bool (ht : P.underlying t = some .bool) : CameZ enc P W sp hd t (fun b : Bool => [IC.v (.bool b)]) (fun _ => True) := fun fuel cs y h _ => came_bool ht fuel cs y h
theorem camez_string (ht : P.underlying t = some .string) : CameZ enc P W sp hd t (fun s : ByteArray => [IC.v (.string s)]) wzS := by
  intro fuel cs y h hz
  obtain ⟨n, rfl, rfl, hw⟩ := DataW.trod_string ht h
  refine ⟨n, RIs_one.2 (by simp only [RI]), by simp [Value.oneCell'], ?_⟩
  have := hz n.data.toList.length (by simp [DataW.weights])
  simpa [wzS] using this

theorem camez_slice {e : TypeId} {A : Type} {ie : A → List IC} {wf : A → Prop} {z b : Nat} (hby : P.bytesOf e = b) (ht : P.underlying t = some (.slice e)) (hc : P.cellsOf e = z) (h0 : 0 < z) (hzz : ∀ x, (ie x).length = z)
    (he : CameZ enc P W sp hd e ie wf) : CameZ enc P W sp hd t (fun l : List A => [IC.row z (List.flatten (List.map ie l))]) (wzL b wf) := by
  intro fuel cs y h hz
  rcases DataW.trod_slice ht h with ⟨rfl, _⟩ | ⟨a, len, cap, elems, rest, n, _, rfl, hyy, hb, hl, hm, hlen, hel, _, _⟩
  · refine ⟨[], RIs_one.2 ?_, by simp [Value.oneCell'], by simp [wzL]⟩
    simp only [RI]
    exact ⟨[], none, 0, 0, ⟨rfl, Nat.le_refl _⟩, by simp, by simp, fun h => absurd rfl h, fun h => absurd rfl h, by simp [RIs]⟩
  · have hsl : ∀ n, n ∈ (elems.length + rest.length) * P.bytesOf e :: (DataW.weightsAll P e (elems.map (·.1)) ++ DataW.weightsAll P e (rest.map (·.1))) → n ≤ reachBytes := by
      intro n hn
      refine hz n ?_
      rw [hyy]
      simpa [DataW.weights, ht, List.length_map] using hn
    have each : ∀ i, i < len → ∃ (x : A) (ys : List Value), ys.length = z ∧ (∀ j, j < z → W.cell? (a.add (i * z + j)) = ys[j]?) ∧ RIs (inW W) W true (ie x) ys ∧ (∀ u ∈ ys, u.oneCell' = true) ∧ wf x := by
      intro i hi
      have h1 := hel i hi
      rw [List.getElem?_eq_getElem (by omega), hc] at h1
      obtain ⟨ys, hcs, hy⟩ := Option.bind_eq_some_iff.1 h1
      obtain ⟨_, hyl, hcell⟩ := World.cells?_some hcs
      obtain ⟨x, h2, h3, h4⟩ := he _ _ _ hy (fun n hn => hsl n (List.mem_cons_of_mem _ (List.mem_append.2 (.inl (weightsAll_mem hn (List.mem_map.2 ⟨elems[i], List.getElem_mem _, rfl⟩))))))
      exact ⟨x, ys, hyl, fun j hj => by rw [← hcell j hj, Addr.add_add], h2, h3, h4⟩
    have build : ∀ k, k ≤ len → ∃ (l : List A) (vs : List Value), l.length = k ∧ vs.length = k * z ∧ (∀ j, j < k * z → W.cell? (a.add j) = vs[j]?) ∧ (∀ i, ∀ h : i < l.length, RIs (inW W) W true (ie l[i]) ((vs.drop (i * z)).take z)) ∧ (∀ u ∈ vs, u.oneCell' = true) ∧ ∀ x ∈ l, wf x := by
      intro k
      induction k with
      | zero => intro _; exact ⟨[], [], rfl, by simp, by simp, fun i h => by simp at h, by simp, by simp⟩
      | succ k ih =>
        intro hk
        obtain ⟨l, vs, h1, h2, h3, h4, h5, h6⟩ := ih (by omega)
        obtain ⟨x, ys, e1, e2, e3, e4, e5⟩ := each k (by omega)
        refine ⟨l ++ [x], vs ++ ys, by simp [h1], by rw [List.length_append, h2, e1, Nat.add_mul]; omega, ?_, ?_, ?_, ?_⟩
        · intro j hj
          by_cases hjk : j < k * z
          · rw [List.getElem?_append_left (by omega)]; exact h3 j hjk
          · rw [List.getElem?_append_right (by omega), h2, ← e2 (j - k * z) (by rw [Nat.add_mul] at hj; omega)]
            congr 2; omega
        · intro i hi
          by_cases hik : i < l.length
          · rw [List.getElem_append_left hik]
            have hle : (i + 1) * z ≤ k * z := Nat.mul_le_mul_right z (by omega)
            rw [Nat.add_mul] at hle
            rw [List.drop_append_of_le_length (by omega), List.take_append_of_le_length (by rw [List.length_drop]; omega)]
            exact h4 i hik
          · have : i = l.length := by simp at hi; omega
            subst this
            rw [List.getElem_concat_length rfl, h1, List.drop_append_of_le_length (by omega), List.drop_eq_nil_of_le (by omega), List.nil_append, List.take_of_length_le (by omega)]
            exact e3
        · intro u hu
          rcases List.mem_append.1 hu with h | h
          · exact h5 u h
          · exact e4 u h
        · intro u hu
          rcases List.mem_append.1 hu with h | h
          · exact h6 u h
          · rw [List.mem_singleton.1 h]; exact e5
    obtain ⟨l, vs, h1, h2, h3, h4, h5, h6⟩ := build len (Nat.le_refl _)
    refine ⟨l, RIs_one.2 ?_, by simp [Value.oneCell'], ?_, h6⟩
    · simp only [RI]
      refine ⟨vs, some a, len, cap, ⟨rfl, hl⟩, h2, h5, fun _ => ⟨a, rfl, fun j u hu => ?_⟩, fun hne => ⟨a, rfl, .inr ?_⟩, RIs_rows hzz l vs (by rw [h1, h2]) h4⟩
      · have hj := (List.getElem?_eq_some_iff.1 hu).1
        rw [h3 j (by omega)]; exact hu
      · have hpos : 0 < vs.length := List.length_pos_iff.2 hne
        have h0' := h3 0 (by omega)
        rw [List.getElem?_eq_getElem hpos] at h0'
        have := World.block_lt_of_cell? W _ h0'
        rwa [add_block] at this
    · have := hsl _ (List.mem_cons_self ..)
      rw [hby] at this
      rw [h1]
      exact Nat.le_trans (Nat.mul_le_mul_right b (by omega)) this

/-- A row of plain cells. -/
theorem camez_row1 {e : TypeId} {A : Type} {f : A → Value} {wf : A → Prop} {b : Nat} (hby : P.bytesOf e = b) (ht : P.underlying t = some (.slice e)) (hc : P.cellsOf e = 1) (he : CameZ enc P W sp hd e (fun x => [IC.v (f x)]) wf) :
    CameZ enc P W sp hd t (fun l : List A => [IC.row 1 (List.map IC.v (List.map f l))]) (wzL b wf) := by
  intro fuel cs y h hzy
  obtain ⟨l, h1, h2, h3⟩ := camez_slice hby ht hc (by omega) (fun _ => rfl) he fuel cs y h hzy
  refine ⟨l, ?_, h2, h3⟩
  dsimp only at h1 ⊢
  rw [flat1 (fun x => IC.v (f x))] at h1
  rw [List.map_map]
  exact h1
/-- A row of structs of plain cells. -/
theorem camez_rowst {e : TypeId} {A : Type} {en : A → List Value} {wf : A → Prop} {z b : Nat} (hby : P.bytesOf e = b) (ht : P.underlying t = some (.slice e)) (hc : P.cellsOf e = z) (h0 : 0 < z) (hz : ∀ x, (en x).length = z)
    (he : CameZ enc P W sp hd e (fun x => List.map IC.v (en x)) wf) : CameZ enc P W sp hd t (fun l : List A => [IC.row z (List.map IC.v (List.flatten (List.map en l)))]) (wzL b wf) := by
  intro fuel cs y h hzy
  obtain ⟨l, h1, h2, h3⟩ := camez_slice hby ht hc h0 (fun x => by simp [hz x]) he fuel cs y h hzy
  refine ⟨l, ?_, h2, h3⟩
  dsimp only at h1 ⊢
  rw [List.map_flatten, List.map_map]
  exact h1

theorem camez_fld {xs : List (DataW H × List MemPlace)} {fs : Array Field} {m o k : Nat} {cs ds : List Value} {T : TypeId} (ht : P.underlying t = some (.struct fs)) (hg : ∀ (i : Nat) (f : Field), fs[i]? = some f → DataW.trod enc P W 0 sp hd m f.type ((cs.drop f.offset).take (P.cellsOf f.type)) = xs[i]?) (hxs : xs.length = fs.size) (hz : Heavy P t (DataW.agg (xs.map (·.1))))
    (i : Nat) (hf : (fs[i]?).map (fun f => (f.type, f.offset)) = some (T, o)) (hk : P.cellsOf T = k) (hds : (cs.drop o).take k = ds) : ∃ y, DataW.trod enc P W 0 sp hd m T ds = some y ∧ Heavy P T y.1 := by
  cases hq : fs[i]? with
  | none => simp [hq] at hf
  | some f =>
    simp only [hq, Option.map_some, Option.some.injEq, Prod.mk.injEq] at hf
    have hi : i < xs.length := by rw [hxs]; exact (Array.getElem?_eq_some_iff.1 hq).1
    have := hg i f hq
    rw [hf.1, hf.2, hk, hds, List.getElem?_eq_getElem hi] at this
    refine ⟨_, this, fun n hn => hz n ?_⟩
    simp only [DataW.weights, ht]
    refine DataW.weights_mem_each (j := i) (t := T) (d := xs[i].1) ?_ ?_ n hn
    · rw [List.getElem?_map, Array.getElem?_toList, hq]; simp [hf.1]
    · rw [List.getElem?_map, List.getElem?_eq_getElem hi]; rfl
end
end Go.Abs
