/-
  What came in, opened: a value of any type of numbers, truth values, texts, rows and structs of such, as the logic of places knows it.
-/
import Derived.Test.YtbioodcjmceefaaAM
import Derived.ChangeArms
import Derived.WideShapes
import Derived.DataReads
import Derived.Below
namespace Go.Abs
open Go.WideShapes

/-- A number that its kind can hold. -/
def wfI (k : IntKind) (n : Int) : Prop := (Lit.int k n).wf = true
def wfS (s : ByteArray) : Prop := s.size ≤ maxLen
def wfL {A : Type} (p : A → Prop) (l : List A) : Prop := l.length ≤ maxLen ∧ ∀ x ∈ l, p x

/-- What came in: whatever lay there is not written. -/
def inW (W : World) : Gh := gh0 W (fun _ => False) (fun b => b < W.heap.size)

def Came {H : Type} (enc : TypeId × Value → H) (P : Program) (W : World) (sp : Nat → Bool) (hd : Bool) (t : TypeId) {A : Type} (ie : A → List IC) (wf : A → Prop) : Prop :=
  ∀ (fuel : Nat) (cs : List Value) (y : DataW H × List MemPlace), DataW.trod enc P W 0 sp hd fuel t cs = some y → ∃ x : A, RIs (inW W) W true (ie x) cs ∧ (∀ u ∈ cs, u.oneCell' = true) ∧ wf x

section
variable {H : Type} {enc : TypeId × Value → H} {P : Program} {W : World} {sp : Nat → Bool} {hd : Bool} {t : TypeId}

theorem RIs_one {g : Gh} {w : World} {s : Bool} {c : IC} {x : Value} : RIs g w s [c] [x] ↔ RI g w s c x := by
  simp only [RIs]
  constructor
  · rintro ⟨x', xs, h, h1, rfl⟩; cases h; exact h1
  · intro h; exact ⟨x, [], rfl, h, rfl⟩

theorem came_int {k : IntKind} (ht : P.underlying t = some (.int k)) : Came enc P W sp hd t (fun n : Int => [IC.v (.int k n)]) (wfI k) := by
  intro fuel cs y h
  obtain ⟨n, rfl, _, hw⟩ := DataW.trod_int ht h
  exact ⟨n, RIs_one.2 (by simp only [RI]), by simp [Value.oneCell'], hw⟩
theorem came_bool (ht : P.underlying t = some .bool) : Came enc P W sp hd t (fun b : Bool => [IC.v (.bool b)]) (fun _ => True) := by
  intro fuel cs y h
  obtain ⟨n, rfl, _⟩ := DataW.trod_bool ht h
  exact ⟨n, RIs_one.2 (by simp only [RI]), by simp [Value.oneCell'], trivial⟩
theorem came_string (ht : P.underlying t = some .string) : Came enc P W sp hd t (fun s : ByteArray => [IC.v (.string s)]) wfS := by
  intro fuel cs y h
  obtain ⟨n, rfl, _, hw⟩ := DataW.trod_string ht h
  exact ⟨n, RIs_one.2 (by simp only [RI]), by simp [Value.oneCell'], hw⟩

theorem RIs_rows {g : Gh} {w : World} {s : Bool} {A : Type} {ie : A → List IC} {z : Nat} (hz : ∀ x, (ie x).length = z) : ∀ (l : List A) (vs : List Value), vs.length = l.length * z → (∀ i, ∀ h : i < l.length, RIs g w s (ie l[i]) ((vs.drop (i * z)).take z)) → RIs g w s (List.flatten (List.map ie l)) vs
  | [], vs, hl, _ => by
    have : vs = [] := List.eq_nil_of_length_eq_zero (by simpa using hl)
    subst this
    simp [RIs]
  | x :: l, vs, hl, h => by
    have h0 := h 0 (by simp)
    simp only [List.getElem_cons_zero, Nat.zero_mul, List.drop_zero] at h0
    rw [List.map_cons, List.flatten_cons, ← List.take_append_drop z vs]
    refine RIs_append h0 (RIs_rows hz l _ ?_ fun i hi => ?_)
    · rw [List.length_drop, hl, List.length_cons, Nat.add_mul]; omega
    · have := h (i + 1) (by simpa using hi)
      simp only [List.getElem_cons_succ] at this
      rw [List.drop_drop]
      rwa [show z + i * z = (i + 1) * z by rw [Nat.add_mul]; omega]

theorem came_slice {e : TypeId} {A : Type} {ie : A → List IC} {wf : A → Prop} {z : Nat} (ht : P.underlying t = some (.slice e)) (hc : P.cellsOf e = z) (h0 : 0 < z) (hz : ∀ x, (ie x).length = z)
    (he : Came enc P W sp hd e ie wf) : Came enc P W sp hd t (fun l : List A => [IC.row z (List.flatten (List.map ie l))]) (wfL wf) := by
  intro fuel cs y h
  rcases DataW.trod_slice ht h with ⟨rfl, _⟩ | ⟨a, len, cap, elems, rest, n, _, rfl, _, hb, hl, hm, hlen, hel, _, _⟩
  · refine ⟨[], RIs_one.2 ?_, by simp [Value.oneCell'], by simp [wfL]⟩
    simp only [RI]
    exact ⟨[], none, 0, 0, ⟨rfl, Nat.le_refl _⟩, by simp, by simp, fun h => absurd rfl h, fun h => absurd rfl h, by simp [RIs]⟩
  · have each : ∀ i, i < len → ∃ (x : A) (ys : List Value), ys.length = z ∧ (∀ j, j < z → W.cell? (a.add (i * z + j)) = ys[j]?) ∧ RIs (inW W) W true (ie x) ys ∧ (∀ u ∈ ys, u.oneCell' = true) ∧ wf x := by
      intro i hi
      have h1 := hel i hi
      rw [List.getElem?_eq_getElem (by omega), hc] at h1
      obtain ⟨ys, hcs, hy⟩ := Option.bind_eq_some_iff.1 h1
      obtain ⟨_, hyl, hcell⟩ := World.cells?_some hcs
      obtain ⟨x, h2, h3, h4⟩ := he _ _ _ hy
      exact ⟨x, ys, hyl, fun j hj => by rw [← hcell j hj, Addr.add_add], h2, h3, h4⟩
    have build : ∀ k, k ≤ len → ∃ (l : List A) (vs : List Value), l.length = k ∧ vs.length = k * z ∧ (∀ j, j < k * z → W.cell? (a.add j) = vs[j]?) ∧ (∀ i, ∀ h : i < l.length, RIs (inW W) W true (ie l[i]) ((vs.drop (i * z)).take z)) ∧ (∀ u ∈ vs, u.oneCell' = true) ∧ ∀ x ∈ l, wf x := by
      intro k
      induction k with
      | zero => intro _; exact ⟨[], [], rfl, by simp, by simp, fun i h => by simp at h, by simp, by simp⟩
      | succ k ih =>
        intro hk
        obtain ⟨l, vs, h1, h2, h3, h4, h5, h6⟩ := ih (by omega)
        obtain ⟨x, ys, e1, e2, e3, e4, e5⟩ := each k (by omega)
        refine ⟨l ++ [x], vs ++ ys, by simp [h1], by rw [List.length_append, h2, e1, Nat.add_mul]; omega, ?_, ?_, ?_, ?_⟩
        · intro j hj
          by_cases hjk : j < k * z
          · rw [List.getElem?_append_left (by omega)]; exact h3 j hjk
          · rw [List.getElem?_append_right (by omega), h2, ← e2 (j - k * z) (by rw [Nat.add_mul] at hj; omega)]
            congr 2; omega
        · intro i hi
          by_cases hik : i < l.length
          · rw [List.getElem_append_left hik]
            have hle : (i + 1) * z ≤ k * z := Nat.mul_le_mul_right z (by omega)
            rw [Nat.add_mul] at hle
            rw [List.drop_append_of_le_length (by omega), List.take_append_of_le_length (by rw [List.length_drop]; omega)]
            exact h4 i hik
          · have : i = l.length := by simp at hi; omega
            subst this
            rw [List.getElem_concat_length rfl, h1, List.drop_append_of_le_length (by omega), List.drop_eq_nil_of_le (by omega), List.nil_append, List.take_of_length_le (by omega)]
            exact e3
        · intro u hu
          rcases List.mem_append.1 hu with h | h
          · exact h5 u h
          · exact e4 u h
        · intro u hu
          rcases List.mem_append.1 hu with h | h
          · exact h6 u h
          · rw [List.mem_singleton.1 h]; exact e5
    obtain ⟨l, vs, h1, h2, h3, h4, h5, h6⟩ := build len (Nat.le_refl _)
    refine ⟨l, RIs_one.2 ?_, by simp [Value.oneCell'], by omega, h6⟩
    simp only [RI]
    refine ⟨vs, some a, len, cap, ⟨rfl, hl⟩, h2, h5, fun _ => ⟨a, rfl, fun j u hu => ?_⟩, fun hne => ⟨a, rfl, .inr ?_⟩, RIs_rows hz l vs (by rw [h1, h2]) h4⟩
    · have hj := (List.getElem?_eq_some_iff.1 hu).1
      rw [h3 j (by omega)]; exact hu
    · have hpos : 0 < vs.length := List.length_pos_iff.2 hne
      have h0' := h3 0 (by omega)
      rw [List.getElem?_eq_getElem hpos] at h0'
      have := World.block_lt_of_cell? W _ h0'
      rwa [add_block] at this

theorem flat1 {A B : Type} (f : A → B) : ∀ l : List A, List.flatten (List.map (fun x => [f x]) l) = List.map f l
  | [] => rfl
  | x :: l => by simp [flat1 f l]
/-- A row of plain cells. -/
theorem came_row1 {e : TypeId} {A : Type} {f : A → Value} {wf : A → Prop} (ht : P.underlying t = some (.slice e)) (hc : P.cellsOf e = 1) (he : Came enc P W sp hd e (fun x => [IC.v (f x)]) wf) :
    Came enc P W sp hd t (fun l : List A => [IC.row 1 (List.map IC.v (List.map f l))]) (wfL wf) := by
  intro fuel cs y h
  obtain ⟨l, h1, h2, h3⟩ := came_slice ht hc (by omega) (fun _ => rfl) he fuel cs y h
  refine ⟨l, ?_, h2, h3⟩
  dsimp only at h1 ⊢
  rw [flat1 (fun x => IC.v (f x))] at h1
  rw [List.map_map]
  exact h1
/-- A row of structs of plain cells. -/
theorem came_rowst {e : TypeId} {A : Type} {en : A → List Value} {wf : A → Prop} {z : Nat} (ht : P.underlying t = some (.slice e)) (hc : P.cellsOf e = z) (h0 : 0 < z) (hz : ∀ x, (en x).length = z)
    (he : Came enc P W sp hd e (fun x => List.map IC.v (en x)) wf) : Came enc P W sp hd t (fun l : List A => [IC.row z (List.map IC.v (List.flatten (List.map en l)))]) (wfL wf) := by
  intro fuel cs y h
  obtain ⟨l, h1, h2, h3⟩ := came_slice ht hc h0 (fun x => by simp [hz x]) he fuel cs y h
  refine ⟨l, ?_, h2, h3⟩
  dsimp only at h1 ⊢
  rw [List.map_flatten, List.map_map]
  exact h1

theorem came_fld {xs : List (DataW H × List MemPlace)} {fs : Array Field} {m o k : Nat} {cs ds : List Value} {T : TypeId} (hg : ∀ (i : Nat) (f : Field), fs[i]? = some f → DataW.trod enc P W 0 sp hd m f.type ((cs.drop f.offset).take (P.cellsOf f.type)) = xs[i]?) (hxs : xs.length = fs.size)
    (i : Nat) (hf : (fs[i]?).map (fun f => (f.type, f.offset)) = some (T, o)) (hk : P.cellsOf T = k) (hds : (cs.drop o).take k = ds) : ∃ y, DataW.trod enc P W 0 sp hd m T ds = some y := by
  cases hq : fs[i]? with
  | none => simp [hq] at hf
  | some f =>
    simp only [hq, Option.map_some, Option.some.injEq, Prod.mk.injEq] at hf
    have hi : i < xs.length := by rw [hxs]; exact (Array.getElem?_eq_some_iff.1 hq).1
    have := hg i f hq
    rw [hf.1, hf.2, hk, hds, List.getElem?_eq_getElem hi] at this
    exact ⟨_, this⟩
theorem ones_app {a b : List Value} (h : ∀ u ∈ a, u.oneCell' = true) (k : ∀ u ∈ b, u.oneCell' = true) : ∀ u ∈ a ++ b, u.oneCell' = true := by
  intro u hu
  rcases List.mem_append.1 hu with q | q
  · exact h u q
  · exact k u q
theorem ones_nil : ∀ u ∈ ([] : List Value), u.oneCell' = true := by simp
theorem RIs_nil {g : Gh} {w : World} {s : Bool} : RIs g w s [] [] := by simp [RIs]

theorem came_agg {cs : Array Value} {ics : List IC} {avs : List AV} (h : RIs (inW W) W true ics (Value.agg cs).cells.toList) (hi : IAs true ics avs) : R (inW W) V0 W (.agg avs) (.agg cs) [] := by
  simp only [R]
  exact ⟨cs.toList, by simp, IAs_R hi h⟩
theorem came_sl {A : Option Addr} {len cap : Nat} {ic : IC} {av : AV} (h : RIs (inW W) W true [ic] (Value.slice A len cap).cells.toList) (hi : IA true ic av) : R (inW W) V0 W av (.slice A len cap) [] :=
  IA_R hi (RIs_one.1 h)

theorem in_v (x : Value) : R (inW W) V0 W (.v x) x [] := by simp [R]
theorem in_nil : Rs (inW W) V0 W [] [] [] := by simp [Rs]
theorem in_cons {c : AV} {cs : List AV} {x : Value} {xs : List Value} (h : R (inW W) V0 W c x []) (hs : Rs (inW W) V0 W cs xs []) : Rs (inW W) V0 W (c :: cs) (x :: xs) [] := by
  simp only [Rs]; exact ⟨x, xs, [], [], rfl, rfl, h, hs⟩
end
end Go.Abs
