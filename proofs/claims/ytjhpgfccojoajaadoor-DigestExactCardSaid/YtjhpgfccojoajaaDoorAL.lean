/-
  The logic of places: texts AL AM AO AP AQ.
-/
import Derived.ChangeArms
import Derived.WideShapes
import Derived.DataReads
import Derived.Below
import Derived.Lib.AppendStr
import Derived.Test.YtjhpgfccojoajaaDoorAD
section
/-
  Calls that are given variables and rows of the caller's own: what is known of them behind the call.
-/
namespace Go.Abs
def AnsP (xs : List Value) (posts : List AV) (o0 : List Nat) (Imm Im : Nat → Prop) (w : World) (res : AV) (e : Ending) (w' : World) : Prop :=
  ∃ x, e = .returned x ∧ Chg o0 w w' ∧ ∃ (Imm' : Nat → Prop) (o : List Nat), (∀ b, Imm b → Imm' b) ∧ (∀ b, Imm' b → Imm b ∨ b ∈ o0 ∨ (w.heap.size ≤ b ∧ b < w'.heap.size)) ∧
    Rs (gh0 w Imm' Im) V0 w' (res :: posts) (x :: xs.take posts.length) o ∧ o.Nodup ∧ ∀ b ∈ o, (b ∈ o0 ∨ w.heap.size ≤ b) ∧ b < w'.heap.size ∧ ¬ Imm' b
def FnP (P : Program) (f : FuncId) (args posts : List AV) (res : AV) : Prop :=
  ∀ (Imm Im : Nat → Prop) (w : World) (xs : List Value) (o0 : List Nat), (∀ b, Imm b ∨ Im b → b < w.heap.size) → Rs (gh0 w Imm Im) V0 w args xs o0 → o0.Nodup → (∀ b ∈ o0, b < w.heap.size ∧ ¬ (Imm b ∨ Im b)) →
    Calls P f xs.toArray w (AnsP xs posts o0 Imm Im w res)
section
variable {P : Program} {Q : Exit → Act → World → Prop} {g0 : Gh} {rnd : Option Nat}
end
section
variable {P : Program} {ty : TypeId} {pos : String} {aft : Array Edge} {gd : Option (Nat × Bool)}
end
end Go.Abs
end
section
/-
  Rows whose cells are rows in their turn, not written any more.
-/
namespace Go.Abs
theorem RIs_vals {g : Gh} {w : World} {s : Bool} : ∀ {vs xs : List Value}, RIs g w s (vs.map IC.v) xs ↔ xs = vs
  | [], xs => by simp [RIs]
  | v :: vs, xs => by
    simp only [List.map_cons, RIs, RI]
    constructor
    · rintro ⟨x, xs', rfl, rfl, h⟩; rw [RIs_vals.1 h]
    · rintro rfl; exact ⟨v, vs, rfl, rfl, RIs_vals.2 rfl⟩
theorem RIs_append {g : Gh} {w : World} {s : Bool} : ∀ {cs ds : List IC} {xs ys : List Value}, RIs g w s cs xs → RIs g w s ds ys → RIs g w s (cs ++ ds) (xs ++ ys)
  | [], ds, xs, ys, h, h2 => by simp only [RIs] at h; subst h; exact h2
  | c :: cs, ds, xs, ys, h, h2 => by
    simp only [RIs] at h
    obtain ⟨x, xs', rfl, h1, h⟩ := h
    simp only [List.cons_append, RIs]
    exact ⟨x, _, rfl, h1, RIs_append h h2⟩
def mdS : Bool → Md
  | true => .shr
  | false => .ro
inductive IA (s : Bool) : IC → AV → Prop
  | v (x : Value) : IA s (.v x) (.v x)
  | fl (z : Nat) (xs : List Value) {cs : List IC} (h : cs = xs.map IC.v) : IA s (.row z cs) (.fl (mdS s) z xs)
  | fr (z : Nat) (cs : List IC) : IA s (.row z cs) (.fr (mdS s) s z cs)
inductive IAs (s : Bool) : List IC → List AV → Prop
  | nil : IAs s [] []
  | cons {c : IC} {av : AV} {cs : List IC} {avs : List AV} (h : IA s c av) (hs : IAs s cs avs) : IAs s (c :: cs) (av :: avs)
theorem modeOk_mdS {g : Gh} {w : World} {s : Bool} {z n : Nat} {x : Value} {a : Option Addr} {vs : List Value} (h : vs ≠ [] → ∃ ad, a = some ad ∧ immB g s ad.block) : modeOk g w (mdS s) z x n a vs [] := by
  cases s
  · exact ⟨rfl, h⟩
  · exact ⟨rfl, h⟩
theorem IA_R {g : Gh} {V : Loc → Value} {w : World} {s : Bool} {c : IC} {av : AV} {x : Value} (h : IA s c av) (hr : RI g w s c x) : R g V w av x [] := by
  cases h with
  | v y => simp only [RI] at hr; simp [R, hr]
  | fl z xs h =>
    subst h
    simp only [RI] at hr
    obtain ⟨vs, a, n, c, h1, h2, h3, h4, h5, h6⟩ := hr
    obtain rfl := RIs_vals.1 h6
    simp only [R]
    exact ⟨a, n, c, h1, h2, h3, h4, modeOk_mdS h5⟩
  | fr z cs =>
    simp only [RI] at hr
    obtain ⟨vs, a, n, c, h1, h2, h3, h4, h5, h6⟩ := hr
    simp only [R]
    exact ⟨vs, a, n, c, h1, h2, h3, h4, modeOk_mdS h5, h6⟩
inductive AI (s : Bool) : AV → IC → Prop
  | v (x : Value) : AI s (.v x) (.v x)
  | ro (z : Nat) (xs : List Value) {cs : List IC} (h : cs = xs.map IC.v) : AI s (.fl .ro z xs) (.row z cs)
  | shr (z : Nat) (xs : List Value) {cs : List IC} (hs : s = true) (h : cs = xs.map IC.v) : AI s (.fl .shr z xs) (.row z cs)
  | fro (z : Nat) (cs : List IC) : AI s (.fr .ro false z cs) (.row z cs)
  | fsh (m : Md) (s' : Bool) (z : Nat) (cs : List IC) (hm : notOwn m = true) (hs : s = true) : AI s (.fr m s' z cs) (.row z cs)
  | nil (z : Nat) : AI s (.v (.slice none 0 0)) (.row z [])
inductive AIs (s : Bool) : List AV → List IC → Prop
  | nil : AIs s [] []
  | cons {c : IC} {av : AV} {cs : List IC} {avs : List AV} (h : AI s av c) (hs : AIs s avs cs) : AIs s (av :: avs) (c :: cs)
section
variable {P : Program} {ty : TypeId} {pos : String} {aft : Array Edge} {gd : Option (Nat × Bool)}
end
section
variable {A B : Type} {z : Nat}
end
section
variable {P : Program} {Q : Exit → Act → World → Prop} {g0 : Gh} {rnd : Option Nat}
end
end Go.Abs
end
section
/-
  What came in, opened: a value of any type of numbers, truth values, texts, rows and structs of such, as the logic of places knows it.
-/
namespace Go.Abs
open Go.WideShapes
def wfI (k : IntKind) (n : Int) : Prop := (Lit.int k n).wf = true
def wfL {A : Type} (p : A → Prop) (l : List A) : Prop := l.length ≤ maxLen ∧ ∀ x ∈ l, p x
def inW (W : World) : Gh := gh0 W (fun _ => False) (fun b => b < W.heap.size)
def Came {H : Type} (enc : TypeId × Value → H) (P : Program) (W : World) (sp : Nat → Bool) (hd : Bool) (t : TypeId) {A : Type} (ie : A → List IC) (wf : A → Prop) : Prop :=
  ∀ (fuel : Nat) (cs : List Value) (y : DataW H × List MemPlace), DataW.trod enc P W 0 sp hd fuel t cs = some y → ∃ x : A, RIs (inW W) W true (ie x) cs ∧ (∀ u ∈ cs, u.oneCell' = true) ∧ wf x
section
variable {H : Type} {enc : TypeId × Value → H} {P : Program} {W : World} {sp : Nat → Bool} {hd : Bool} {t : TypeId}
theorem RIs_one {g : Gh} {w : World} {s : Bool} {c : IC} {x : Value} : RIs g w s [c] [x] ↔ RI g w s c x := by
  simp only [RIs]
  constructor
  · rintro ⟨x', xs, h, h1, rfl⟩; cases h; exact h1
  · intro h; exact ⟨x, [], rfl, h, rfl⟩
theorem came_int {k : IntKind} (ht : P.underlying t = some (.int k)) : Came enc P W sp hd t (fun n : Int => [IC.v (.int k n)]) (wfI k) := by
  intro fuel cs y h
  obtain ⟨n, rfl, _, hw⟩ := DataW.trod_int ht h
  exact ⟨n, RIs_one.2 (by simp only [RI]), by simp [Value.oneCell'], hw⟩
theorem RIs_rows {g : Gh} {w : World} {s : Bool} {A : Type} {ie : A → List IC} {z : Nat} (hz : ∀ x, (ie x).length = z) : ∀ (l : List A) (vs : List Value), vs.length = l.length * z → (∀ i, ∀ h : i < l.length, RIs g w s (ie l[i]) ((vs.drop (i * z)).take z)) → RIs g w s (List.flatten (List.map ie l)) vs
  | [], vs, hl, _ => by
    have : vs = [] := List.eq_nil_of_length_eq_zero (by simpa using hl)
    subst this
    simp [RIs]
  | x :: l, vs, hl, h => by
    have h0 := h 0 (by simp)
    simp only [List.getElem_cons_zero, Nat.zero_mul, List.drop_zero] at h0
    rw [List.map_cons, List.flatten_cons, ← List.take_append_drop z vs]
    refine RIs_append h0 (RIs_rows hz l _ ?_ fun i hi => ?_)
    · rw [List.length_drop, hl, List.length_cons, Nat.add_mul]; omega
    · have := h (i + 1) (by simpa using hi)
      simp only [List.getElem_cons_succ] at this
      rw [List.drop_drop]
      rwa [show z + i * z = (i + 1) * z by rw [Nat.add_mul]; omega]
theorem came_slice {e : TypeId} {A : Type} {ie : A → List IC} {wf : A → Prop} {z : Nat} (ht : P.underlying t = some (.slice e)) (hc : P.cellsOf e = z) (h0 : 0 < z) (hz : ∀ x, (ie x).length = z)
    (he : Came enc P W sp hd e ie wf) : Came enc P W sp hd t (fun l : List A => [IC.row z (List.flatten (List.map ie l))]) (wfL wf) := by
  intro fuel cs y h
  rcases DataW.trod_slice ht h with ⟨rfl, _⟩ | ⟨a, len, cap, elems, rest, n, _, rfl, _, hb, hl, hm, hlen, hel, _, _⟩
  · refine ⟨[], RIs_one.2 ?_, by simp [Value.oneCell'], by simp [wfL]⟩
    simp only [RI]
    exact ⟨[], none, 0, 0, ⟨rfl, Nat.le_refl _⟩, by simp, by simp, fun h => absurd rfl h, fun h => absurd rfl h, by simp [RIs]⟩
  · have each : ∀ i, i < len → ∃ (x : A) (ys : List Value), ys.length = z ∧ (∀ j, j < z → W.cell? (a.add (i * z + j)) = ys[j]?) ∧ RIs (inW W) W true (ie x) ys ∧ (∀ u ∈ ys, u.oneCell' = true) ∧ wf x := by
      intro i hi
      have h1 := hel i hi
      rw [List.getElem?_eq_getElem (by omega), hc] at h1
      obtain ⟨ys, hcs, hy⟩ := Option.bind_eq_some_iff.1 h1
      obtain ⟨_, hyl, hcell⟩ := World.cells?_some hcs
      obtain ⟨x, h2, h3, h4⟩ := he _ _ _ hy
      exact ⟨x, ys, hyl, fun j hj => by rw [← hcell j hj, Addr.add_add], h2, h3, h4⟩
    have build : ∀ k, k ≤ len → ∃ (l : List A) (vs : List Value), l.length = k ∧ vs.length = k * z ∧ (∀ j, j < k * z → W.cell? (a.add j) = vs[j]?) ∧ (∀ i, ∀ h : i < l.length, RIs (inW W) W true (ie l[i]) ((vs.drop (i * z)).take z)) ∧ (∀ u ∈ vs, u.oneCell' = true) ∧ ∀ x ∈ l, wf x := by
      intro k
      induction k with
      | zero => intro _; exact ⟨[], [], rfl, by simp, by simp, fun i h => by simp at h, by simp, by simp⟩
      | succ k ih =>
        intro hk
        obtain ⟨l, vs, h1, h2, h3, h4, h5, h6⟩ := ih (by omega)
        obtain ⟨x, ys, e1, e2, e3, e4, e5⟩ := each k (by omega)
        refine ⟨l ++ [x], vs ++ ys, by simp [h1], by rw [List.length_append, h2, e1, Nat.add_mul]; omega, ?_, ?_, ?_, ?_⟩
        · intro j hj
          by_cases hjk : j < k * z
          · rw [List.getElem?_append_left (by omega)]; exact h3 j hjk
          · rw [List.getElem?_append_right (by omega), h2, ← e2 (j - k * z) (by rw [Nat.add_mul] at hj; omega)]
            congr 2; omega
        · intro i hi
          by_cases hik : i < l.length
          · rw [List.getElem_append_left hik]
            have hle : (i + 1) * z ≤ k * z := Nat.mul_le_mul_right z (by omega)
            rw [Nat.add_mul] at hle
            rw [List.drop_append_of_le_length (by omega), List.take_append_of_le_length (by rw [List.length_drop]; omega)]
            exact h4 i hik
          · have : i = l.length := by simp at hi; omega
            subst this
            rw [List.getElem_concat_length rfl, h1, List.drop_append_of_le_length (by omega), List.drop_eq_nil_of_le (by omega), List.nil_append, List.take_of_length_le (by omega)]
            exact e3
        · intro u hu
          rcases List.mem_append.1 hu with h | h
          · exact h5 u h
          · exact e4 u h
        · intro u hu
          rcases List.mem_append.1 hu with h | h
          · exact h6 u h
          · rw [List.mem_singleton.1 h]; exact e5
    obtain ⟨l, vs, h1, h2, h3, h4, h5, h6⟩ := build len (Nat.le_refl _)
    refine ⟨l, RIs_one.2 ?_, by simp [Value.oneCell'], by omega, h6⟩
    simp only [RI]
    refine ⟨vs, some a, len, cap, ⟨rfl, hl⟩, h2, h5, fun _ => ⟨a, rfl, fun j u hu => ?_⟩, fun hne => ⟨a, rfl, .inr ?_⟩, RIs_rows hz l vs (by rw [h1, h2]) h4⟩
    · have hj := (List.getElem?_eq_some_iff.1 hu).1
      rw [h3 j (by omega)]; exact hu
    · have hpos : 0 < vs.length := List.length_pos_iff.2 hne
      have h0' := h3 0 (by omega)
      rw [List.getElem?_eq_getElem hpos] at h0'
      have := World.block_lt_of_cell? W _ h0'
      rwa [add_block] at this
theorem flat1 {A B : Type} (f : A → B) : ∀ l : List A, List.flatten (List.map (fun x => [f x]) l) = List.map f l
  | [] => rfl
  | x :: l => by simp [flat1 f l]
theorem came_row1 {e : TypeId} {A : Type} {f : A → Value} {wf : A → Prop} (ht : P.underlying t = some (.slice e)) (hc : P.cellsOf e = 1) (he : Came enc P W sp hd e (fun x => [IC.v (f x)]) wf) :
    Came enc P W sp hd t (fun l : List A => [IC.row 1 (List.map IC.v (List.map f l))]) (wfL wf) := by
  intro fuel cs y h
  obtain ⟨l, h1, h2, h3⟩ := came_slice ht hc (by omega) (fun _ => rfl) he fuel cs y h
  refine ⟨l, ?_, h2, h3⟩
  dsimp only at h1 ⊢
  rw [flat1 (fun x => IC.v (f x))] at h1
  rw [List.map_map]
  exact h1
theorem came_sl {A : Option Addr} {len cap : Nat} {ic : IC} {av : AV} (h : RIs (inW W) W true [ic] (Value.slice A len cap).cells.toList) (hi : IA true ic av) : R (inW W) V0 W av (.slice A len cap) [] :=
  IA_R hi (RIs_one.1 h)
theorem in_v (x : Value) : R (inW W) V0 W (.v x) x [] := by simp [R]
theorem in_nil : Rs (inW W) V0 W [] [] [] := by simp [Rs]
theorem in_cons {c : AV} {cs : List AV} {x : Value} {xs : List Value} (h : R (inW W) V0 W c x []) (hs : Rs (inW W) V0 W cs xs []) : Rs (inW W) V0 W (c :: cs) (x :: xs) [] := by
  simp only [Rs]; exact ⟨x, xs, [], [], rfl, rfl, h, hs⟩
end
end Go.Abs
end
section
/-
  What is appended otherwise: a text's bytes; lengths of nil.
-/
namespace Go.Abs
def Apps (P : Program) (T U ty e : TypeId) (z by_ : Nat) (yv : Value) (m : Nat) (ys : List Value) : Prop :=
  ∀ (w : World) (v : Value) (n : Nat) (xs : List Value), w.ownsRow 0 e z v n xs → n + m ≤ maxLen → (n + m) * by_ ≤ 140737488355328 →
    ∃ v' w', (Builtin.append_ #[T, U] ty #[v, yv]).run P w = .ok v' w' ∧ w'.ownsRow 0 e z v' (n + m) (xs ++ ys) ∧ w.grownBy w' v.ownBlock ∧ (v'.ownBlock = v.ownBlock ∨ v'.ownBlock = some w.heap.size)
section
variable {P : Program} {ty : TypeId} {pos : String} {aft : Array Edge} {gd : Option (Nat × Bool)}
theorem apps_str {t u ty e : TypeId} {i : TypeInfo} {s : ByteArray} (ht : P.underlying t = some (.slice e)) (hu : P.underlying u = some .string) (hi : P.info? e = some i) (hz : i.zero = some (.int .u8 0)) (hsize : i.size = 1) (hby : i.bytes = 1) :
    Apps P t u ty e 1 1 (.string s) s.size (Lib.strCells s) := by
  intro w v n xs hown h63 hbytes
  have hbase : 0 ≤ w.heap.size := Nat.zero_le _
  have hsmall : n + s.size ≤ 9223372036854775807 := by simp only [maxLen] at h63; omega
  have hxl : xs.length = n := by simpa using hown.1
  have hlen : (xs ++ Lib.strCells s).length = (n + s.size) * 1 := by rw [List.length_append, hxl, Lib.strCells_length, Nat.mul_one]
  have grown : ∀ (old : Nat), old < n + s.size → ∀ (row : Option Nat),
      (w.drew.alloc (.cells (xs.toArray ++ (Lib.strCells s).toArray ++ Builtin.zeroCells (Value.int .u8 0).cells (grownCap w (n + s.size) old e - (n + s.size))) e)).ownsRow 0 e 1
        (.slice (some ⟨w.heap.size, 0, none⟩) (n + s.size) (grownCap w (n + s.size) old e)) (n + s.size) (xs ++ Lib.strCells s) ∧
      w.grownBy (w.drew.alloc (.cells (xs.toArray ++ (Lib.strCells s).toArray ++ Builtin.zeroCells (Value.int .u8 0).cells (grownCap w (n + s.size) old e - (n + s.size))) e)) row := by
    intro old ho row
    have hge := grownCap_ge w (n + s.size) old e
    have hcm : grownCap w (n + s.size) old e ≤ maxLen := grownCap_le_maxLen w (n + s.size) old e h63
    refine ⟨⟨hlen, .inr ⟨w.heap.size, _, _, rfl, hbase, heap_alloc_new w.drew _, hge, hcm, ?_, ?_⟩⟩, ⟨rfl, rfl, rfl, by simp, fun k hk _ => heap_alloc_old w.drew _ k hk⟩⟩
    · have hz1 : (Value.int IntKind.u8 0).cells.size = 1 := rfl
      simp only [Array.size_append, List.size_toArray, size_zeroCells, hz1, hxl, Lib.strCells_length]
      omega
    · simp only [Array.toList_append, List.append_assoc]
      rw [← List.append_assoc, ← hlen]
      exact List.take_left
  rcases hown.2 with ⟨rfl, rfl⟩ | ⟨g, cap, cur, rfl, hbg, hg, hnc, hcm, hcs, htake⟩
  · have hx : xs = [] := List.eq_nil_of_length_eq_zero hxl
    subst hx
    by_cases hm : s.size = 0
    · have hn : Lib.strCells s = [] := List.eq_nil_of_length_eq_zero (by rw [Lib.strCells_length]; exact hm)
      refine ⟨.slice none 0 0, w, ?_, by rw [hm, hn]; exact World.ownsRow_nil w 0 e 1, ⟨rfl, rfl, rfl, Nat.le_refl _, fun _ _ _ => rfl⟩, .inl rfl⟩
      have hf := Lib.run_firstCells_string (P := P) w 1 s
      rw [hm] at hf
      simp [Builtin.append_, run_underlying ht, run_underlying hu, sizeOf, typeInfo, hi, hsize, Builtin.lenOf, hm, hf]
    · have hr := run_append_nil_string (P := P) w t u ty e i (.int .u8 0) ht hu hi hz s (by omega) (by omega) (by rw [hby]; omega)
      have hgr := grown 0 (by omega) (Value.ownBlock (.slice none 0 0))
      simp only [Nat.zero_add, List.nil_append, Array.empty_append] at hgr ⊢
      have e1 : (s.data.map fun b => Value.int .u8 b.toNat) = (Lib.strCells s).toArray := by
        apply Array.ext'
        simp [Lib.strCells]
      rw [e1] at hr
      exact ⟨_, _, hr, hgr.1, hgr.2, .inr rfl⟩
  · by_cases hroom : n + s.size ≤ cap
    · have hcs' : cur.size = cap := by simpa using hcs
      have hr := Lib.run_append_room_string (P := P) w t u ty e i ht hu hi hsize g n cap cur hg s hroom (by omega)
      refine ⟨_, _, hr, ⟨hlen, .inr ⟨g, cap, _, rfl, hbg, setRow_heap w g cur _ e _ hg, hroom, hcm, ?_, ?_⟩⟩, ⟨rfl, rfl, rfl, by simp, fun k _ hk => setRow_other w g k _ (fun e => hk (by simp [Value.ownBlock, e]))⟩, .inl rfl⟩
      · simp only [List.size_toArray, List.length_append, List.length_take, List.length_drop, Array.length_toList, Lib.strCells_length]
        omega
      · have ht' : cur.toList.take n = xs := by simpa using htake
        rw [ht', ← hlen]
        exact List.take_left
    · have holds : ∀ j u, xs[j]? = some u → w.cell? ((⟨g, 0, none⟩ : Addr).add j) = some u := hown.cells (g := g) rfl
      have hr := Lib.run_append_grow_string (P := P) w t u ty e i (.int .u8 0) ht hu hi hz ⟨g, 0, none⟩ n cap xs (by rw [hsize]; simpa using hxl) holds s (by omega) (by omega) (by rw [hby]; exact growslice_fits (by omega) (by omega))
      have hgr := grown cap (by omega) (Value.ownBlock (.slice (some ⟨g, 0, none⟩) n cap))
      exact ⟨_, _, hr, hgr.1, hgr.2, .inr rfl⟩
theorem ElemT.str {t u ty e : TypeId} {s : ByteArray} (hE : ElemT P t e 1 1) (hz : (P.info? e).bind (·.zero) = some (.int .u8 0)) (hu : P.underlying u = some .string) : Apps P t u ty e 1 1 (.string s) s.size (Lib.strCells s) := by
  obtain ⟨i, zv, hT, hi, _, hs, _, _, hb⟩ := hE.ex
  rw [hi] at hz
  exact apps_str hT hu hi hz hs hb
end
end Go.Abs
end
section
/-
  A variable is stored into itself.
-/
namespace Go.Abs
inductive Selfs (t : Nat) : Nat → List AV → List AV → Prop
  | nil (i : Nat) : Selfs t i [] []
  | same {i : Nat} {ds cs : List AV} (c : AV) (h : Selfs t (i + 1) ds cs) : Selfs t i (.same (.cell t i) :: ds) (c :: cs)
  | eq {i : Nat} {ds cs : List AV} (c : AV) (h : Selfs t (i + 1) ds cs) : Selfs t i (c :: ds) (c :: cs)
section
variable {P : Program} {ty : TypeId} {pos : String} {aft : Array Edge} {gd : Option (Nat × Bool)}
end
end Go.Abs
end
