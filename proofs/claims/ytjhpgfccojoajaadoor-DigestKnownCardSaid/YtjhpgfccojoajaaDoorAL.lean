/-
  The logic of places: texts AL AM AO AP AQ.
-/
import Derived.ChangeArms
import Derived.WideShapes
import Derived.DataReads
import Derived.Below
import Derived.Lib.AppendStr
import Derived.Test.YtjhpgfccojoajaaDoorAD
section
/-
  Calls that are given variables and rows of the caller's own: what is known of them behind the call.
-/
namespace Go.Abs
def AnsP (xs : List Value) (posts : List AV) (o0 : List Nat) (Imm Im : Nat → Prop) (w : World) (res : AV) (e : Ending) (w' : World) : Prop :=
  ∃ x, e = .returned x ∧ Chg o0 w w' ∧ ∃ (Imm' : Nat → Prop) (o : List Nat), (∀ b, Imm b → Imm' b) ∧ (∀ b, Imm' b → Imm b ∨ b ∈ o0 ∨ (w.heap.size ≤ b ∧ b < w'.heap.size)) ∧
    Rs (gh0 w Imm' Im) V0 w' (res :: posts) (x :: xs.take posts.length) o ∧ o.Nodup ∧ ∀ b ∈ o, (b ∈ o0 ∨ w.heap.size ≤ b) ∧ b < w'.heap.size ∧ ¬ Imm' b
def FnP (P : Program) (f : FuncId) (args posts : List AV) (res : AV) : Prop :=
  ∀ (Imm Im : Nat → Prop) (w : World) (xs : List Value) (o0 : List Nat), (∀ b, Imm b ∨ Im b → b < w.heap.size) → Rs (gh0 w Imm Im) V0 w args xs o0 → o0.Nodup → (∀ b ∈ o0, b < w.heap.size ∧ ¬ (Imm b ∨ Im b)) →
    Calls P f xs.toArray w (AnsP xs posts o0 Imm Im w res)
section
variable {P : Program} {Q : Exit → Act → World → Prop} {g0 : Gh} {rnd : Option Nat}
end
section
variable {P : Program} {ty : TypeId} {pos : String} {aft : Array Edge} {gd : Option (Nat × Bool)}
end
end Go.Abs
end
section
/-
  Rows whose cells are rows in their turn, not written any more.
-/
namespace Go.Abs
def mdS : Bool → Md
  | true => .shr
  | false => .ro
inductive IA (s : Bool) : IC → AV → Prop
  | v (x : Value) : IA s (.v x) (.v x)
  | fl (z : Nat) (xs : List Value) {cs : List IC} (h : cs = xs.map IC.v) : IA s (.row z cs) (.fl (mdS s) z xs)
  | fr (z : Nat) (cs : List IC) : IA s (.row z cs) (.fr (mdS s) s z cs)
inductive IAs (s : Bool) : List IC → List AV → Prop
  | nil : IAs s [] []
  | cons {c : IC} {av : AV} {cs : List IC} {avs : List AV} (h : IA s c av) (hs : IAs s cs avs) : IAs s (c :: cs) (av :: avs)
inductive AI (s : Bool) : AV → IC → Prop
  | v (x : Value) : AI s (.v x) (.v x)
  | ro (z : Nat) (xs : List Value) {cs : List IC} (h : cs = xs.map IC.v) : AI s (.fl .ro z xs) (.row z cs)
  | shr (z : Nat) (xs : List Value) {cs : List IC} (hs : s = true) (h : cs = xs.map IC.v) : AI s (.fl .shr z xs) (.row z cs)
  | fro (z : Nat) (cs : List IC) : AI s (.fr .ro false z cs) (.row z cs)
  | fsh (m : Md) (s' : Bool) (z : Nat) (cs : List IC) (hm : notOwn m = true) (hs : s = true) : AI s (.fr m s' z cs) (.row z cs)
  | nil (z : Nat) : AI s (.v (.slice none 0 0)) (.row z [])
inductive AIs (s : Bool) : List AV → List IC → Prop
  | nil : AIs s [] []
  | cons {c : IC} {av : AV} {cs : List IC} {avs : List AV} (h : AI s av c) (hs : AIs s avs cs) : AIs s (av :: avs) (c :: cs)
section
variable {P : Program} {ty : TypeId} {pos : String} {aft : Array Edge} {gd : Option (Nat × Bool)}
end
section
variable {A B : Type} {z : Nat}
end
section
variable {P : Program} {Q : Exit → Act → World → Prop} {g0 : Gh} {rnd : Option Nat}
end
end Go.Abs
end
section
/-
  What came in, opened: a value of any type of numbers, truth values, texts, rows and structs of such, as the logic of places knows it.
-/
namespace Go.Abs
open Go.WideShapes
def inW (W : World) : Gh := gh0 W (fun _ => False) (fun b => b < W.heap.size)
section
variable {H : Type} {enc : TypeId × Value → H} {P : Program} {W : World} {sp : Nat → Bool} {hd : Bool} {t : TypeId}
theorem in_v (x : Value) : R (inW W) V0 W (.v x) x [] := by simp [R]
theorem in_nil : Rs (inW W) V0 W [] [] [] := by simp [Rs]
theorem in_cons {c : AV} {cs : List AV} {x : Value} {xs : List Value} (h : R (inW W) V0 W c x []) (hs : Rs (inW W) V0 W cs xs []) : Rs (inW W) V0 W (c :: cs) (x :: xs) [] := by
  simp only [Rs]; exact ⟨x, xs, [], [], rfl, rfl, h, hs⟩
end
end Go.Abs
end
section
/-
  What is appended otherwise: a text's bytes; lengths of nil.
-/
namespace Go.Abs
def Apps (P : Program) (T U ty e : TypeId) (z by_ : Nat) (yv : Value) (m : Nat) (ys : List Value) : Prop :=
  ∀ (w : World) (v : Value) (n : Nat) (xs : List Value), w.ownsRow 0 e z v n xs → n + m ≤ maxLen → (n + m) * by_ ≤ 140737488355328 →
    ∃ v' w', (Builtin.append_ #[T, U] ty #[v, yv]).run P w = .ok v' w' ∧ w'.ownsRow 0 e z v' (n + m) (xs ++ ys) ∧ w.grownBy w' v.ownBlock ∧ (v'.ownBlock = v.ownBlock ∨ v'.ownBlock = some w.heap.size)
section
variable {P : Program} {ty : TypeId} {pos : String} {aft : Array Edge} {gd : Option (Nat × Bool)}
theorem apps_str {t u ty e : TypeId} {i : TypeInfo} {s : ByteArray} (ht : P.underlying t = some (.slice e)) (hu : P.underlying u = some .string) (hi : P.info? e = some i) (hz : i.zero = some (.int .u8 0)) (hsize : i.size = 1) (hby : i.bytes = 1) :
    Apps P t u ty e 1 1 (.string s) s.size (Lib.strCells s) := by
  intro w v n xs hown h63 hbytes
  have hbase : 0 ≤ w.heap.size := Nat.zero_le _
  have hsmall : n + s.size ≤ 9223372036854775807 := by simp only [maxLen] at h63; omega
  have hxl : xs.length = n := by simpa using hown.1
  have hlen : (xs ++ Lib.strCells s).length = (n + s.size) * 1 := by rw [List.length_append, hxl, Lib.strCells_length, Nat.mul_one]
  have grown : ∀ (old : Nat), old < n + s.size → ∀ (row : Option Nat),
      (w.drew.alloc (.cells (xs.toArray ++ (Lib.strCells s).toArray ++ Builtin.zeroCells (Value.int .u8 0).cells (grownCap w (n + s.size) old e - (n + s.size))) e)).ownsRow 0 e 1
        (.slice (some ⟨w.heap.size, 0, none⟩) (n + s.size) (grownCap w (n + s.size) old e)) (n + s.size) (xs ++ Lib.strCells s) ∧
      w.grownBy (w.drew.alloc (.cells (xs.toArray ++ (Lib.strCells s).toArray ++ Builtin.zeroCells (Value.int .u8 0).cells (grownCap w (n + s.size) old e - (n + s.size))) e)) row := by
    intro old ho row
    have hge := grownCap_ge w (n + s.size) old e
    have hcm : grownCap w (n + s.size) old e ≤ maxLen := grownCap_le_maxLen w (n + s.size) old e h63
    refine ⟨⟨hlen, .inr ⟨w.heap.size, _, _, rfl, hbase, heap_alloc_new w.drew _, hge, hcm, ?_, ?_⟩⟩, ⟨rfl, rfl, rfl, by simp, fun k hk _ => heap_alloc_old w.drew _ k hk⟩⟩
    · have hz1 : (Value.int IntKind.u8 0).cells.size = 1 := rfl
      simp only [Array.size_append, List.size_toArray, size_zeroCells, hz1, hxl, Lib.strCells_length]
      omega
    · simp only [Array.toList_append, List.append_assoc]
      rw [← List.append_assoc, ← hlen]
      exact List.take_left
  rcases hown.2 with ⟨rfl, rfl⟩ | ⟨g, cap, cur, rfl, hbg, hg, hnc, hcm, hcs, htake⟩
  · have hx : xs = [] := List.eq_nil_of_length_eq_zero hxl
    subst hx
    by_cases hm : s.size = 0
    · have hn : Lib.strCells s = [] := List.eq_nil_of_length_eq_zero (by rw [Lib.strCells_length]; exact hm)
      refine ⟨.slice none 0 0, w, ?_, by rw [hm, hn]; exact World.ownsRow_nil w 0 e 1, ⟨rfl, rfl, rfl, Nat.le_refl _, fun _ _ _ => rfl⟩, .inl rfl⟩
      have hf := Lib.run_firstCells_string (P := P) w 1 s
      rw [hm] at hf
      simp [Builtin.append_, run_underlying ht, run_underlying hu, sizeOf, typeInfo, hi, hsize, Builtin.lenOf, hm, hf]
    · have hr := run_append_nil_string (P := P) w t u ty e i (.int .u8 0) ht hu hi hz s (by omega) (by omega) (by rw [hby]; omega)
      have hgr := grown 0 (by omega) (Value.ownBlock (.slice none 0 0))
      simp only [Nat.zero_add, List.nil_append, Array.empty_append] at hgr ⊢
      have e1 : (s.data.map fun b => Value.int .u8 b.toNat) = (Lib.strCells s).toArray := by
        apply Array.ext'
        simp [Lib.strCells]
      rw [e1] at hr
      exact ⟨_, _, hr, hgr.1, hgr.2, .inr rfl⟩
  · by_cases hroom : n + s.size ≤ cap
    · have hcs' : cur.size = cap := by simpa using hcs
      have hr := Lib.run_append_room_string (P := P) w t u ty e i ht hu hi hsize g n cap cur hg s hroom (by omega)
      refine ⟨_, _, hr, ⟨hlen, .inr ⟨g, cap, _, rfl, hbg, setRow_heap w g cur _ e _ hg, hroom, hcm, ?_, ?_⟩⟩, ⟨rfl, rfl, rfl, by simp, fun k _ hk => setRow_other w g k _ (fun e => hk (by simp [Value.ownBlock, e]))⟩, .inl rfl⟩
      · simp only [List.size_toArray, List.length_append, List.length_take, List.length_drop, Array.length_toList, Lib.strCells_length]
        omega
      · have ht' : cur.toList.take n = xs := by simpa using htake
        rw [ht', ← hlen]
        exact List.take_left
    · have holds : ∀ j u, xs[j]? = some u → w.cell? ((⟨g, 0, none⟩ : Addr).add j) = some u := hown.cells (g := g) rfl
      have hr := Lib.run_append_grow_string (P := P) w t u ty e i (.int .u8 0) ht hu hi hz ⟨g, 0, none⟩ n cap xs (by rw [hsize]; simpa using hxl) holds s (by omega) (by omega) (by rw [hby]; exact growslice_fits (by omega) (by omega))
      have hgr := grown cap (by omega) (Value.ownBlock (.slice (some ⟨g, 0, none⟩) n cap))
      exact ⟨_, _, hr, hgr.1, hgr.2, .inr rfl⟩
theorem ElemT.str {t u ty e : TypeId} {s : ByteArray} (hE : ElemT P t e 1 1) (hz : (P.info? e).bind (·.zero) = some (.int .u8 0)) (hu : P.underlying u = some .string) : Apps P t u ty e 1 1 (.string s) s.size (Lib.strCells s) := by
  obtain ⟨i, zv, hT, hi, _, hs, _, _, hb⟩ := hE.ex
  rw [hi] at hz
  exact apps_str hT hu hi hz hs hb
end
end Go.Abs
end
section
/-
  A variable is stored into itself.
-/
namespace Go.Abs
inductive Selfs (t : Nat) : Nat → List AV → List AV → Prop
  | nil (i : Nat) : Selfs t i [] []
  | same {i : Nat} {ds cs : List AV} (c : AV) (h : Selfs t (i + 1) ds cs) : Selfs t i (.same (.cell t i) :: ds) (c :: cs)
  | eq {i : Nat} {ds cs : List AV} (c : AV) (h : Selfs t (i + 1) ds cs) : Selfs t i (c :: ds) (c :: cs)
section
variable {P : Program} {ty : TypeId} {pos : String} {aft : Array Edge} {gd : Option (Nat × Bool)}
end
end Go.Abs
end
