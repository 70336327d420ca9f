/-
  A small logic of places over the model: what a slot of a call's frame holds, said by a value (numbers, texts), a slice that reads as a list, a struct by its cells, a variable of the call's own by its cells; and what an operation makes of it.
-/
import Derived.Orders
import Derived.Below
import Derived.Laws.OwnMore
import Derived.Laws.Rows
namespace Go.Abs

inductive Loc where
  | slot (t : Nat)
  | cell (t off : Nat)
  deriving DecidableEq

/-- own: the call's own row (of elements of a type), that nobody else holds; ro: never written any more; shr: not written as long as the call lasts. -/
inductive Md where
  | own (T : TypeId)
  | ro
  | shr

/-- A cell of a row that is not written: a value, or a row of such. -/
inductive IC where
  | v (x : Value)
  | row (z : Nat) (cs : List IC)

inductive AV where
  | any
  | v (x : Value)
  | fl (m : Md) (z : Nat) (xs : List Value)
  | agg (cs : List AV)
  | tup (cs : List AV)
  | box (T : TypeId) (cs : List AV)
  | same (l : Loc)
  | ptr (t off : Nat)
  | eref (l : Loc) (k : Nat)
  | arr (T : TypeId) (vs : List Value)
  | fr (m : Md) (s : Bool) (z : Nat) (cs : List IC)
  | glob (gl : List (Nat × List Value))
  | obox (p : Bool) (T : TypeId) (cs : List AV)
  | clo (f : Nat) (ts : List Nat)
  | cut (l : Loc) (h : Nat)

abbrev Ent := Nat × AV

structure Gh where
  n : Nat
  w0 : World
  io : List Nat
  Imm : Nat → Prop
  Im : Nat → Prop

def Gh.imm (g : Gh) (b : Nat) : Prop := g.Imm b ∨ g.Im b

structure Gh.le (g g' : Gh) : Prop where
  n : g'.n = g.n
  w0 : g'.w0 = g.w0
  io : g'.io = g.io
  Im : g'.Im = g.Im
  Imm : ∀ b, g.Imm b → g'.Imm b
  new : ∀ b, g'.Imm b → g.Imm b ∨ g.w0.heap.size ≤ b ∨ b ∈ g.io

theorem Gh.le_refl (g : Gh) : g.le g := ⟨rfl, rfl, rfl, rfl, fun _ h => h, fun _ h => .inl h⟩
theorem Gh.le.trans {a b c : Gh} (h : a.le b) (k : b.le c) : a.le c :=
  ⟨k.n.trans h.n, k.w0.trans h.w0, k.io.trans h.io, k.Im.trans h.Im, fun x hx => k.Imm x (h.Imm x hx), fun x hx => by
    rcases k.new x hx with h1 | h1
    · exact h.new x h1
    · refine .inr ?_
      rw [h.w0, h.io] at h1
      exact h1⟩

structure Chg (S : List Nat) (w w' : World) : Prop where
  os : w'.os = w.os
  tape : w'.tape = w.tape
  output : w'.output = w.output
  size : w.heap.size ≤ w'.heap.size
  block : ∀ k, k < w.heap.size → k ∉ S → w'.heap[k]? = w.heap[k]?

theorem Chg.refl (S : List Nat) (w : World) : Chg S w w := ⟨rfl, rfl, rfl, Nat.le_refl _, fun _ _ _ => rfl⟩
theorem Chg.trans {S : List Nat} {a b c : World} (h : Chg S a b) (k : Chg S b c) : Chg S a c :=
  ⟨k.os.trans h.os, k.tape.trans h.tape, k.output.trans h.output, Nat.le_trans h.size k.size, fun i hi hS => (k.block i (Nat.lt_of_lt_of_le hi h.size) hS).trans (h.block i hi hS)⟩
theorem Chg.trans' {S U : List Nat} {a b c : World} (h : Chg S a b) (k : Chg U b c) (hU : ∀ x ∈ U, x ∈ S ∨ a.heap.size ≤ x) : Chg S a c :=
  ⟨k.os.trans h.os, k.tape.trans h.tape, k.output.trans h.output, Nat.le_trans h.size k.size, fun i hi hS =>
    (k.block i (Nat.lt_of_lt_of_le hi h.size) (fun hx => by
      rcases hU i hx with h1 | h1
      · exact hS h1
      · omega)).trans (h.block i hi hS)⟩
theorem Chg.mono {S U : List Nat} {a b : World} (h : Chg S a b) (hU : ∀ x ∈ S, x ∈ U) : Chg U a b :=
  ⟨h.os, h.tape, h.output, h.size, fun i hi hS => h.block i hi (fun hx => hS (hU i hx))⟩
theorem Chg.of_grown {w w' : World} {row : Option Nat} (h : w.grownBy w' row) : Chg row.toList w w' :=
  ⟨h.os, h.tape, h.output, h.size, fun k hk hS => h.block k hk (fun e => hS (by simp [← e]))⟩
theorem Chg.alloc (S : List Nat) (w : World) (o : Obj) : Chg S w (w.alloc o) := (Chg.of_grown (World.grownBy_alloc w o none)).mono (by simp)
theorem Chg.drew (S : List Nat) (w : World) : Chg S w { w with drawn := w.drawn + 1 } := ⟨rfl, rfl, rfl, Nat.le_refl _, fun _ _ _ => rfl⟩

def reads (w : World) (a : Option Addr) (xs : List Value) : Prop :=
  xs ≠ [] → ∃ ad, a = some ad ∧ ∀ j u, xs[j]? = some u → w.cell? (ad.add j) = some u

def modeOk (g : Gh) (w : World) (m : Md) (z : Nat) (x : Value) (n : Nat) (a : Option Addr) (xs : List Value) (o : List Nat) : Prop :=
  match m with
  | .own T => w.ownsRow 0 T z x n xs ∧ o = (x.ownBlock).toList
  | .ro => o = [] ∧ (xs ≠ [] → ∃ ad, a = some ad ∧ g.Imm ad.block)
  | .shr => o = [] ∧ (xs ≠ [] → ∃ ad, a = some ad ∧ g.imm ad.block)

def immB (g : Gh) (s : Bool) (b : Nat) : Prop := match s with
  | true => g.imm b
  | false => g.Imm b
mutual
def RI (g : Gh) (w : World) (s : Bool) : IC → Value → Prop
  | .v y, x => x = y
  | .row z cs, x => ∃ (vs : List Value) (a : Option Addr) (n c : Nat), (x = .slice a n c ∧ n ≤ c) ∧ vs.length = n * z ∧ (∀ u ∈ vs, u.oneCell' = true) ∧ reads w a vs ∧ (vs ≠ [] → ∃ ad, a = some ad ∧ immB g s ad.block) ∧ RIs g w s cs vs
def RIs (g : Gh) (w : World) (s : Bool) : List IC → List Value → Prop
  | [], xs => xs = []
  | c :: cs, xs => ∃ x xs', xs = x :: xs' ∧ RI g w s c x ∧ RIs g w s cs xs'
end
theorem immB_imm {g : Gh} {s : Bool} {b : Nat} (h : immB g s b) : g.imm b := by
  cases s
  · exact .inl h
  · exact h
theorem immB_mono {g g' : Gh} {s : Bool} {b : Nat} (hI : ∀ b, g.Imm b → g'.Imm b) (hM : ∀ b, g.Im b → g'.Im b) (h : immB g s b) : immB g' s b := by
  cases s
  · exact hI _ h
  · exact h.imp (hI _) (hM _)
mutual
theorem RI_stab {g g' : Gh} {w w' : World} {s s' : Bool} (hi : ∀ b, immB g s b → immB g' s' b) (hw : ∀ b, g.imm b → w'.heap[b]? = w.heap[b]?) : ∀ (c : IC) (x : Value), RI g w s c x → RI g' w' s' c x
  | .v y, x, h => by simp only [RI] at *; exact h
  | .row z cs, x, h => by
    simp only [RI] at *
    obtain ⟨vs, a, n, c, h1, h2, h3, h4, h5, h6⟩ := h
    refine ⟨vs, a, n, c, h1, h2, h3, fun hne => ?_, fun hne => ?_, RIs_stab hi hw cs vs h6⟩
    · obtain ⟨ad, e, hc⟩ := h4 hne
      obtain ⟨ad', e', hb⟩ := h5 hne
      rw [e] at e'; cases e'
      refine ⟨ad, e, fun j u hu => ?_⟩
      rw [World.cell?_of_block (w := w)]
      · exact hc j u hu
      · have : (ad.add j).block = ad.block := by unfold Addr.add; split <;> rfl
        rw [this]; exact hw _ (immB_imm hb)
    · obtain ⟨ad, e, hb⟩ := h5 hne
      exact ⟨ad, e, hi _ hb⟩
theorem RIs_stab {g g' : Gh} {w w' : World} {s s' : Bool} (hi : ∀ b, immB g s b → immB g' s' b) (hw : ∀ b, g.imm b → w'.heap[b]? = w.heap[b]?) : ∀ (cs : List IC) (xs : List Value), RIs g w s cs xs → RIs g' w' s' cs xs
  | [], xs, h => by simp only [RIs] at *; exact h
  | c :: cs, xs, h => by
    simp only [RIs] at *
    obtain ⟨x, xs', h1, h2, h3⟩ := h
    exact ⟨x, xs', h1, RI_stab hi hw c x h2, RIs_stab hi hw cs xs' h3⟩
end

mutual
def R (g : Gh) (V : Loc → Value) (w : World) : AV → Value → List Nat → Prop
  | .any, _, o => o = []
  | .v y, x, o => x = y ∧ o = []
  | .fl m z xs, x, o => ∃ a n c, (x = .slice a n c ∧ n ≤ c) ∧ xs.length = n * z ∧ (∀ u ∈ xs, u.oneCell' = true) ∧ reads w a xs ∧ modeOk g w m z x n a xs o
  | .agg cs, x, o => ∃ xs : List Value, x = .agg xs.toArray ∧ Rs g V w cs xs o
  | .tup cs, x, o => ∃ xs : List Value, x = .tuple xs.toArray ∧ Rs g V w cs xs o
  | .box T cs, x, o => ∃ (b : Nat) (xs : List Value) (os : List Nat), x = .pointer (some ⟨b, 0, none⟩) ∧ o = b :: os ∧ w.heap[b]? = some (.cells xs.toArray T (0, 0)) ∧ Rs g V w cs xs os
  | .same l, x, o => x = V l ∧ o = []
  | .ptr t off, x, o => ∃ b, V (.slot t) = .pointer (some ⟨b, 0, none⟩) ∧ x = .pointer (some ⟨b, off, none⟩) ∧ o = []
  | .eref l k, x, o => ∃ a n c, V l = .slice (some a) n c ∧ x = .pointer (some (a.add k)) ∧ o = []
  | .arr T vs, x, o => ∃ b : Nat, x = .pointer (some ⟨b, 0, none⟩) ∧ o = [b] ∧ w.heap[b]? = some (.cells vs.toArray T (0, 0))
  | .fr m s z cs, x, o => ∃ (vs : List Value) (a : Option Addr) (n c : Nat), (x = .slice a n c ∧ n ≤ c) ∧ vs.length = n * z ∧ (∀ u ∈ vs, u.oneCell' = true) ∧ reads w a vs ∧ modeOk g w m z x n a vs o ∧ RIs g w s cs vs
  | .glob gl, _, o => (∀ p ∈ gl, g.imm p.1 ∧ ∀ j u, p.2[j]? = some u → w.cell? ⟨p.1, j, none⟩ = some u) ∧ o = []
  | .obox p T cs, x, o => (p = true → ∃ (b : Nat) (xs : List Value) (os : List Nat), x = .pointer (some ⟨b, 0, none⟩) ∧ o = b :: os ∧ w.heap[b]? = some (.cells xs.toArray T (0, 0)) ∧ Rs g V w cs xs os) ∧ (p = false → x = .pointer none ∧ o = [])
  | .cut l h, x, o => ∃ a n c, V l = .slice a n c ∧ h ≤ n ∧ x = .slice a h c ∧ o = []
  | .clo f ts, x, o => x = .func (.func f) #[] (ts.map fun t => V (.slot t)).toArray ∧ o = []
def Rs (g : Gh) (V : Loc → Value) (w : World) : List AV → List Value → List Nat → Prop
  | [], xs, o => xs = [] ∧ o = []
  | c :: cs, xs, o => ∃ x xs' o1 o2, xs = x :: xs' ∧ o = o1 ++ o2 ∧ R g V w c x o1 ∧ Rs g V w cs xs' o2
end

def hit (W : List Loc) (l : Loc) : Bool :=
  W.any fun m => decide (m = l) || match m, l with | .slot t, .cell t' _ => t == t' | _, _ => false

mutual
def clr (W : List Loc) : AV → Bool
  | .any => true
  | .v _ => true
  | .fl .. => true
  | .agg cs => clrs W cs
  | .tup cs => clrs W cs
  | .box _ cs => clrs W cs
  | .same l => !hit W l
  | .ptr t _ => !hit W (.slot t)
  | .eref l _ => !hit W l
  | .cut l _ => !hit W l
  | .arr .. => true
  | .fr .. => true
  | .glob _ => true
  | .obox _ _ cs => clrs W cs
  | .clo _ ts => ts.all fun t => !hit W (.slot t)
def clrs (W : List Loc) : List AV → Bool
  | [] => true
  | c :: cs => clr W c && clrs W cs
end

theorem clrs_append (W : List Loc) : ∀ (cs ds : List AV), clrs W (cs ++ ds) = (clrs W cs && clrs W ds)
  | [], ds => by simp [clrs]
  | c :: cs, ds => by simp only [List.cons_append, clrs, clrs_append W cs ds, Bool.and_assoc]

theorem modeOk_stab {g g' : Gh} {w w' : World} {m : Md} {z n : Nat} {x : Value} {a : Option Addr} {xs : List Value} {o : List Nat}
    (hI : ∀ b, g.Imm b → g'.Imm b) (hM : ∀ b, g.Im b → g'.Im b) (hw : ∀ b, b ∈ o → w'.heap[b]? = w.heap[b]?) (h : modeOk g w m z x n a xs o) : modeOk g' w' m z x n a xs o := by
  cases m with
  | own T =>
    obtain ⟨h1, h2⟩ := h
    refine ⟨⟨h1.1, ?_⟩, h2⟩
    rcases h1.2 with h3 | ⟨b, cap, cur, hv, hb, hh, r⟩
    · exact .inl h3
    · refine .inr ⟨b, cap, cur, hv, hb, ?_, r⟩
      rw [hw b (by rw [h2, hv]; simp [Value.ownBlock])]; exact hh
  | ro => exact ⟨h.1, fun hne => let ⟨ad, e, hi⟩ := h.2 hne; ⟨ad, e, hI _ hi⟩⟩
  | shr => exact ⟨h.1, fun hne => let ⟨ad, e, hi⟩ := h.2 hne; ⟨ad, e, hi.imp (hI _) (hM _)⟩⟩

/-- The block behind a slice that reads as a list that is not empty. -/
theorem modeOk_block {g : Gh} {w : World} {m : Md} {z n c : Nat} {a : Option Addr} {xs : List Value} {o : List Nat} {ad : Addr}
    (h : modeOk g w m z (.slice a n c) n a xs o) (hne : xs ≠ []) (ha : a = some ad) : ad.block ∈ o ∨ g.imm ad.block := by
  subst ha
  cases m with
  | own T => exact .inl (by rw [h.2]; simp [Value.ownBlock])
  | ro => obtain ⟨ad', e, hi⟩ := h.2 hne; cases e; exact .inr (.inl hi)
  | shr => obtain ⟨ad', e, hi⟩ := h.2 hne; cases e; exact .inr hi

theorem reads_stab {g : Gh} {w w' : World} {m : Md} {z n c : Nat} {a : Option Addr} {xs : List Value} {o : List Nat}
    (hm : modeOk g w m z (.slice a n c) n a xs o) (hw : ∀ b, (b ∈ o ∨ g.imm b) → w'.heap[b]? = w.heap[b]?) (h : reads w a xs) : reads w' a xs := by
  intro hne
  obtain ⟨ad, e, hc⟩ := h hne
  refine ⟨ad, e, fun j u hu => ?_⟩
  have hb := modeOk_block hm hne e
  rw [World.cell?_of_block (w := w)]
  · exact hc j u hu
  · have : (ad.add j).block = ad.block := by unfold Addr.add; split <;> rfl
    rw [this]; exact hw _ hb

mutual
theorem R_stab {g g' : Gh} {V V' : Loc → Value} {w w' : World} {W : List Loc}
    (hI : ∀ b, g.Imm b → g'.Imm b) (hM : ∀ b, g.Im b → g'.Im b) (hV : ∀ l, hit W l = false → V' l = V l) :
    ∀ (av : AV) (x : Value) (o : List Nat), clr W av = true → (∀ b, (b ∈ o ∨ g.imm b) → w'.heap[b]? = w.heap[b]?) → R g V w av x o → R g' V' w' av x o
  | .any, x, o, _, _, h => by simp only [R] at *; exact h
  | .v y, x, o, _, _, h => by simp only [R] at *; exact h
  | .fl m z xs, x, o, _, hw, h => by
    simp only [R] at *
    obtain ⟨a, n, c, ⟨rfl, hnc⟩, hl, h1, hr, hm⟩ := h
    exact ⟨a, n, c, ⟨rfl, hnc⟩, hl, h1, reads_stab hm hw hr, modeOk_stab hI hM (fun b hb => hw b (.inl hb)) hm⟩
  | .agg cs, x, o, hc, hw, h => by
    simp only [R, clr] at *
    obtain ⟨xs, rfl, h⟩ := h
    exact ⟨xs, rfl, Rs_stab hI hM hV cs xs o hc hw h⟩
  | .tup cs, x, o, hc, hw, h => by
    simp only [R, clr] at *
    obtain ⟨xs, rfl, h⟩ := h
    exact ⟨xs, rfl, Rs_stab hI hM hV cs xs o hc hw h⟩
  | .box T cs, x, o, hc, hw, h => by
    simp only [R, clr] at *
    obtain ⟨b, xs, os, rfl, rfl, hb, h⟩ := h
    exact ⟨b, xs, os, rfl, rfl, by rw [hw b (.inl (by simp))]; exact hb, Rs_stab hI hM hV cs xs os hc (fun b' hb' => hw b' (hb'.imp (fun h => by simp [h]) id)) h⟩
  | .same l, x, o, hc, _, h => by
    simp only [R, clr, Bool.not_eq_true'] at *
    rw [hV l hc]; exact h
  | .ptr t off, x, o, hc, _, h => by
    simp only [R, clr, Bool.not_eq_true'] at *
    rw [hV _ hc]; exact h
  | .eref l k, x, o, hc, _, h => by
    simp only [R, clr, Bool.not_eq_true'] at *
    rw [hV l hc]; exact h
  | .cut l k, x, o, hc, _, h => by
    simp only [R, clr, Bool.not_eq_true'] at *
    rw [hV l hc]; exact h
  | .arr T vs, x, o, _, hw, h => by
    simp only [R] at *
    obtain ⟨b, rfl, rfl, hb⟩ := h
    exact ⟨b, rfl, rfl, by rw [hw b (.inl (by simp))]; exact hb⟩
  | .fr m s z cs, x, o, _, hw, h => by
    simp only [R] at *
    obtain ⟨vs, a, n, c, ⟨rfl, hnc⟩, hl, h1, hr, hm, hi⟩ := h
    exact ⟨vs, a, n, c, ⟨rfl, hnc⟩, hl, h1, reads_stab hm hw hr, modeOk_stab hI hM (fun b hb => hw b (.inl hb)) hm, RIs_stab (fun b h => immB_mono hI hM h) (fun b hb => hw b (.inr hb)) cs vs hi⟩
  | .glob gl, x, o, _, hw, h => by
    simp only [R] at *
    refine ⟨fun p hp => ?_, h.2⟩
    obtain ⟨h1, h2⟩ := h.1 p hp
    refine ⟨h1.imp (hI _) (hM _), fun j u hu => ?_⟩
    rw [World.cell?_of_block (w := w)]
    · exact h2 j u hu
    · exact hw _ (.inr h1)
  | .obox p T cs, x, o, hc, hw, h => by
    simp only [R, clr] at *
    refine ⟨fun hp => ?_, h.2⟩
    obtain ⟨b, xs, os, rfl, rfl, hb, h⟩ := h.1 hp
    exact ⟨b, xs, os, rfl, rfl, by rw [hw b (.inl (by simp))]; exact hb, Rs_stab hI hM hV cs xs os hc (fun b' hb' => hw b' (hb'.imp (fun h => by simp [h]) id)) h⟩
  | .clo f ts, x, o, hc, _, h => by
    simp only [R, clr, List.all_eq_true, Bool.not_eq_true'] at *
    refine ⟨?_, h.2⟩
    rw [h.1]
    congr 2
    exact List.map_congr_left fun t ht => (hV _ (hc t ht)).symm
theorem Rs_stab {g g' : Gh} {V V' : Loc → Value} {w w' : World} {W : List Loc}
    (hI : ∀ b, g.Imm b → g'.Imm b) (hM : ∀ b, g.Im b → g'.Im b) (hV : ∀ l, hit W l = false → V' l = V l) :
    ∀ (cs : List AV) (xs : List Value) (o : List Nat), clrs W cs = true → (∀ b, (b ∈ o ∨ g.imm b) → w'.heap[b]? = w.heap[b]?) → Rs g V w cs xs o → Rs g' V' w' cs xs o
  | [], xs, o, _, _, h => by simp only [Rs] at *; exact h
  | c :: cs, xs, o, hc, hw, h => by
    simp only [Rs, clrs, Bool.and_eq_true] at *
    obtain ⟨x, xs', o1, o2, rfl, rfl, h1, h2⟩ := h
    exact ⟨x, xs', o1, o2, rfl, rfl, R_stab hI hM hV c x o1 hc.1 (fun b hb => hw b (hb.imp (fun h => by simp [h]) id)) h1,
      Rs_stab hI hM hV cs xs' o2 hc.2 (fun b hb => hw b (hb.imp (fun h => by simp [h]) id)) h2⟩
end

/-- An entry: a slot and what it holds; a variable's cells are named. -/
def ER (g : Gh) (V : Loc → Value) (w : World) (e : Ent) (o : List Nat) : Prop :=
  R g V w e.2 (V (.slot e.1)) o ∧
  match e.2 with
  | .box _ cs => ∀ b, V (.slot e.1) = .pointer (some ⟨b, 0, none⟩) → ∀ i, i < cs.length → w.cell? ⟨b, i, none⟩ = some (V (.cell e.1 i))
  | _ => True

def Es (g : Gh) (V : Loc → Value) (w : World) : List Ent → List Nat → Prop
  | [], o => o = []
  | e :: es, o => ∃ o1 o2, o = o1 ++ o2 ∧ ER g V w e o1 ∧ Es g V w es o2

def tied : AV → Bool
  | .box .. => true
  | _ => false
def clrEnt (W : List Loc) (e : Ent) : Bool :=
  !hit W (.slot e.1) && clr W e.2 && (!tied e.2 || W.all fun m => match m with | .cell t _ => t != e.1 | _ => true)

theorem hit_cell_of {W : List Loc} {e : Ent} (h : clrEnt W e = true) (htied : tied e.2 = true) (i : Nat) : hit W (.cell e.1 i) = false := by
  simp only [clrEnt, htied, Bool.not_true, Bool.false_or, Bool.and_eq_true, Bool.not_eq_true', List.all_eq_true] at h
  obtain ⟨⟨h1, _⟩, h3⟩ := h
  simp only [hit, List.any_eq_false] at *
  intro m hm
  have h1' := h1 m hm
  have h3' := h3 m hm
  cases m with
  | slot t => simpa using h1'
  | cell t o => simp at h3' ⊢; intro e; exact absurd e h3'

theorem ER_stab {g g' : Gh} {V V' : Loc → Value} {w w' : World} {W : List Loc}
    (hI : ∀ b, g.Imm b → g'.Imm b) (hM : ∀ b, g.Im b → g'.Im b) (hV : ∀ l, hit W l = false → V' l = V l)
    (e : Ent) (o : List Nat) (hc : clrEnt W e = true) (hw : ∀ b, (b ∈ o ∨ g.imm b) → w'.heap[b]? = w.heap[b]?) (h : ER g V w e o) : ER g' V' w' e o := by
  obtain ⟨h1, h2⟩ := h
  have hcc := fun (ht : tied e.2 = true) => hit_cell_of hc ht
  have hc' := hc
  simp only [clrEnt, Bool.and_eq_true, Bool.not_eq_true'] at hc'
  obtain ⟨⟨hs, hcl⟩, _⟩ := hc'
  have hslot : V' (.slot e.1) = V (.slot e.1) := hV _ hs
  refine ⟨by rw [hslot]; exact R_stab hI hM hV _ _ _ hcl hw h1, ?_⟩
  obtain ⟨t, av⟩ := e
  cases av <;> try trivial
  case box T cs =>
    intro b hb i hi
    rw [hslot] at hb
    simp only [R] at h1
    obtain ⟨b', xs, os, hx, rfl, hh, _⟩ := h1
    dsimp only at hb hi hcc h2 hx hslot
    rw [hb] at hx
    cases hx
    rw [World.cell?_of_block (w := w) (hw b (.inl (by simp))), hV _ (hcc rfl i)]
    exact h2 b hb i hi

theorem Es_stab {g g' : Gh} {V V' : Loc → Value} {w w' : World} {W : List Loc}
    (hI : ∀ b, g.Imm b → g'.Imm b) (hM : ∀ b, g.Im b → g'.Im b) (hV : ∀ l, hit W l = false → V' l = V l) :
    ∀ (es : List Ent) (o : List Nat), (∀ e ∈ es, clrEnt W e = true) → (∀ b, (b ∈ o ∨ g.imm b) → w'.heap[b]? = w.heap[b]?) → Es g V w es o → Es g' V' w' es o
  | [], o, _, _, h => h
  | e :: es, o, hc, hw, h => by
    obtain ⟨o1, o2, rfl, h1, h2⟩ := h
    exact ⟨o1, o2, rfl, ER_stab hI hM hV e o1 (hc e (by simp)) (fun b hb => hw b (hb.imp (fun h => by simp [h]) id)) h1,
      Es_stab hI hM hV es o2 (fun e' he' => hc e' (by simp [he'])) (fun b hb => hw b (hb.imp (fun h => by simp [h]) id)) h2⟩

theorem Es_append {g : Gh} {V : Loc → Value} {w : World} : ∀ {es fs : List Ent} {o : List Nat}, Es g V w (es ++ fs) o ↔ ∃ o1 o2, o = o1 ++ o2 ∧ Es g V w es o1 ∧ Es g V w fs o2
  | [], fs, o => by
    constructor
    · intro h; exact ⟨[], o, rfl, rfl, h⟩
    · rintro ⟨o1, o2, rfl, h1, h2⟩; cases h1; exact h2
  | e :: es, fs, o => by
    constructor
    · rintro ⟨o1, o2, rfl, h1, h2⟩
      obtain ⟨o3, o4, rfl, h3, h4⟩ := Es_append.1 h2
      exact ⟨o1 ++ o3, o4, by simp, ⟨o1, o3, rfl, h1, h3⟩, h4⟩
    · rintro ⟨o1, o2, rfl, ⟨o3, o4, rfl, h3, h4⟩, h2⟩
      exact ⟨o3, o4 ++ o2, by simp, h3, Es_append.2 ⟨o4, o2, rfl, h4, h2⟩⟩

theorem Es_perm {g : Gh} {V : Loc → Value} {w : World} {es fs : List Ent} (hp : es.Perm fs) : ∀ {o : List Nat}, Es g V w es o → ∃ o', o.Perm o' ∧ Es g V w fs o' := by
  induction hp with
  | nil => intro o h; exact ⟨o, .refl _, h⟩
  | cons e _ ih =>
    rintro o ⟨o1, o2, rfl, h1, h2⟩
    obtain ⟨o', hp', h'⟩ := ih h2
    exact ⟨o1 ++ o', hp'.append_left o1, o1, o', rfl, h1, h'⟩
  | swap a b l =>
    rintro o ⟨o1, o2, rfl, h1, o3, o4, rfl, h3, h4⟩
    refine ⟨o3 ++ (o1 ++ o4), ?_, o3, o1 ++ o4, rfl, h3, o1, o4, rfl, h1, h4⟩
    rw [← List.append_assoc, ← List.append_assoc]
    exact List.perm_append_comm.append_right _
  | trans _ _ ih1 ih2 =>
    intro o h
    obtain ⟨o1, p1, h1⟩ := ih1 h
    obtain ⟨o2, p2, h2⟩ := ih2 h1
    exact ⟨o2, p1.trans p2, h2⟩

/-- The state of a call: its slots hold what the entries say; what is the call's own is met once; what was there is as it was. -/
structure St (g : Gh) (V : Loc → Value) (o : List Nat) (a : Act) (w : World) : Prop where
  val : ∀ t, V (.slot t) = a.tmps.getD t undef
  size : a.tmps.size = g.n
  defers : a.defers = []
  nodup : o.Nodup
  own : ∀ b ∈ o, b < w.heap.size ∧ (g.w0.heap.size ≤ b ∨ b ∈ g.io) ∧ ¬ g.imm b
  imm : ∀ b, g.imm b → b < w.heap.size
  chg : Chg g.io g.w0 w

def Sat (g : Gh) (es : List Ent) (a : Act) (w : World) : Prop := ∃ V o, St g V o a w ∧ Es g V w es o

theorem Sat.perm {g : Gh} {es fs : List Ent} {a : Act} {w : World} (h : Sat g es a w) (hp : es.Perm fs) : Sat g fs a w := by
  obtain ⟨V, o, hs, he⟩ := h
  obtain ⟨o', hp', he'⟩ := Es_perm hp he
  exact ⟨V, o', ⟨hs.val, hs.size, hs.defers, hp'.nodup_iff.1 hs.nodup, fun b hb => hs.own b (hp'.mem_iff.2 hb), hs.imm, hs.chg⟩, he'⟩

theorem Sat.dropLeft {g : Gh} {es fs : List Ent} {a : Act} {w : World} (h : Sat g (es ++ fs) a w) : Sat g fs a w := by
  obtain ⟨V, o, hs, he⟩ := h
  obtain ⟨o1, o2, rfl, _, h2⟩ := Es_append.1 he
  exact ⟨V, o2, ⟨hs.val, hs.size, hs.defers, (List.nodup_append.1 hs.nodup).2.1, fun b hb => hs.own b (by simp [hb]), hs.imm, hs.chg⟩, h2⟩

theorem Sat.sub {g : Gh} {es fs : List Ent} {a : Act} {w : World} (h : Sat g es a w) (hs : ∃ ds, es.Perm (ds ++ fs)) : Sat g fs a w :=
  let ⟨_, hp⟩ := hs; (h.perm hp).dropLeft

end Go.Abs
