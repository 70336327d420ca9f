/-
  Operations that write: into the call's own variables, into rows of its own; what makes rows.
-/
import Derived.Test.YtbioodcjmceefaaA6
namespace Go.Abs

section
variable {g : Gh} {V : Loc → Value} {w : World}
theorem Rs_append : ∀ {cs ds : List AV} {xs : List Value} {o : List Nat}, Rs g V w (cs ++ ds) xs o ↔ ∃ x1 x2 o1 o2, xs = x1 ++ x2 ∧ o = o1 ++ o2 ∧ Rs g V w cs x1 o1 ∧ Rs g V w ds x2 o2
  | [], ds, xs, o => by
    constructor
    · intro h; exact ⟨[], xs, [], o, rfl, rfl, by simp [Rs], h⟩
    · rintro ⟨x1, x2, o1, o2, rfl, rfl, h1, h2⟩
      simp only [Rs] at h1
      obtain ⟨rfl, rfl⟩ := h1
      exact h2
  | c :: cs, ds, xs, o => by
    constructor
    · intro h
      simp only [List.cons_append, Rs] at h
      obtain ⟨x, xs', o1, o2, rfl, rfl, h1, h2⟩ := h
      obtain ⟨x1, x2, o3, o4, rfl, rfl, h3, h4⟩ := Rs_append.1 h2
      exact ⟨x :: x1, x2, o1 ++ o3, o4, rfl, by simp, by simp only [Rs]; exact ⟨x, x1, o1, o3, rfl, rfl, h1, h3⟩, h4⟩
    · rintro ⟨x1, x2, o1, o2, rfl, rfl, h1, h2⟩
      simp only [Rs] at h1
      obtain ⟨x, xs', o3, o4, rfl, rfl, h3, h4⟩ := h1
      simp only [List.cons_append, Rs]
      exact ⟨x, xs' ++ x2, o3, o4 ++ o2, rfl, by simp, h3, Rs_append.2 ⟨xs', x2, o4, o2, rfl, rfl, h4, h2⟩⟩
end

theorem nodup_swap {b : Nat} {oV o1 o2 o3 : List Nat} (h : (oV ++ (b :: (o1 ++ (o2 ++ o3)))).Nodup) : (b :: (o1 ++ (oV ++ o3))).Nodup := by
  have p : (oV ++ (b :: (o1 ++ (o2 ++ o3)))).Perm ((b :: (o1 ++ (oV ++ o3))) ++ o2) := by
    rw [List.perm_iff_count]
    intro a
    simp only [List.count_append, List.count_cons]
    omega
  exact (List.nodup_append.1 (p.nodup_iff.1 h)).1

theorem setRow_chg (w : World) (b : Nat) (cs : Array Value) : Chg [b] w (w.setRow b cs) :=
  ⟨rfl, rfl, rfl, by simp [World.setRow], fun k _ hk => setRow_other w b k cs (fun e => hk (by simp [e]))⟩

def cellsW (t off s : Nat) : List Loc := (List.range s).map fun i => .cell t (off + i)

theorem hit_cellsW {t off s : Nat} {l : Loc} (h : hit (cellsW t off s) l = false) : ∀ i, off ≤ i → i < off + s → l ≠ .cell t i := by
  intro i h1 h2 e
  subst e
  simp only [hit, cellsW, List.any_eq_false] at h
  have := h (.cell t i) (List.mem_map.2 ⟨i - off, by simp; omega, by congr 1; omega⟩)
  simp at this

/-- The names of a variable's cells behind a store. -/
def setC (V : Loc → Value) (t off : Nat) (vs : List Value) : Loc → Value
  | .slot u => V (.slot u)
  | .cell u i => if u = t ∧ off ≤ i ∧ i < off + vs.length then vs.getD (i - off) undef else V (.cell u i)
theorem setC_hit {V : Loc → Value} {t off : Nat} {vs : List Value} {l : Loc} (h : hit (cellsW t off vs.length) l = false) : setC V t off vs l = V l := by
  cases l with
  | slot u => rfl
  | cell u i =>
    simp only [setC]
    rw [if_neg]
    rintro ⟨rfl, h1, h2⟩
    exact hit_cellsW h i h1 h2 rfl

section
variable {P : Program} {ty : TypeId} {pos : String} {aft : Array Edge} {gd : Option (Nat × Bool)}

/-- A store into a variable of the call's own: the frame of the rules. TV: what of the value is taken. -/
theorem store_core (N TV : List Ent) {T : TypeId} (ax vx : Operand) {T' : TypeId} {cs : List AV} (t off s : Nat) (av : AV) (cs' : List AV) (hs : (P.info? T).map (·.size) = some s)
    (hx : dupOp (N ++ [(t, .box T' cs)]) ax = .ptr t off)
    (hv : ∀ (g : Gh) (V : Loc → Value) (oN oV : List Nat) (a : Act) (w : World), (∀ t, V (.slot t) = a.tmps.getD t undef) → Es g V w N oN → Es g V w TV oV → R g V w av (a.eval vx) oV)
    (hok : cellsOk (N ++ TV) av = true) (hlen : (vcells av).length = s) (hfit : off + s ≤ cs.length) (hcs : cs.take off ++ (vcells av ++ cs.drop (off + s)) = cs') (hcl : clrs (cellsW t off s) cs' = true) :
    LOp P ⟨none, .store T ax vx, ty, pos, aft, gd⟩ N (TV ++ [(t, .box T' cs)]) [(t, .box T' cs')] (cellsW t off s) := by
  subst hcs
  refine LOp.core fun g V oN oT a w hd hp => ?_
  obtain ⟨oV, oB, rfl, hV, hB⟩ := Es_append.1 hp.esT
  have hB' : Es g V w [(t, .box T' cs)] oB := hB
  simp only [Es] at hB
  obtain ⟨ob, o2, rfl, hER, rfl⟩ := hB
  have hlk : look [(t, AV.box T' cs)] t = .box T' cs := by simp [look]
  obtain ⟨b, xs, os, h3, hh, hrs, hnm, _⟩ := box_look hB' hlk
  have hobe : ob = b :: os ∨ True := .inr trivial
  -- the owned blocks of the variable
  obtain ⟨hR1, htie⟩ := hER
  simp only [R] at hR1
  obtain ⟨b1, xs1, os1, h31, rfl, hh1, hrs1⟩ := hR1
  rw [h3] at h31; cases h31
  rw [hh] at hh1
  have hxs : xs = xs1 := by injection hh1 with hh1; injection hh1 with hh1; simpa using congrArg Array.toList hh1
  subst hxs
  clear hrs hh1
  have hax := dupOp_R hp.val (Es_append.2 ⟨oN, _, rfl, hp.esN, hB'⟩) ax
  rw [hx] at hax
  simp only [R] at hax
  obtain ⟨b2, h4, h5, _⟩ := hax
  rw [h3] at h4; cases h4
  have hval := hv g V oN oV a w hp.val hp.esN hV
  have hNV : Es g V w (N ++ TV) (oN ++ oV) := Es_append.2 ⟨_, _, rfl, hp.esN, hV⟩
  obtain ⟨hvc, hone⟩ := vcells_R hNV hok hval
  have hl1 := Rs_length hvc
  have hl2 := Rs_length hrs1
  have hrun : (execOp a.eval ⟨none, .store T ax vx, ty, pos, aft, gd⟩).run P w = .ok .skip (w.setRow b (xs.take off ++ (a.eval vx).cells.toList ++ xs.drop (off + s)).toArray) := by
    have := run_storeRow (P := P) (w := w) (T := T) (off := off) hs hh (v := a.eval vx) (by rw [← hlen, ← hl1]; simp) hone (by omega)
    simp [execOp, Instr.storeAt, h5, Instr.sureAddr, this]
  refine (Yl.skip hrun).mono ?_
  rintro y w' ⟨rfl, rfl⟩
  have hnd := hp.nodup
  have hbT : ∀ c, c ∈ oV ++ ((b :: os1) ++ []) → c < w.heap.size := fun c hc => (hp.own c (by simp at hc ⊢; rcases hc with h | h | h <;> simp [h])).1
  have hchg : Chg [b] w (w.setRow b (xs.take off ++ (a.eval vx).cells.toList ++ xs.drop (off + s)).toArray) := setRow_chg _ _ _
  have hblk : ∀ c, c ≠ b → (w.setRow b (xs.take off ++ (a.eval vx).cells.toList ++ xs.drop (off + s)).toArray).heap[c]? = w.heap[c]? := fun c hc => setRow_other w b c _ hc
  have hvl : (a.eval vx).cells.toList.length = s := by rw [hl1, hlen]
  have hV' : ∀ l, hit (cellsW t off s) l = false → setC V t off (a.eval vx).cells.toList l = V l := fun l hl => setC_hit (by rw [hvl]; exact hl)
  -- the cells ahead and behind
  have hsplit : cs = cs.take off ++ ((cs.drop off).take s ++ cs.drop (off + s)) := by
    rw [← List.drop_drop, List.take_append_drop, List.take_append_drop]
  rw [hsplit] at hrs1
  obtain ⟨x1, x23, o1, o23, hx123, ho123, hc1, hc23⟩ := Rs_append.1 hrs1
  obtain ⟨x2, x3, o2', o3, rfl, rfl, hc2, hc3⟩ := Rs_append.1 hc23
  have e1 : xs.take off = x1 := by
    have : x1.length = off := by rw [Rs_length hc1]; simp; omega
    rw [hx123, ← this]; simp
  have e3 : xs.drop (off + s) = x3 := by
    have h6 : x1.length = off := by rw [Rs_length hc1]; simp; omega
    have h7 : x2.length = s := by rw [Rs_length hc2]; simp; omega
    rw [hx123, ← h6, ← h7, ← List.append_assoc, ← List.length_append]; simp
  rw [clrs_append, clrs_append, Bool.and_eq_true, Bool.and_eq_true] at hcl
  have hbo : b ∉ os1 := by
    have := (List.nodup_append.1 hnd).2.1
    have := (List.nodup_append.1 this).2.1
    simp at this; exact this.1
  have hbV : b ∉ oV := by
    intro hc
    have := (List.nodup_append.1 hnd).2.1
    exact (List.nodup_append.1 this).2.2 b hc b (by simp) rfl
  have hbi : ¬ g.imm b := (hp.own b (by simp)).2
  have st : ∀ (ds : List AV) (ys : List Value) (od : List Nat), clrs (cellsW t off s) ds = true → (∀ c ∈ od, c ∈ os1 ∨ c ∈ oV) → Rs g V w ds ys od →
      Rs g (setC V t off (a.eval vx).cells.toList) (w.setRow b (xs.take off ++ (a.eval vx).cells.toList ++ xs.drop (off + s)).toArray) ds ys od := by
    intro ds ys od hc hod hr
    refine Rs_stab (W := cellsW t off s) (fun _ h => h) (fun _ h => h) hV' ds ys od hc (fun c hcc => hblk c ?_) hr
    rcases hcc with hcc | hcc
    · rintro rfl
      rcases hod _ hcc with h | h
      · exact hbo h
      · exact hbV h
    · rintro rfl; exact hbi hcc
  have hnew := Rs_append.2 ⟨_, _, _, _, rfl, rfl, st _ _ _ hcl.1 (fun c hc => .inl (by rw [ho123]; simp [hc])) hc1, Rs_append.2 ⟨_, _, _, _, rfl, rfl, st _ _ _ hcl.2.1 (fun c hc => .inr hc) hvc, st _ _ _ hcl.2.2 (fun c hc => .inl (by rw [ho123]; simp [hc])) hc3⟩⟩
  have hsub : ∀ c, c ∈ b :: (o1 ++ (oV ++ o3)) → c ∈ oV ++ (b :: os1 ++ []) := by
    intro c hc
    rw [ho123]
    simp at hc ⊢
    rcases hc with h | h | h | h <;> simp [h]
  refine ⟨g, setC V t off (a.eval vx).cells.toList, b :: (o1 ++ (oV ++ o3)), g.le_refl, fun c hc => .inl hc, fun c hc => ?_, hchg.mono (by simp), hV', ?_, ?_, ?_, ?_⟩
  · exact Nat.lt_of_lt_of_le (hp.imm c (.inl hc)) hchg.size
  · intro u; simp only [setC, Act.put]; exact hp.val u
  · refine ⟨b :: (o1 ++ (oV ++ o3)), [], by simp, ⟨?_, ?_⟩, rfl⟩
    · show R _ _ _ (.box T' _) (setC V t off _ (.slot t)) _
      simp only [R, setC]
      refine ⟨b, x1 ++ ((a.eval vx).cells.toList ++ x3), _, h3, rfl, ?_, hnew⟩
      rw [e1, e3, List.append_assoc]
      exact setRow_heap w b _ _ T' _ hh
    · intro b' hb' i hi
      simp only [setC] at hb'
      rw [h3] at hb'; cases hb'
      have hhn := setRow_heap w b xs.toArray (xs.take off ++ (a.eval vx).cells.toList ++ xs.drop (off + s)).toArray T' _ hh
      rw [cell_of_row _ b i _ T' (0, 0) hhn]
      simp only [List.getElem?_toArray, setC, true_and]
      have hxl : (xs.take off).length = off := by simp; omega
      have hi' : i < xs.length := by
        simp only [List.length_append, List.length_take, List.length_drop, hlen] at hi; omega
      by_cases h6 : off ≤ i ∧ i < off + (a.eval vx).cells.toList.length
      · rw [if_pos h6, List.append_assoc, List.getElem?_append_right (by omega), hxl, List.getElem?_append_left (by omega)]
        have : i - off < (a.eval vx).cells.toList.length := by omega
        simp [List.getD_eq_getElem?_getD, List.getElem?_eq_getElem this]
      · rw [if_neg h6]
        have hold : xs[i]? = some (V (.cell t i)) := by
          rw [List.getElem?_eq_getElem hi', hnm i _ (List.getElem?_eq_getElem hi')]
        rw [← hold]
        by_cases h7 : i < off
        · rw [List.append_assoc, List.getElem?_append_left (by omega), List.getElem?_take, if_pos h7]
        · rw [List.getElem?_append_right (by rw [List.length_append, hxl]; omega), List.getElem?_drop]
          congr 1
          simp only [List.length_append, hxl]; omega
  · have h6 := (List.nodup_append.1 hnd).2.1
    simp only [List.append_nil] at h6
    rw [ho123] at h6
    exact nodup_swap h6
  · intro c hc
    have h6 := hsub c hc
    exact ⟨.inl h6, Nat.lt_of_lt_of_le (hbT c (by simpa using h6)) hchg.size, (hp.own c (by simp at h6 ⊢; rcases h6 with h | h | h <;> simp [h])).2⟩

/-- The value is copied. -/
theorem op_store (N : List Ent) {T : TypeId} (ax vx : Operand) {T' : TypeId} {cs : List AV} (t off s : Nat) (av : AV) (cs' : List AV) (hs : (P.info? T).map (·.size) = some s)
    (hx : dupOp (N ++ [(t, .box T' cs)]) ax = .ptr t off) (hv : dupOp N vx = av) (hok : cellsOk N av = true) (hlen : (vcells av).length = s) (hfit : off + s ≤ cs.length)
    (hcs : cs.take off ++ (vcells av ++ cs.drop (off + s)) = cs') (hcl : clrs (cellsW t off s) cs' = true) :
    LOp P ⟨none, .store T ax vx, ty, pos, aft, gd⟩ N [(t, .box T' cs)] [(t, .box T' cs')] (cellsW t off s) :=
  store_core N [] ax vx t off s av cs' hs hx (fun g V oN oV a w hval hN hV => by
    simp only [Es] at hV; subst hV; rw [← hv]; exact dupOp_R hval hN vx) (by simpa using hok) hlen hfit hcs hcl

/-- The value is taken from its slot. -/
theorem op_store_take (N : List Ent) {T : TypeId} (ax : Operand) (u : Nat) {T' : TypeId} {cs : List AV} (t off s : Nat) (av : AV) (cs' : List AV) (hs : (P.info? T).map (·.size) = some s)
    (hx : dupOp (N ++ [(t, .box T' cs)]) ax = .ptr t off) (hok : cellsOk (N ++ [(u, av)]) av = true) (hlen : (vcells av).length = s) (hfit : off + s ≤ cs.length)
    (hcs : cs.take off ++ (vcells av ++ cs.drop (off + s)) = cs') (hcl : clrs (cellsW t off s) cs' = true) :
    LOp P ⟨none, .store T ax (.tmp u), ty, pos, aft, gd⟩ N [(u, av), (t, .box T' cs)] [(t, .box T' cs')] (cellsW t off s) :=
  store_core N [(u, av)] ax (.tmp u) t off s av cs' hs hx (fun g V oN oV a w hval hN hV => by
    simp only [Es] at hV
    obtain ⟨o1, o2, rfl, ⟨hr, _⟩, rfl⟩ := hV
    simp only [Act.eval, ← hval, List.append_nil]; exact hr) hok hlen hfit hcs hcl
end
end Go.Abs
