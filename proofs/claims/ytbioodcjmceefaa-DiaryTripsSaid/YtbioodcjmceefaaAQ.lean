/-
  A variable is stored into itself.
-/
import Derived.Test.YtbioodcjmceefaaAP
namespace Go.Abs

/-- The cells of a copy of a variable, held against the variable's own. -/
inductive Selfs (t : Nat) : Nat → List AV → List AV → Prop
  | nil (i : Nat) : Selfs t i [] []
  | same {i : Nat} {ds cs : List AV} (c : AV) (h : Selfs t (i + 1) ds cs) : Selfs t i (.same (.cell t i) :: ds) (c :: cs)
  | eq {i : Nat} {ds cs : List AV} (c : AV) (h : Selfs t (i + 1) ds cs) : Selfs t i (c :: ds) (c :: cs)

theorem Selfs_Rs {g : Gh} {V : Loc → Value} {w : World} {t : Nat} : ∀ {i : Nat} {ds cs : List AV} {xs ys : List Value} {o : List Nat}, Selfs t i ds cs → Rs g V w ds ys [] → Rs g V w cs xs o → (∀ j x, xs[j]? = some x → V (.cell t (i + j)) = x) → ∃ o', o'.Sublist o ∧ Rs g V w cs ys o'
  | i, _, _, xs, ys, o, .nil _, h1, h2, _ => ⟨o, List.Sublist.refl _, by simp only [Rs] at *; exact ⟨h1.1, h2.2⟩⟩
  | i, _, _, xs, ys, o, .same c h, h1, h2, hv => by
    simp only [Rs] at h1 h2
    obtain ⟨y, ys', p1, p2, rfl, hp, a1, a2⟩ := h1
    obtain ⟨x, xs', o1, o2, rfl, rfl, b1, b2⟩ := h2
    obtain ⟨rfl, rfl⟩ := List.append_eq_nil_iff.1 hp.symm
    obtain ⟨o', s1, s2⟩ := Selfs_Rs h a2 b2 (fun j x hx => by
      have := hv (j + 1) x (by simpa using hx)
      rwa [show i + (j + 1) = i + 1 + j by omega] at this)
    simp only [R] at a1
    have e : y = x := by rw [a1.1]; exact hv 0 x (by simp)
    subst e
    exact ⟨o1 ++ o', s1.append_left o1, by simp only [Rs]; exact ⟨y, ys', o1, o', rfl, rfl, b1, s2⟩⟩
  | i, _, _, xs, ys, o, .eq c h, h1, h2, hv => by
    simp only [Rs] at h1 h2
    obtain ⟨y, ys', p1, p2, rfl, hp, a1, a2⟩ := h1
    obtain ⟨x, xs', o1, o2, rfl, rfl, b1, b2⟩ := h2
    obtain ⟨rfl, rfl⟩ := List.append_eq_nil_iff.1 hp.symm
    obtain ⟨o', s1, s2⟩ := Selfs_Rs h a2 b2 (fun j x hx => by
      have := hv (j + 1) x (by simpa using hx)
      rwa [show i + (j + 1) = i + 1 + j by omega] at this)
    exact ⟨o', s1.trans (List.sublist_append_right o1 o2), by simp only [Rs]; exact ⟨y, ys', [], o', rfl, rfl, a1, s2⟩⟩

section
variable {P : Program} {ty : TypeId} {pos : String} {aft : Array Edge} {gd : Option (Nat × Bool)}

/-- A store of a variable's own value into it. -/
theorem op_store_self (N : List Ent) {T : TypeId} (ax vx : Operand) {T' : TypeId} {cs ds : List AV} (u t s : Nat) (hs : (P.info? T).map (·.size) = some s)
    (hx : dupOp (N ++ [(u, .agg ds), (t, .box T' cs)]) ax = .ptr t 0) (hv : dupOp (N ++ [(u, .agg ds), (t, .box T' cs)]) vx = .agg ds) (hok : cellsOk (N ++ [(u, .agg ds), (t, .box T' cs)]) (.agg ds) = true) (hd : ds.length = s) (hl : cs.length = s)
    (hse : Selfs t 0 ds cs) (hcl : clrs (cellsW t 0 s) cs = true) :
    LOp P ⟨none, .store T ax vx, ty, pos, aft, gd⟩ N [(u, .agg ds), (t, .box T' cs)] [(t, .box T' cs)] (cellsW t 0 s) := by
  refine LOp.core fun g V oN oT a w hdd hp => ?_
  have hB' : Es g V w [(u, .agg ds), (t, .box T' cs)] oT := hp.esT
  have hB := hB'
  simp only [Es] at hB
  obtain ⟨ou, oq, rfl, hU, ob, o2, rfl, hER, rfl⟩ := hB
  obtain ⟨hR1, htie⟩ := hER
  simp only [R] at hR1
  obtain ⟨b, xs, os, h3, rfl, hh, hrs⟩ := hR1
  dsimp only at htie h3
  have hNT := Es_append.2 ⟨oN, _, rfl, hp.esN, hB'⟩
  have hax := dupOp_R hp.val hNT ax
  rw [hx] at hax
  simp only [R] at hax
  obtain ⟨b2, h4, h5, _⟩ := hax
  rw [h3] at h4; cases h4
  have hval := dupOp_R hp.val hNT vx
  rw [hv] at hval
  obtain ⟨hvc, hone⟩ := vcells_R hNT hok hval
  simp only [vcells] at hvc
  have hl1 := Rs_length hvc
  have hl2 := Rs_length hrs
  have hVx : ∀ j x, xs[j]? = some x → V (.cell t (0 + j)) = x := by
    intro j x hx
    have hj := (List.getElem?_eq_some_iff.1 hx).1
    have hcell := htie b h3 j (by omega)
    rw [cell_of_row w b j _ T' (0, 0) hh] at hcell
    simp only [List.getElem?_toArray, hx, Option.some.injEq] at hcell
    rw [Nat.zero_add]; exact hcell.symm
  obtain ⟨os', hsub, hnew0⟩ := Selfs_Rs hse hvc hrs hVx
  obtain ⟨ys, hys⟩ : ∃ ys, ys = (a.eval vx).cells.toList := ⟨_, rfl⟩
  rw [← hys] at hvc hone hl1 hnew0
  have hrun : (execOp a.eval ⟨none, .store T ax vx, ty, pos, aft, gd⟩).run P w = .ok .skip (w.setRow b ys.toArray) := by
    have := run_storeRow (P := P) (w := w) (T := T) (off := 0) hs hh (v := a.eval vx) (by rw [← hd, ← hl1, hys]; simp) (by rw [← hys]; exact hone) (by omega)
    have e : (xs.take 0 ++ (a.eval vx).cells.toList ++ xs.drop (0 + s)).toArray = ys.toArray := by
      rw [← hys, Nat.zero_add, List.drop_eq_nil_of_le (by omega)]; simp
    rw [e] at this
    simp [execOp, Instr.storeAt, h5, Instr.sureAddr, this]
  refine (Yl.skip hrun).mono ?_
  rintro y w' ⟨rfl, rfl⟩
  have hnd := hp.nodup
  have hndT : (b :: os).Nodup := by have := (List.nodup_append.1 (List.nodup_append.1 hnd).2.1).2.1; simpa using this
  have hlt : ∀ c, c ∈ b :: os → c < w.heap.size ∧ ¬ g.imm c := fun c hc => hp.own c (by simp at hc ⊢; exact .inr (.inr hc))
  have hbi := (hlt b (by simp)).2
  have hbo : b ∉ os := (List.nodup_cons.1 hndT).1
  have hchg : Chg [b] w (w.setRow b ys.toArray) := setRow_chg _ _ _
  have hblk : ∀ c, c ≠ b → (w.setRow b ys.toArray).heap[c]? = w.heap[c]? := fun c hc => setRow_other w b c _ hc
  have hvl : ys.length = s := by omega
  have hV' : ∀ l, hit (cellsW t 0 s) l = false → setC V t 0 ys l = V l := fun l hl => setC_hit (by rw [hvl]; exact hl)
  have hnew := Rs_stab (W := cellsW t 0 s) (g := g) (g' := g) (V' := setC V t 0 ys) (w' := w.setRow b ys.toArray) (fun _ h => h) (fun _ h => h) hV' cs ys os' hcl (fun c hcc => hblk c (by
    rcases hcc with hcc | hcc
    · rintro rfl; exact hbo (hsub.subset hcc)
    · rintro rfl; exact hbi hcc)) hnew0
  refine ⟨g, setC V t 0 ys, b :: os', g.le_refl, fun c hc => .inl hc, fun c hc => ?_, hchg.mono (by simp), hV', ?_, ?_, ?_, ?_⟩
  · exact Nat.lt_of_lt_of_le (hp.imm c (.inl hc)) hchg.size
  · intro u; simp only [setC, Act.put]; exact hp.val u
  · refine ⟨b :: os', [], by simp, ⟨?_, ?_⟩, rfl⟩
    · show R _ _ _ (.box T' _) (setC V t 0 _ (.slot t)) _
      simp only [R, setC]
      exact ⟨b, ys, os', h3, rfl, setRow_heap w b _ _ T' _ hh, hnew⟩
    · intro b' hb' i hi
      simp only [setC] at hb'
      rw [h3] at hb'; cases hb'
      have hhn := setRow_heap w b xs.toArray ys.toArray T' _ hh
      rw [cell_of_row _ b i _ T' (0, 0) hhn]
      have h6 : i < ys.length := by omega
      simp only [List.getElem?_toArray, setC, true_and]
      rw [if_pos ⟨Nat.zero_le _, by omega⟩, List.getElem?_eq_getElem h6]
      simp [List.getD_eq_getElem?_getD, List.getElem?_eq_getElem h6]
  · exact List.Nodup.sublist (hsub.cons_cons b) hndT
  · intro c hc
    have hc' : c ∈ b :: os := by
      rcases List.mem_cons.1 hc with h | h
      · simp [h]
      · exact List.mem_cons_of_mem _ (hsub.subset h)
    exact ⟨.inl (by simp at hc' ⊢; exact .inr hc'), Nat.lt_of_lt_of_le (hlt c hc').1 hchg.size, (hlt c hc').2⟩
end
end Go.Abs
