/-
  Operations on rows, on: appends, copies, literals, pieces; structs put together.
-/
import Derived.Test.YtbioodcjmceefaaA8
import Derived.Laws.Slices
namespace Go.Abs

section
variable {P : Program}
theorem run_append_none' {w : World} (t ty e : TypeId) (i : TypeInfo) (size : Nat) (ht : P.underlying t = some (.slice e)) (hi : P.info? e = some i) (c : Nat)
    (v : Value) (n : Nat) (xs : List Value) (hown : w.ownsRow 0 e size v n xs) :
    (Builtin.append_ #[t, t] ty #[v, .slice none 0 c]).run P w = .ok v w := by
  rcases hown.2 with ⟨rfl, rfl⟩ | ⟨g, cap, cur, rfl, _, _, hnc, _⟩
  · simp [Builtin.append_, run_underlying ht, sizeOf, typeInfo, hi, Builtin.lenOf, Builtin.firstCells]
  · simp [Builtin.append_, run_underlying ht, sizeOf, typeInfo, hi, Builtin.lenOf, Builtin.firstCells, hnc, storeCells]

theorem run_append_one {w w' : World} (T ty e : TypeId) (i : TypeInfo) (zv : Value) (hT : P.underlying T = some (.slice e)) (hi : P.info? e = some i) (hz : i.zero = some zv)
    (a : Addr) (m c : Nat) (ys : List Value) (hl : ys.length = m * i.size) (hnews : ∀ j u, ys[j]? = some u → w.cell? (a.add j) = some u) (h63 : 0 + m ≤ maxLen) (hb : (0 + m) * i.bytes ≤ 140737488355328) {g n cap : Nat}
    (hr : (Builtin.append_ #[T, T] ty #[.slice none 0 0, .slice (some a) m c]).run P w = .ok (.slice (some ⟨g, 0, none⟩) n cap) w') (hge : w.heap.size ≤ g) (hne : g ≠ w.heap.size) : False := by
  by_cases hm : m = 0
  · subst hm
    have hn : ys = [] := List.eq_nil_of_length_eq_zero (by simpa using hl)
    subst hn
    simp [Builtin.append_, run_underlying hT, sizeOf, typeInfo, hi, Builtin.lenOf, Builtin.firstCells, loadCells, loadCellsFrom] at hr
  · have hsmall : m ≤ 9223372036854775807 := by simp only [maxLen] at h63; omega
    have hr2 := run_append_nil (P := P) w T ty e i zv hT hi hz a m c ys hl hnews (by omega) (by omega) (by have hb := hb; simp only [Nat.zero_add] at hb; omega)
    rw [hr2] at hr
    cases hr
    exact hne rfl

/-- An append onto an own row, of whatever reads as a list: in the row's own block, or in a new one. -/
theorem run_append_fl {w : World} {T ty e : TypeId} {i : TypeInfo} {zv : Value} {z : Nat} (hT : P.underlying T = some (.slice e)) (hi : P.info? e = some i) (hz : i.zero = some zv) (hs : i.size = z) (hzc : zv.cells.size = z) (h0 : 0 < z)
    {v : Value} {n m c : Nat} {xs ys : List Value} {A : Option Addr} (hown : w.ownsRow 0 e z v n xs) (hy : ys.length = m * z) (hr : reads w A ys) (h1 : ∀ u ∈ ys, u.oneCell' = true) (h63 : n + m ≤ maxLen) (hb : (n + m) * i.bytes ≤ 140737488355328) :
    ∃ v' w', (Builtin.append_ #[T, T] ty #[v, .slice A m c]).run P w = .ok v' w' ∧ w'.ownsRow 0 e z v' (n + m) (xs ++ ys) ∧ w.grownBy w' v.ownBlock ∧ (v'.ownBlock = v.ownBlock ∨ v'.ownBlock = some w.heap.size) := by
  cases A with
  | none =>
    have : ys = [] := by
      apply Classical.byContradiction
      intro hne
      obtain ⟨ad, e, _⟩ := hr hne
      cases e
    subst this
    have hm : m = 0 := by
      rcases Nat.eq_zero_or_pos m with h | h
      · exact h
      · have := Nat.mul_pos h h0; simp at hy; omega
    subst hm
    refine ⟨v, w, run_append_none' T ty e i z hT hi c v n xs hown, by simpa using hown, ⟨rfl, rfl, rfl, Nat.le_refl _, fun _ _ _ => rfl⟩, .inl rfl⟩
  | some a =>
    have hnews : ∀ j u, ys[j]? = some u → w.cell? (a.add j) = some u := by
      intro j u hu
      obtain ⟨ad, e, hc⟩ := hr (fun e => by subst e; simp at hu)
      cases e
      exact hc j u hu
    rcases hown.2 with ⟨rfl, rfl⟩ | ⟨g, cap, cur, rfl, hbg, hg, hnc, hcm, hcs, htake⟩
    · have hxs : xs = [] := List.eq_nil_of_length_eq_zero (by rw [hown.1]; simp)
      subst hxs
      obtain ⟨v', w', h1', h2', h3', _⟩ := run_append_own (P := P) w w.heap.size T ty e i zv z i.bytes hT hi hz hs rfl hzc h0 _ 0 [] (World.ownsRow_nil w _ e z) a m c ys hy hnews h1 h63 hb (Nat.le_refl _)
      refine ⟨v', w', h1', ?_, h3', ?_⟩
      · refine ⟨h2'.1, h2'.2.imp id ?_⟩
        rintro ⟨g, cap, cur, hv, _, r⟩
        exact ⟨g, cap, cur, hv, Nat.zero_le _, r⟩
      · rcases h2'.2 with ⟨rfl, _⟩ | ⟨g, cap, cur, rfl, hge, hh, _⟩
        · exact .inl rfl
        · refine .inr ?_
          have hlt := (Array.getElem?_eq_some_iff.1 hh).1
          by_cases hgs : g = w.heap.size
          · simp [Value.ownBlock, hgs]
          · exfalso
            exact run_append_one (P := P) (w := w) T ty e i zv hT hi hz a m c ys (hs ▸ hy) hnews h63 hb h1' hge hgs
    · by_cases hroom : n + m ≤ cap
      · obtain ⟨w', h1', h2', h3'⟩ := run_append_fits (P := P) w 0 T ty e i z hT hi hs g n cap xs hown a m c ys hy hnews h1 hroom
        exact ⟨_, w', h1', h2', h3', .inl rfl⟩
      · subst hs
        have holds : ∀ j u, xs[j]? = some u → w.cell? ((⟨g, 0, none⟩ : Addr).add j) = some u := hown.cells (g := g) rfl
        have hsmall : n + m ≤ 9223372036854775807 := by simp only [maxLen] at h63; omega
        have hlen : (xs ++ ys).length = (n + m) * i.size := by rw [List.length_append, hown.1, hy, Nat.add_mul]
        have hr' := run_append_grow (P := P) w T ty e i zv hT hi hz ⟨g, 0, none⟩ n cap xs hown.1 holds a m c ys hy hnews (by omega) (by omega) (growslice_fits (by omega) hb)
        have hge := grownCap_ge w (n + m) cap e
        have hcm' : grownCap w (n + m) cap e ≤ maxLen := grownCap_le_maxLen w (n + m) cap e h63
        refine ⟨_, _, hr', ⟨hlen, .inr ⟨w.heap.size, _, _, rfl, Nat.zero_le _, heap_alloc_new w.drew _, hge, hcm', ?_, ?_⟩⟩, ⟨rfl, rfl, rfl, by simp, fun k hk _ => heap_alloc_old w.drew _ k hk⟩, .inr rfl⟩
        · simp only [Array.size_append, List.size_toArray, size_zeroCells, hzc, hown.1, hy, ← Nat.add_mul]
          congr 1
          omega
        · simp only [Array.toList_append, List.append_assoc]
          rw [← List.append_assoc, ← hlen]
          exact List.take_left

section
variable {ty : TypeId} {pos : String} {aft : Array Edge} {gd : Option (Nat × Bool)}

structure ElemT (P : Program) (T e : TypeId) (z by_ : Nat) : Prop where
  ex : ∃ (i : TypeInfo) (zv : Value), P.underlying T = some (.slice e) ∧ P.info? e = some i ∧ i.zero = some zv ∧ i.size = z ∧ zv.cells.size = z ∧ 0 < z ∧ i.bytes = by_

/-- Onto nil. -/
theorem op_append_nil (N : List Ent) (d : Nat) {T e t' : TypeId} (x y : Operand) {z by_ : Nat} {my : Md} {ys : List Value} (m : Nat) (hE : ElemT P T e z by_) (hx : rd N x = .v (.slice none 0 0)) (hy : rd N y = .fl my z ys) (hm : ys.length = m * z)
    (hb : m * by_ ≤ 140737488355328) (h63 : m ≤ maxLen) :
    LOp P ⟨some d, .call ⟨.builtin .append, #[x, y], #[T, T]⟩, t', pos, aft, gd⟩ N [] [(d, .fl (.own e) z ys)] [.slot d] := by
  obtain ⟨i, zv, hT, hi, hz, hs, hzc, h0, rfl⟩ := hE.ex
  refine LOp.fresh rfl rfl fun g V oN a w hp => ?_
  have h1 := rd_v hp.val hp.esN hx
  obtain ⟨o', _, hr⟩ := rd_R hp.val hp.esN y
  rw [hy] at hr
  simp only [R] at hr
  obtain ⟨A, m', c, ⟨he, _⟩, hl, hone, hrd, _⟩ := hr
  have : m' = m := Nat.eq_of_mul_eq_mul_right h0 (by omega)
  subst this
  obtain ⟨v', w', hrun, hown, hg, hblk⟩ := run_append_fl (P := P) (ty := t') (c := c) hT hi hz hs hzc h0 (World.ownsRow_nil w 0 e z) hl hrd hone (by omega) (by simpa using hb)
  refine (Yl.val (by simp [execOp, resolve, invoke, builtin, h1, he, hrun] : (execOp a.eval ⟨some d, .call ⟨.builtin .append, #[x, y], #[T, T]⟩, t', pos, aft, gd⟩).run P w = .ok (.value v') w')).mono ?_
  rintro v w2 ⟨rfl, rfl⟩
  have hchg : Chg [] w w2 := (Chg.of_grown hg).mono (by simp [Value.ownBlock])
  simp only [List.nil_append] at hown
  refine ⟨hchg, g, v.ownBlock.toList, g.le_refl, fun b hb => .inl hb, own_fl hown hone, by cases v.ownBlock <;> simp, ?_⟩
  intro b hb'
  have hvb : v.ownBlock = some b := by cases hv : v.ownBlock <;> simp [hv] at hb' ⊢; exact hb'.symm
  have hlt := (hown.lt b hvb).2
  rcases hblk with h | h
  · rw [h] at hvb; cases hvb
  · rw [hvb] at h
    cases h
    exact ⟨Nat.le_refl _, hlt, fun hi => Nat.lt_irrefl _ (hp.imm _ (.inl hi))⟩

/-- Onto the own row of a slot. -/
theorem op_append (N : List Ent) (d t : Nat) {T e t' : TypeId} (x y : Operand) {z by_ : Nat} {my : Md} {xs ys : List Value} (n m : Nat) (hE : ElemT P T e z by_) (hx : dupOp (N ++ [(t, .fl (.own e) z xs)]) x = .same (.slot t)) (hy : rd N y = .fl my z ys)
    (hn : xs.length = n * z) (hm : ys.length = m * z) (hb : (n + m) * by_ ≤ 140737488355328) (h63 : n + m ≤ maxLen) :
    LOp P ⟨some d, .call ⟨.builtin .append, #[x, y], #[T, T]⟩, t', pos, aft, gd⟩ N [(t, .fl (.own e) z xs)] [(t, .any), (d, .fl (.own e) z (xs ++ ys))] [.slot d] := by
  obtain ⟨i, zv, hT, hi, hz, hs, hzc, h0, rfl⟩ := hE.ex
  refine LOp.core fun g V oN oT a w hd hp => ?_
  have hT' := hp.esT
  simp only [Es] at hT'
  obtain ⟨ob, o2, rfl, ⟨hR, _⟩, rfl⟩ := hT'
  have hax := dupOp_R hp.val (Es_append.2 ⟨oN, _, rfl, hp.esN, hp.esT⟩) x
  rw [hx] at hax
  simp only [R] at hax hR
  obtain ⟨a0, n0, c0, ⟨h3, _⟩, hl0, hone0, _, hown, hob⟩ := hR
  obtain ⟨o', _, hr⟩ := rd_R hp.val hp.esN y
  rw [hy] at hr
  simp only [R] at hr
  obtain ⟨A, m', c, ⟨he, _⟩, hl, hone, hrd, _⟩ := hr
  have em : m' = m := Nat.eq_of_mul_eq_mul_right h0 (by omega)
  subst em
  have en : n0 = n := Nat.eq_of_mul_eq_mul_right h0 (by omega)
  subst en
  obtain ⟨v', w', hrun, hown', hg, hblk⟩ := run_append_fl (P := P) (ty := t') (c := c) hT hi hz hs hzc h0 hown hl hrd hone h63 (by simpa using hb)
  have hrun' : (execOp a.eval ⟨some d, .call ⟨.builtin .append, #[x, y], #[T, T]⟩, t', pos, aft, gd⟩).run P w = .ok (.value v') w' := by
    have h4 : a.eval x = V (.slot t) := hax.1
    simp [execOp, resolve, invoke, builtin, he, h4, hrun]
  refine (Yl.val hrun').mono ?_
  rintro v w2 ⟨rfl, rfl⟩
  have hlt : d < g.n := hd d rfl
  have hchg : Chg ob w w2 := by rw [hob]; exact Chg.of_grown hg
  refine ⟨g, setV V d v, v.ownBlock.toList, g.le_refl, fun b hb => .inl hb, fun b hb => Nat.lt_of_lt_of_le (hp.imm b (.inl hb)) hchg.size, by simpa using hchg, fun l hl => setV_hit hl, fun u => setV_val hp.val hp.size hlt u, ?_, by cases v.ownBlock <;> simp, ?_⟩
  · refine ⟨[], v.ownBlock.toList, rfl, ⟨by simp [R], trivial⟩, v.ownBlock.toList, [], by simp, ⟨?_, trivial⟩, rfl⟩
    show R g _ _ _ (setV V d v (.slot d)) _
    rw [setV_slot]
    refine own_fl hown' fun u hu => ?_
    rcases List.mem_append.1 hu with h | h
    · exact hone0 u h
    · exact hone u h
  · intro b hb'
    have hvb : v.ownBlock = some b := by cases hv : v.ownBlock <;> simp [hv] at hb' ⊢; exact hb'.symm
    have hlt2 := (hown'.lt b hvb).2
    rcases hblk with h | h
    · have hin : b ∈ ob := by rw [hob, ← h, hvb]; simp
      exact ⟨.inl (by simp [hin]), hlt2, (hp.own b (by simp [hin])).2⟩
    · rw [hvb] at h
      cases h
      refine ⟨.inr (Nat.le_refl _), hlt2, fun hi => Nat.lt_irrefl _ (hp.imm _ hi)⟩

theorem Rs_setAny {g : Gh} {V : Loc → Value} {w : World} : ∀ {cs : List AV} {xs : List Value} {o : List Nat} (i : Nat), Rs g V w cs xs o → i < cs.length →
    ∃ o1 o2, o.Perm (o1 ++ o2) ∧ R g V w (cs.getD i .any) (xs.getD i undef) o1 ∧ Rs g V w (cs.set i .any) xs o2
  | [], _, _, i, _, hi => by simp at hi
  | c :: cs, xs, o, i, h, hi => by
    simp only [Rs] at h
    obtain ⟨x, xs', o1, o2, rfl, rfl, h1, h2⟩ := h
    cases i with
    | zero => exact ⟨o1, o2, .refl _, by simpa using h1, by simp only [List.set_cons_zero, Rs]; exact ⟨x, xs', [], o2, rfl, rfl, by simp [R], h2⟩⟩
    | succ i =>
      obtain ⟨o3, o4, hp, hr, hs⟩ := Rs_setAny i h2 (by simpa using hi)
      refine ⟨o3, o1 ++ o4, ?_, by simpa using hr, by simp only [List.set_cons_succ, Rs]; exact ⟨x, xs', o1, o4, rfl, rfl, h1, hs⟩⟩
      refine (hp.append_left o1).trans ?_
      rw [← List.append_assoc, ← List.append_assoc]
      exact List.perm_append_comm.append_right o4

/-- Onto the own row in a variable's cell. -/
theorem op_append_cell (N : List Ent) (d t i : Nat) {T e t' T' : TypeId} (x y : Operand) {z by_ : Nat} {my : Md} {cs : List AV} {xs ys : List Value} (n m : Nat) (hE : ElemT P T e z by_) (hx : dupOp N x = .same (.cell t i)) (hc : cs.getD i .any = .fl (.own e) z xs) (hic : i < cs.length)
    (hy : rd N y = .fl my z ys) (hn : xs.length = n * z) (hm : ys.length = m * z) (hb : (n + m) * by_ ≤ 140737488355328) (h63 : n + m ≤ maxLen) (hdt : d ≠ t) (hcl : clrs [.slot d] (cs.set i .any) = true) :
    LOp P ⟨some d, .call ⟨.builtin .append, #[x, y], #[T, T]⟩, t', pos, aft, gd⟩ N [(t, .box T' cs)] [(t, .box T' (cs.set i .any)), (d, .fl (.own e) z (xs ++ ys))] [.slot d] := by
  obtain ⟨ti, zv, hT, hi, hz, hs, hzc, h0, rfl⟩ := hE.ex
  refine LOp.core fun g V oN oT a w hd hp => ?_
  have hT' := hp.esT
  simp only [Es] at hT'
  obtain ⟨ob, o2, rfl, hER, rfl⟩ := hT'
  obtain ⟨hR, htie⟩ := hER
  have hax := dupOp_R hp.val hp.esN x
  rw [hx] at hax
  simp only [R] at hax hR
  obtain ⟨b, cur, os, hpt, rfl, hh, hrs⟩ := hR
  dsimp only at htie
  obtain ⟨o1, o3, hperm, hRi, hrest⟩ := Rs_setAny i hrs hic
  rw [hc] at hRi
  have hlen := Rs_length hrs
  have hcell := htie b hpt i hic
  rw [cell_of_row w b i _ T' (0, 0) hh] at hcell
  have hil : i < cur.length := by omega
  have hVc : V (.cell t i) = cur.getD i undef := by
    simp only [List.getElem?_toArray, List.getElem?_eq_getElem hil, Option.some.injEq] at hcell
    rw [← hcell]; simp [hil]
  obtain ⟨u0, hu0⟩ : ∃ u, u = cur.getD i undef := ⟨_, rfl⟩
  rw [← hu0] at hVc hRi
  simp only [R] at hRi
  obtain ⟨a0, n0, c0, ⟨h3, _⟩, hl0, hone0, _, hown, hob⟩ := hRi
  obtain ⟨o', _, hr⟩ := rd_R hp.val hp.esN y
  rw [hy] at hr
  simp only [R] at hr
  obtain ⟨A, m', c, ⟨he, _⟩, hl, hone, hrd, _⟩ := hr
  have em : m' = m := Nat.eq_of_mul_eq_mul_right h0 (by omega)
  subst em
  have en : n0 = n := Nat.eq_of_mul_eq_mul_right h0 (by omega)
  subst en
  obtain ⟨v', w', hrun, hown', hg, hblk⟩ := run_append_fl (P := P) (ty := t') (c := c) hT hi hz hs hzc h0 hown hl hrd hone h63 (by simpa using hb)
  have hrun' : (execOp a.eval ⟨some d, .call ⟨.builtin .append, #[x, y], #[T, T]⟩, t', pos, aft, gd⟩).run P w = .ok (.value v') w' := by
    have h4 : a.eval x = u0 := by rw [hax.1, hVc]
    simp [execOp, resolve, invoke, builtin, he, h4, hrun]
  refine (Yl.val hrun').mono ?_
  rintro v w2 ⟨rfl, rfl⟩
  have hlt : d < g.n := hd d rfl
  have hchg : Chg o1 w w2 := by rw [hob]; exact Chg.of_grown hg
  have hin1 : ∀ c, c ∈ o1 → c ∈ b :: os := fun c hc' => by have := hperm.mem_iff.2 (List.mem_append.2 (.inl hc')); simp [this]
  have hin3 : ∀ c, c ∈ o3 → c ∈ b :: os := fun c hc' => by have := hperm.mem_iff.2 (List.mem_append.2 (.inr hc')); simp [this]
  have hinb : ∀ c, c ∈ b :: o3 → c ∈ b :: os := by
    intro c hc'
    rcases List.mem_cons.1 hc' with h | h
    · simp [h]
    · exact hin3 c h
  have hnd2 : (b :: os).Nodup := by have := (List.nodup_append.1 hp.nodup).2.1; simpa using this
  have hnd3 : (b :: (o1 ++ o3)).Nodup := ((hperm.cons b).nodup_iff).1 hnd2
  have hlts : ∀ c, c ∈ b :: os → c < w.heap.size ∧ ¬ g.imm c := fun c hc' => hp.own c (by simp at hc' ⊢; exact .inr hc')
  have hkeep : ∀ c, c ∈ b :: o3 ∨ g.imm c → w2.heap[c]? = w.heap[c]? := by
    intro c hc'
    rcases hc' with hc' | hc'
    · refine hchg.block c (hlts c (hinb c hc')).1 fun h1 => ?_
      simp only [List.nodup_cons, List.mem_append, List.nodup_append] at hnd3
      rcases List.mem_cons.1 hc' with rfl | h3
      · exact hnd3.1 (.inl h1)
      · exact hnd3.2.2.2 c h1 c h3 rfl
    · exact hchg.block c (hp.imm c hc') fun h1 => (hlts c (hin1 c h1)).2 hc'
  have hdtl : ∀ l, hit [.slot d] l = false → setV V d v l = V l := fun l hl => setV_hit hl
  refine ⟨g, setV V d v, (b :: o3) ++ v.ownBlock.toList, g.le_refl, fun b hb => .inl hb, fun b hb => Nat.lt_of_lt_of_le (hp.imm b (.inl hb)) hchg.size, ?_, hdtl, fun u => setV_val hp.val hp.size hlt u, ?_, ?_, ?_⟩
  · exact hchg.mono fun c hc' => by simpa using hin1 c hc'
  · have hVt : setV V d v (.slot t) = V (.slot t) := by simp only [setV]; rw [if_neg fun e => hdt e.symm]
    have hVtc : ∀ j, setV V d v (.cell t j) = V (.cell t j) := fun j => rfl
    refine ⟨b :: o3, v.ownBlock.toList, rfl, ⟨?_, ?_⟩, v.ownBlock.toList, [], by simp, ⟨?_, trivial⟩, rfl⟩
    · show R g _ _ (.box T' _) (setV V d v (.slot t)) _
      rw [hVt]
      simp only [R]
      refine ⟨b, cur, o3, hpt, rfl, by rw [hkeep b (.inl (by simp))]; exact hh, ?_⟩
      exact Rs_stab (W := [.slot d]) (fun _ h => h) (fun _ h => h) hdtl _ _ _ hcl (fun c hc' => hkeep c (hc'.imp (fun h => by simp [h]) id)) hrest
    · intro b' hb' j hj
      rw [hVt] at hb'
      rw [hVtc]
      rw [World.cell?_of_block (w := w) (by
        rw [hpt] at hb'; cases hb'
        exact hkeep b (.inl (by simp)))]
      exact htie b' hb' j (by simpa using hj)
    · show R g _ _ _ (setV V d v (.slot d)) _
      rw [setV_slot]
      refine own_fl hown' fun u hu => ?_
      rcases List.mem_append.1 hu with h | h
      · exact hone0 u h
      · exact hone u h
  · refine List.nodup_append.2 ⟨?_, by cases v.ownBlock <;> simp, ?_⟩
    · have : (o1 ++ (b :: o3)).Nodup := (List.perm_middle.nodup_iff).2 hnd3
      exact (List.nodup_append.1 this).2.1
    · intro c hc' c2 hc2 e
      subst e
      have hvb : v.ownBlock = some c := by cases hv : v.ownBlock <;> simp [hv] at hc2 ⊢; exact hc2.symm
      rcases hblk with h | h
      · have hin : c ∈ o1 := by rw [hob, ← h, hvb]; simp
        simp only [List.nodup_cons, List.mem_append, List.nodup_append] at hnd3
        rcases List.mem_cons.1 hc' with rfl | h3
        · exact hnd3.1 (.inl hin)
        · exact hnd3.2.2.2 c hin c h3 rfl
      · rw [hvb] at h
        cases h
        have := (hlts w.heap.size (hinb _ hc')).1
        omega
  · intro c hc'
    rcases List.mem_append.1 hc' with hc' | hc'
    · have h4 : c ∈ b :: os := hinb c hc'
      exact ⟨.inl (by simpa using h4), Nat.lt_of_lt_of_le (hlts c h4).1 hchg.size, (hlts c h4).2⟩
    · have hvb : v.ownBlock = some c := by cases hv : v.ownBlock <;> simp [hv] at hc' ⊢; exact hc'.symm
      have hlt2 := (hown'.lt c hvb).2
      rcases hblk with h | h
      · have hin : c ∈ o1 := by rw [hob, ← h, hvb]; simp
        exact ⟨.inl (by simpa using hin1 c hin), hlt2, (hlts c (hin1 c hin)).2⟩
      · rw [hvb] at h
        cases h
        exact ⟨.inr (Nat.le_refl _), hlt2, fun hi => Nat.lt_irrefl _ (hp.imm _ hi)⟩
end
end
end Go.Abs
