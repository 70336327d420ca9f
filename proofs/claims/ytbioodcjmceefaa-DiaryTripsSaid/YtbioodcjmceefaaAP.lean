/-
  What is appended otherwise: a text's bytes; lengths of nil.
-/
import Derived.Test.YtbioodcjmceefaaAO
import Derived.Lib.AppendStr
namespace Go.Abs

/-- What appending a value adds to an own row. -/
def Apps (P : Program) (T U ty e : TypeId) (z by_ : Nat) (yv : Value) (m : Nat) (ys : List Value) : Prop :=
  ∀ (w : World) (v : Value) (n : Nat) (xs : List Value), w.ownsRow 0 e z v n xs → n + m ≤ maxLen → (n + m) * by_ ≤ 140737488355328 →
    ∃ v' w', (Builtin.append_ #[T, U] ty #[v, yv]).run P w = .ok v' w' ∧ w'.ownsRow 0 e z v' (n + m) (xs ++ ys) ∧ w.grownBy w' v.ownBlock ∧ (v'.ownBlock = v.ownBlock ∨ v'.ownBlock = some w.heap.size)

section
variable {P : Program} {ty : TypeId} {pos : String} {aft : Array Edge} {gd : Option (Nat × Bool)}

theorem op_appends_nil (N : List Ent) (d : Nat) {T U e t' : TypeId} (x y : Operand) {z by_ : Nat} {yv : Value} {ys : List Value} (m : Nat) (hE : ElemT P T e z by_) (hx : rd N x = .v (.slice none 0 0)) (hy : rd N y = .v yv) (hap : Apps P T U t' e z by_ yv m ys) (h1y : ∀ u ∈ ys, u.oneCell' = true)
    (hb : m * by_ ≤ 140737488355328) (h63 : m ≤ maxLen) :
    LOp P ⟨some d, .call ⟨.builtin .append, #[x, y], #[T, U]⟩, t', pos, aft, gd⟩ N [] [(d, .fl (.own e) z ys)] [.slot d] := by
  obtain ⟨i, zv, hT, hi, hz, hs, hzc, h0, rfl⟩ := hE.ex
  refine LOp.fresh rfl rfl fun g V oN a w hp => ?_
  have h1 := rd_v hp.val hp.esN hx
  have he := rd_v hp.val hp.esN hy
  have hone := h1y
  obtain ⟨v', w', hrun, hown, hg, hblk⟩ := hap w _ 0 [] (World.ownsRow_nil w 0 e z) (by omega) (by simpa using hb)
  refine (Yl.val (by simp [execOp, resolve, invoke, builtin, h1, he, hrun] : (execOp a.eval ⟨some d, .call ⟨.builtin .append, #[x, y], #[T, U]⟩, t', pos, aft, gd⟩).run P w = .ok (.value v') w')).mono ?_
  rintro v w2 ⟨rfl, rfl⟩
  have hchg : Chg [] w w2 := (Chg.of_grown hg).mono (by simp [Value.ownBlock])
  simp only [List.nil_append] at hown
  refine ⟨hchg, g, v.ownBlock.toList, g.le_refl, fun b hb => .inl hb, own_fl hown hone, by cases v.ownBlock <;> simp, ?_⟩
  intro b hb'
  have hvb : v.ownBlock = some b := by cases hv : v.ownBlock <;> simp [hv] at hb' ⊢; exact hb'.symm
  have hlt := (hown.lt b hvb).2
  rcases hblk with h | h
  · rw [h] at hvb; cases hvb
  · rw [hvb] at h
    cases h
    exact ⟨Nat.le_refl _, hlt, fun hi => Nat.lt_irrefl _ (hp.imm _ (.inl hi))⟩

theorem op_appends (N : List Ent) (d t : Nat) {T U e t' : TypeId} (x y : Operand) {z by_ : Nat} {yv : Value} {xs ys : List Value} (n m : Nat) (hE : ElemT P T e z by_) (hx : dupOp (N ++ [(t, .fl (.own e) z xs)]) x = .same (.slot t)) (hy : rd N y = .v yv) (hap : Apps P T U t' e z by_ yv m ys)
    (hn : xs.length = n * z) (h1y : ∀ u ∈ ys, u.oneCell' = true) (hb : (n + m) * by_ ≤ 140737488355328) (h63 : n + m ≤ maxLen) :
    LOp P ⟨some d, .call ⟨.builtin .append, #[x, y], #[T, U]⟩, t', pos, aft, gd⟩ N [(t, .fl (.own e) z xs)] [(t, .any), (d, .fl (.own e) z (xs ++ ys))] [.slot d] := by
  obtain ⟨i, zv, hT, hi, hz, hs, hzc, h0, rfl⟩ := hE.ex
  refine LOp.core fun g V oN oT a w hd hp => ?_
  have hT' := hp.esT
  simp only [Es] at hT'
  obtain ⟨ob, o2, rfl, ⟨hR, _⟩, rfl⟩ := hT'
  have hax := dupOp_R hp.val (Es_append.2 ⟨oN, _, rfl, hp.esN, hp.esT⟩) x
  rw [hx] at hax
  simp only [R] at hax hR
  obtain ⟨a0, n0, c0, ⟨h3, _⟩, hl0, hone0, _, hown, hob⟩ := hR
  have he := rd_v hp.val hp.esN hy
  have hone := h1y
  have en : n0 = n := Nat.eq_of_mul_eq_mul_right h0 (by omega)
  subst en
  obtain ⟨v', w', hrun, hown', hg, hblk⟩ := hap w _ _ _ hown h63 (by simpa using hb)
  have hrun' : (execOp a.eval ⟨some d, .call ⟨.builtin .append, #[x, y], #[T, U]⟩, t', pos, aft, gd⟩).run P w = .ok (.value v') w' := by
    have h4 : a.eval x = V (.slot t) := hax.1
    simp [execOp, resolve, invoke, builtin, he, h4, hrun]
  refine (Yl.val hrun').mono ?_
  rintro v w2 ⟨rfl, rfl⟩
  have hlt : d < g.n := hd d rfl
  have hchg : Chg ob w w2 := by rw [hob]; exact Chg.of_grown hg
  refine ⟨g, setV V d v, v.ownBlock.toList, g.le_refl, fun b hb => .inl hb, fun b hb => Nat.lt_of_lt_of_le (hp.imm b (.inl hb)) hchg.size, by simpa using hchg, fun l hl => setV_hit hl, fun u => setV_val hp.val hp.size hlt u, ?_, by cases v.ownBlock <;> simp, ?_⟩
  · refine ⟨[], v.ownBlock.toList, rfl, ⟨by simp [R], trivial⟩, v.ownBlock.toList, [], by simp, ⟨?_, trivial⟩, rfl⟩
    show R g _ _ _ (setV V d v (.slot d)) _
    rw [setV_slot]
    refine own_fl hown' fun u hu => ?_
    rcases List.mem_append.1 hu with h | h
    · exact hone0 u h
    · exact hone u h
  · intro b hb'
    have hvb : v.ownBlock = some b := by cases hv : v.ownBlock <;> simp [hv] at hb' ⊢; exact hb'.symm
    have hlt2 := (hown'.lt b hvb).2
    rcases hblk with h | h
    · have hin : b ∈ ob := by rw [hob, ← h, hvb]; simp
      exact ⟨.inl (by simp [hin]), hlt2, (hp.own b (by simp [hin])).2⟩
    · rw [hvb] at h
      cases h
      refine ⟨.inr (Nat.le_refl _), hlt2, fun hi => Nat.lt_irrefl _ (hp.imm _ hi)⟩

theorem op_appends_cell (N : List Ent) (d t i : Nat) {T U e t' T' : TypeId} (x y : Operand) {z by_ : Nat} {yv : Value} {cs : List AV} {xs ys : List Value} (n m : Nat) (hE : ElemT P T e z by_) (hx : dupOp N x = .same (.cell t i)) (hc : cs.getD i .any = .fl (.own e) z xs) (hic : i < cs.length)
    (hy : rd N y = .v yv) (hap : Apps P T U t' e z by_ yv m ys) (hn : xs.length = n * z) (h1y : ∀ u ∈ ys, u.oneCell' = true) (hb : (n + m) * by_ ≤ 140737488355328) (h63 : n + m ≤ maxLen) (hdt : d ≠ t) (hcl : clrs [.slot d] (cs.set i .any) = true) :
    LOp P ⟨some d, .call ⟨.builtin .append, #[x, y], #[T, U]⟩, t', pos, aft, gd⟩ N [(t, .box T' cs)] [(t, .box T' (cs.set i .any)), (d, .fl (.own e) z (xs ++ ys))] [.slot d] := by
  obtain ⟨ti, zv, hT, hi, hz, hs, hzc, h0, rfl⟩ := hE.ex
  refine LOp.core fun g V oN oT a w hd hp => ?_
  have hT' := hp.esT
  simp only [Es] at hT'
  obtain ⟨ob, o2, rfl, hER, rfl⟩ := hT'
  obtain ⟨hR, htie⟩ := hER
  have hax := dupOp_R hp.val hp.esN x
  rw [hx] at hax
  simp only [R] at hax hR
  obtain ⟨b, cur, os, hpt, rfl, hh, hrs⟩ := hR
  dsimp only at htie
  obtain ⟨o1, o3, hperm, hRi, hrest⟩ := Rs_setAny i hrs hic
  rw [hc] at hRi
  have hlen := Rs_length hrs
  have hcell := htie b hpt i hic
  rw [cell_of_row w b i _ T' (0, 0) hh] at hcell
  have hil : i < cur.length := by omega
  have hVc : V (.cell t i) = cur.getD i undef := by
    simp only [List.getElem?_toArray, List.getElem?_eq_getElem hil, Option.some.injEq] at hcell
    rw [← hcell]; simp [hil]
  obtain ⟨u0, hu0⟩ : ∃ u, u = cur.getD i undef := ⟨_, rfl⟩
  rw [← hu0] at hVc hRi
  simp only [R] at hRi
  obtain ⟨a0, n0, c0, ⟨h3, _⟩, hl0, hone0, _, hown, hob⟩ := hRi
  have he := rd_v hp.val hp.esN hy
  have hone := h1y
  have en : n0 = n := Nat.eq_of_mul_eq_mul_right h0 (by omega)
  subst en
  obtain ⟨v', w', hrun, hown', hg, hblk⟩ := hap w _ _ _ hown h63 (by simpa using hb)
  have hrun' : (execOp a.eval ⟨some d, .call ⟨.builtin .append, #[x, y], #[T, U]⟩, t', pos, aft, gd⟩).run P w = .ok (.value v') w' := by
    have h4 : a.eval x = u0 := by rw [hax.1, hVc]
    simp [execOp, resolve, invoke, builtin, he, h4, hrun]
  refine (Yl.val hrun').mono ?_
  rintro v w2 ⟨rfl, rfl⟩
  have hlt : d < g.n := hd d rfl
  have hchg : Chg o1 w w2 := by rw [hob]; exact Chg.of_grown hg
  have hin1 : ∀ c, c ∈ o1 → c ∈ b :: os := fun c hc' => by have := hperm.mem_iff.2 (List.mem_append.2 (.inl hc')); simp [this]
  have hin3 : ∀ c, c ∈ o3 → c ∈ b :: os := fun c hc' => by have := hperm.mem_iff.2 (List.mem_append.2 (.inr hc')); simp [this]
  have hinb : ∀ c, c ∈ b :: o3 → c ∈ b :: os := by
    intro c hc'
    rcases List.mem_cons.1 hc' with h | h
    · simp [h]
    · exact hin3 c h
  have hnd2 : (b :: os).Nodup := by have := (List.nodup_append.1 hp.nodup).2.1; simpa using this
  have hnd3 : (b :: (o1 ++ o3)).Nodup := ((hperm.cons b).nodup_iff).1 hnd2
  have hlts : ∀ c, c ∈ b :: os → c < w.heap.size ∧ ¬ g.imm c := fun c hc' => hp.own c (by simp at hc' ⊢; exact .inr hc')
  have hkeep : ∀ c, c ∈ b :: o3 ∨ g.imm c → w2.heap[c]? = w.heap[c]? := by
    intro c hc'
    rcases hc' with hc' | hc'
    · refine hchg.block c (hlts c (hinb c hc')).1 fun h1 => ?_
      simp only [List.nodup_cons, List.mem_append, List.nodup_append] at hnd3
      rcases List.mem_cons.1 hc' with rfl | h3
      · exact hnd3.1 (.inl h1)
      · exact hnd3.2.2.2 c h1 c h3 rfl
    · exact hchg.block c (hp.imm c hc') fun h1 => (hlts c (hin1 c h1)).2 hc'
  have hdtl : ∀ l, hit [.slot d] l = false → setV V d v l = V l := fun l hl => setV_hit hl
  refine ⟨g, setV V d v, (b :: o3) ++ v.ownBlock.toList, g.le_refl, fun b hb => .inl hb, fun b hb => Nat.lt_of_lt_of_le (hp.imm b (.inl hb)) hchg.size, ?_, hdtl, fun u => setV_val hp.val hp.size hlt u, ?_, ?_, ?_⟩
  · exact hchg.mono fun c hc' => by simpa using hin1 c hc'
  · have hVt : setV V d v (.slot t) = V (.slot t) := by simp only [setV]; rw [if_neg fun e => hdt e.symm]
    have hVtc : ∀ j, setV V d v (.cell t j) = V (.cell t j) := fun j => rfl
    refine ⟨b :: o3, v.ownBlock.toList, rfl, ⟨?_, ?_⟩, v.ownBlock.toList, [], by simp, ⟨?_, trivial⟩, rfl⟩
    · show R g _ _ (.box T' _) (setV V d v (.slot t)) _
      rw [hVt]
      simp only [R]
      refine ⟨b, cur, o3, hpt, rfl, by rw [hkeep b (.inl (by simp))]; exact hh, ?_⟩
      exact Rs_stab (W := [.slot d]) (fun _ h => h) (fun _ h => h) hdtl _ _ _ hcl (fun c hc' => hkeep c (hc'.imp (fun h => by simp [h]) id)) hrest
    · intro b' hb' j hj
      rw [hVt] at hb'
      rw [hVtc]
      rw [World.cell?_of_block (w := w) (by
        rw [hpt] at hb'; cases hb'
        exact hkeep b (.inl (by simp)))]
      exact htie b' hb' j (by simpa using hj)
    · show R g _ _ _ (setV V d v (.slot d)) _
      rw [setV_slot]
      refine own_fl hown' fun u hu => ?_
      rcases List.mem_append.1 hu with h | h
      · exact hone0 u h
      · exact hone u h
  · refine List.nodup_append.2 ⟨?_, by cases v.ownBlock <;> simp, ?_⟩
    · have : (o1 ++ (b :: o3)).Nodup := (List.perm_middle.nodup_iff).2 hnd3
      exact (List.nodup_append.1 this).2.1
    · intro c hc' c2 hc2 e
      subst e
      have hvb : v.ownBlock = some c := by cases hv : v.ownBlock <;> simp [hv] at hc2 ⊢; exact hc2.symm
      rcases hblk with h | h
      · have hin : c ∈ o1 := by rw [hob, ← h, hvb]; simp
        simp only [List.nodup_cons, List.mem_append, List.nodup_append] at hnd3
        rcases List.mem_cons.1 hc' with rfl | h3
        · exact hnd3.1 (.inl hin)
        · exact hnd3.2.2.2 c hin c h3 rfl
      · rw [hvb] at h
        cases h
        have := (hlts w.heap.size (hinb _ hc')).1
        omega
  · intro c hc'
    rcases List.mem_append.1 hc' with hc' | hc'
    · have h4 : c ∈ b :: os := hinb c hc'
      exact ⟨.inl (by simpa using h4), Nat.lt_of_lt_of_le (hlts c h4).1 hchg.size, (hlts c h4).2⟩
    · have hvb : v.ownBlock = some c := by cases hv : v.ownBlock <;> simp [hv] at hc' ⊢; exact hc'.symm
      have hlt2 := (hown'.lt c hvb).2
      rcases hblk with h | h
      · have hin : c ∈ o1 := by rw [hob, ← h, hvb]; simp
        exact ⟨.inl (by simpa using hin1 c hin), hlt2, (hlts c (hin1 c hin)).2⟩
      · rw [hvb] at h
        cases h
        exact ⟨.inr (Nat.le_refl _), hlt2, fun hi => Nat.lt_irrefl _ (hp.imm _ hi)⟩

/-- A text's bytes. -/
theorem apps_str {t u ty e : TypeId} {i : TypeInfo} {s : ByteArray} (ht : P.underlying t = some (.slice e)) (hu : P.underlying u = some .string) (hi : P.info? e = some i) (hz : i.zero = some (.int .u8 0)) (hsize : i.size = 1) (hby : i.bytes = 1) :
    Apps P t u ty e 1 1 (.string s) s.size (Lib.strCells s) := by
  intro w v n xs hown h63 hbytes
  have hbase : 0 ≤ w.heap.size := Nat.zero_le _
  have hsmall : n + s.size ≤ 9223372036854775807 := by simp only [maxLen] at h63; omega
  have hxl : xs.length = n := by simpa using hown.1
  have hlen : (xs ++ Lib.strCells s).length = (n + s.size) * 1 := by rw [List.length_append, hxl, Lib.strCells_length, Nat.mul_one]
  have grown : ∀ (old : Nat), old < n + s.size → ∀ (row : Option Nat),
      (w.drew.alloc (.cells (xs.toArray ++ (Lib.strCells s).toArray ++ Builtin.zeroCells (Value.int .u8 0).cells (grownCap w (n + s.size) old e - (n + s.size))) e)).ownsRow 0 e 1
        (.slice (some ⟨w.heap.size, 0, none⟩) (n + s.size) (grownCap w (n + s.size) old e)) (n + s.size) (xs ++ Lib.strCells s) ∧
      w.grownBy (w.drew.alloc (.cells (xs.toArray ++ (Lib.strCells s).toArray ++ Builtin.zeroCells (Value.int .u8 0).cells (grownCap w (n + s.size) old e - (n + s.size))) e)) row := by
    intro old ho row
    have hge := grownCap_ge w (n + s.size) old e
    have hcm : grownCap w (n + s.size) old e ≤ maxLen := grownCap_le_maxLen w (n + s.size) old e h63
    refine ⟨⟨hlen, .inr ⟨w.heap.size, _, _, rfl, hbase, heap_alloc_new w.drew _, hge, hcm, ?_, ?_⟩⟩, ⟨rfl, rfl, rfl, by simp, fun k hk _ => heap_alloc_old w.drew _ k hk⟩⟩
    · have hz1 : (Value.int IntKind.u8 0).cells.size = 1 := rfl
      simp only [Array.size_append, List.size_toArray, size_zeroCells, hz1, hxl, Lib.strCells_length]
      omega
    · simp only [Array.toList_append, List.append_assoc]
      rw [← List.append_assoc, ← hlen]
      exact List.take_left
  rcases hown.2 with ⟨rfl, rfl⟩ | ⟨g, cap, cur, rfl, hbg, hg, hnc, hcm, hcs, htake⟩
  · have hx : xs = [] := List.eq_nil_of_length_eq_zero hxl
    subst hx
    by_cases hm : s.size = 0
    · have hn : Lib.strCells s = [] := List.eq_nil_of_length_eq_zero (by rw [Lib.strCells_length]; exact hm)
      refine ⟨.slice none 0 0, w, ?_, by rw [hm, hn]; exact World.ownsRow_nil w 0 e 1, ⟨rfl, rfl, rfl, Nat.le_refl _, fun _ _ _ => rfl⟩, .inl rfl⟩
      have hf := Lib.run_firstCells_string (P := P) w 1 s
      rw [hm] at hf
      simp [Builtin.append_, run_underlying ht, run_underlying hu, sizeOf, typeInfo, hi, hsize, Builtin.lenOf, hm, hf]
    · have hr := run_append_nil_string (P := P) w t u ty e i (.int .u8 0) ht hu hi hz s (by omega) (by omega) (by rw [hby]; omega)
      have hgr := grown 0 (by omega) (Value.ownBlock (.slice none 0 0))
      simp only [Nat.zero_add, List.nil_append, Array.empty_append] at hgr ⊢
      have e1 : (s.data.map fun b => Value.int .u8 b.toNat) = (Lib.strCells s).toArray := by
        apply Array.ext'
        simp [Lib.strCells]
      rw [e1] at hr
      exact ⟨_, _, hr, hgr.1, hgr.2, .inr rfl⟩
  · by_cases hroom : n + s.size ≤ cap
    · have hcs' : cur.size = cap := by simpa using hcs
      have hr := Lib.run_append_room_string (P := P) w t u ty e i ht hu hi hsize g n cap cur hg s hroom (by omega)
      refine ⟨_, _, hr, ⟨hlen, .inr ⟨g, cap, _, rfl, hbg, setRow_heap w g cur _ e _ hg, hroom, hcm, ?_, ?_⟩⟩, ⟨rfl, rfl, rfl, by simp, fun k _ hk => setRow_other w g k _ (fun e => hk (by simp [Value.ownBlock, e]))⟩, .inl rfl⟩
      · simp only [List.size_toArray, List.length_append, List.length_take, List.length_drop, Array.length_toList, Lib.strCells_length]
        omega
      · have ht' : cur.toList.take n = xs := by simpa using htake
        rw [ht', ← hlen]
        exact List.take_left
    · have holds : ∀ j u, xs[j]? = some u → w.cell? ((⟨g, 0, none⟩ : Addr).add j) = some u := hown.cells (g := g) rfl
      have hr := Lib.run_append_grow_string (P := P) w t u ty e i (.int .u8 0) ht hu hi hz ⟨g, 0, none⟩ n cap xs (by rw [hsize]; simpa using hxl) holds s (by omega) (by omega) (by rw [hby]; exact growslice_fits (by omega) (by omega))
      have hgr := grown cap (by omega) (Value.ownBlock (.slice (some ⟨g, 0, none⟩) n cap))
      exact ⟨_, _, hr, hgr.1, hgr.2, .inr rfl⟩

theorem sbytes_vals (s : ByteArray) : List.map (Value.int .u8) (sbytes s) = Lib.strCells s := by
  simp [sbytes, Lib.strCells]
theorem sbytes_len (s : ByteArray) : (sbytes s).length = s.size := by simp [sbytes]

theorem ElemT.str {t u ty e : TypeId} {s : ByteArray} (hE : ElemT P t e 1 1) (hz : (P.info? e).bind (·.zero) = some (.int .u8 0)) (hu : P.underlying u = some .string) : Apps P t u ty e 1 1 (.string s) s.size (Lib.strCells s) := by
  obtain ⟨i, zv, hT, hi, _, hs, _, _, hb⟩ := hE.ex
  rw [hi] at hz
  exact apps_str hT hu hi hz hs hb

theorem op_apps_nil (N : List Ent) (d : Nat) {T U e t' : TypeId} (x y : Operand) {s : ByteArray} {q : List Int} {zs : List Value} (hE : ElemT P T e 1 1) (hz : (P.info? e).bind (·.zero) = some (.int .u8 0)) (hu : P.underlying U = some .string) (hx : rd N x = .v (.slice none 0 0)) (hy : rd N y = .v (.string s))
    (hq : appO 1 [] (sbytes s) = some q) (hzs : q.map (Value.int .u8) = zs) : LOp P ⟨some d, .call ⟨.builtin .append, #[x, y], #[T, U]⟩, t', pos, aft, gd⟩ N [] [(d, .fl (.own e) 1 zs)] [.slot d] := by
  subst hzs
  unfold appO at hq
  split at hq
  · rename_i h
    cases hq
    rw [List.nil_append, sbytes_vals]
    simp only [sbytes_len, List.length_nil, Nat.zero_add, Nat.mul_one] at h
    exact op_appends_nil N d x y s.size hE hx hy (hE.str hz hu) (Lib.strCells_oneCell s) (by omega) (by simp only [maxLen]; omega)
  · cases hq
theorem op_apps (N : List Ent) (d t : Nat) {T U e t' : TypeId} (x y : Operand) {s : ByteArray} {l q : List Int} {xs zs : List Value} (hE : ElemT P T e 1 1) (hz : (P.info? e).bind (·.zero) = some (.int .u8 0)) (hu : P.underlying U = some .string) (hx : dupOp (N ++ [(t, .fl (.own e) 1 xs)]) x = .same (.slot t)) (hy : rd N y = .v (.string s))
    (hl : l.map (Value.int .u8) = xs) (hq : appO 1 l (sbytes s) = some q) (hzs : q.map (Value.int .u8) = zs) : LOp P ⟨some d, .call ⟨.builtin .append, #[x, y], #[T, U]⟩, t', pos, aft, gd⟩ N [(t, .fl (.own e) 1 xs)] [(t, .any), (d, .fl (.own e) 1 zs)] [.slot d] := by
  subst hzs hl
  unfold appO at hq
  split at hq
  · rename_i h
    cases hq
    rw [List.map_append, sbytes_vals]
    simp only [sbytes_len, Nat.mul_one] at h
    exact op_appends N d t x y l.length s.size hE hx hy (hE.str hz hu) (by simp) (Lib.strCells_oneCell s) (by omega) (by simp only [maxLen]; omega)
  · cases hq
theorem op_apps_cell (N : List Ent) (d t i : Nat) {T U e t' T' : TypeId} (x y : Operand) {s : ByteArray} {l q : List Int} {cs cs' : List AV} {xs zs : List Value} (hE : ElemT P T e 1 1) (hz : (P.info? e).bind (·.zero) = some (.int .u8 0)) (hu : P.underlying U = some .string) (hx : dupOp N x = .same (.cell t i)) (hc : cs.getD i .any = .fl (.own e) 1 xs) (hic : i < cs.length) (hy : rd N y = .v (.string s))
    (hl : l.map (Value.int .u8) = xs) (hq : appO 1 l (sbytes s) = some q) (hzs : q.map (Value.int .u8) = zs) (hdt : d ≠ t) (hcs : cs.set i .any = cs') (hcl : clrs [.slot d] cs' = true) :
    LOp P ⟨some d, .call ⟨.builtin .append, #[x, y], #[T, U]⟩, t', pos, aft, gd⟩ N [(t, .box T' cs)] [(t, .box T' cs'), (d, .fl (.own e) 1 zs)] [.slot d] := by
  subst hzs hl hcs
  unfold appO at hq
  split at hq
  · rename_i h
    cases hq
    rw [List.map_append, sbytes_vals]
    simp only [sbytes_len, Nat.mul_one] at h
    exact op_appends_cell N d t i x y l.length s.size hE hx hc hic hy (hE.str hz hu) (by simp) (Lib.strCells_oneCell s) (by omega) (by simp only [maxLen]; omega) hdt hcl
  · cases hq

theorem op_len_nil (N : List Ent) (d : Nat) {t t' e : TypeId} {x : Operand} (hT : P.underlying t = some (.slice e)) (hx : rd N x = .v (.slice none 0 0)) :
    LOp P ⟨some d, .call ⟨.builtin .len, #[x], #[t]⟩, t', pos, aft, gd⟩ N [] [(d, .v (.int .i64 0))] [.slot d] := by
  refine LOp.v rfl fun g V oN a w hp => ?_
  have h1 := rd_v hp.val hp.esN hx
  simp [execOp, resolve, invoke, builtin, Builtin.len_, h1, run_underlying hT, goInt]
end
end Go.Abs
