/-
  A region's plan, tried by a program, and the rules of regions.
-/
import Derived.Test.YtbioodcjmceefaaA2
namespace Go.Abs

theorem nblt {a b : Nat} : Nat.blt a b = true ↔ a < b := by unfold Nat.blt; rw [Nat.ble_eq]; exact Iff.rfl
theorem getD_rep (m j : Nat) : (Array.replicate m false).getD j false = false := by
  simp only [Array.getD_eq_getD_getElem?, Array.getElem?_replicate]; split <;> rfl

def tagE (El : List Ent) (i : Nat) : Ent := El.getD i (0, .any)
def subN (a b : List Nat) : Bool := a.all fun e => memN e b
def nodupN : List Nat → Bool
  | [] => true
  | x :: r => !memN x r && nodupN r
theorem subN_iff {a b : List Nat} (h : subN a b = true) : ∀ e ∈ a, e ∈ b := by
  simp only [subN, List.all_eq_true] at h
  exact fun e he => memN_iff.1 (h e he)
theorem nodupN_iff : ∀ {l : List Nat}, nodupN l = true → l.Nodup
  | [], _ => List.nodup_nil
  | x :: r, h => by
    simp only [nodupN, Bool.and_eq_true, Bool.not_eq_true'] at h
    refine List.nodup_cons.2 ⟨fun hm => ?_, nodupN_iff h.2⟩
    rw [memN_iff.2 hm] at h; exact absurd h.1 (by simp)

/-- The tags that stand behind the operations, one after the other. -/
def seqRun (El : List Ent) : List Sp → List Nat → Option (List Nat)
  | [], S => some S
  | s :: r, S =>
    if subN (s.N ++ s.T) S && nodupN (s.N ++ s.T) && nodupN s.G && s.G.all (fun e => !memN e S) && (S.all fun e => memN e s.T || clrEnt s.W (tagE El e))
    then seqRun El r ((S.filter fun e => !memN e s.T) ++ s.G) else none

theorem perm_split {S A : List Nat} (hS : S.Nodup) (hA : A.Nodup) (hsub : ∀ e ∈ A, e ∈ S) : S.Perm (A ++ S.filter fun e => !memN e A) := by
  refine (List.perm_ext_iff_of_nodup hS ?_).2 fun e => ?_
  · refine List.nodup_append.2 ⟨hA, List.Nodup.sublist List.filter_sublist hS, fun a ha b hb e => ?_⟩
    subst e
    have := (List.mem_filter.1 hb).2
    rw [memN_iff.2 ha] at this; simp at this
  · rw [List.mem_append, List.mem_filter]
    constructor
    · intro h
      by_cases ha : e ∈ A
      · exact .inl ha
      · refine .inr ⟨h, ?_⟩
        cases hm : memN e A
        · rfl
        · exact absurd (memN_iff.1 hm) ha
    · rintro (h | h)
      · exact hsub e h
      · exact h.1

def StepsL (P : Program) (ops : Array Oper) (E : Nat → Ent) : Nat → List Sp → Prop
  | _, [] => True
  | k, s :: r => LOpG P ops k (s.N.map E) (s.T.map E) (s.G.map E) s.W ∧ StepsL P ops E (k + 1) r

def dstsOk (n : Nat) (ops : List Oper) : Bool := ops.all fun o => match o.dst with | none => true | some d => Nat.blt d n

theorem dstsOk_spec {n : Nat} {ops : List Oper} (h : dstsOk n ops = true) : ∀ (i d : Nat), ((ops.toArray)[i]?).bind Oper.dst = some d → d < n := by
  intro i d hd
  simp only [List.getElem?_toArray] at hd
  cases ho : ops[i]? with
  | none => simp [ho] at hd
  | some o =>
    simp only [ho, Option.bind_some] at hd
    simp only [dstsOk, List.all_eq_true] at h
    have := h o (List.mem_of_getElem? ho)
    simp only [hd] at this
    exact nblt.1 this

section
variable {P : Program} {ops : Array Oper} {El : List Ent} {Q : Exit → Act → World → Prop}

theorem seqRun_ok {g0 : Gh} (hdst : ∀ (i d : Nat), (ops[i]?).bind Oper.dst = some d → d < g0.n) : ∀ (sps : List Sp) (k : Nat) (S S' : List Nat), StepsL P ops (tagE El) k sps → seqRun El sps S = some S' → S.Nodup →
    ∀ (g : Gh) (a : Act) (w : World), g0.le g → Sat g (S.map (tagE El)) a w → (∀ g' a' w', g0.le g' → S'.Nodup → Sat g' (S'.map (tagE El)) a' w' → Q .normal a' w') → wpOps P ops Q (List.range' k sps.length) a w
  | [], k, S, S', _, hr, hn, g, a, w, hg, hs, hQ => by
    simp only [seqRun, Option.some.injEq] at hr
    subst hr
    simp only [List.length_nil, List.range'_zero, wpOps]
    exact hQ g a w hg hn hs
  | s :: r, k, S, S', hst, hr, hn, g, a, w, hg, hs, hQ => by
    simp only [seqRun] at hr
    split at hr
    · rename_i hc
      simp only [Bool.and_eq_true, List.all_eq_true, Bool.or_eq_true] at hc
      obtain ⟨⟨⟨⟨c1, c2⟩, c3⟩, c4⟩, c5⟩ := hc
      obtain ⟨h1, h2⟩ := hst
      rw [List.length_cons, List.range'_succ, wpOps_cons]
      have nd := nodupN_iff c2
      have nd' := List.nodup_append.1 nd
      have hsub := subN_iff c1
      have p1 := perm_split hn nd hsub
      have hnT : ∀ e, (!memN e s.T) = true ↔ e ∉ s.T := fun e => by rw [← memN_iff (l := s.T)]; simp
      have hnA : ∀ e, (!memN e (s.N ++ s.T)) = true ↔ e ∉ s.N ++ s.T := fun e => by rw [← memN_iff (l := s.N ++ s.T)]; simp
      have ndS' : ((S.filter fun e => !memN e s.T) ++ s.G).Nodup := by
        refine List.nodup_append.2 ⟨List.Nodup.sublist List.filter_sublist hn, nodupN_iff c3, fun a ha b hb e => ?_⟩
        subst e
        have := c4 _ hb
        rw [memN_iff.2 (List.mem_filter.1 ha).1] at this; simp at this
      have p2 : ((S.filter fun e => !memN e s.T) ++ s.G).Perm (s.N ++ (s.G ++ S.filter fun e => !memN e (s.N ++ s.T))) := by
        have q : (S.filter fun e => !memN e s.T).Perm (s.N ++ S.filter fun e => !memN e (s.N ++ s.T)) := by
          refine (List.perm_ext_iff_of_nodup (List.Nodup.sublist List.filter_sublist hn) ?_).2 fun e => ?_
          · refine List.nodup_append.2 ⟨nd'.1, List.Nodup.sublist List.filter_sublist hn, fun a ha b hb e => ?_⟩
            subst e
            exact (hnA _).1 (List.mem_filter.1 hb).2 (by simp [ha])
          · rw [List.mem_append, List.mem_filter, List.mem_filter, hnT, hnA]
            constructor
            · rintro ⟨h3, h4⟩
              by_cases h5 : e ∈ s.N
              · exact .inl h5
              · exact .inr ⟨h3, by simp [h5, h4]⟩
            · rintro (h3 | ⟨h3, h4⟩)
              · exact ⟨hsub e (by simp [h3]), fun h4 => nd'.2.2 e h3 e h4 rfl⟩
              · exact ⟨h3, fun h5 => h4 (by simp [h5])⟩
        refine (q.append_right s.G).trans ?_
        rw [List.append_assoc]
        exact List.perm_append_comm.append_left s.N
      refine h1 g ((S.filter fun e => !memN e (s.N ++ s.T)).map (tagE El)) a w _ Q (fun d hd => by rw [hg.n]; exact hdst k d hd) ?_ ?_ ?_
      · have := hs.perm (p1.map (tagE El))
        simpa using this
      · intro e he
        rw [← List.map_append] at he
        obtain ⟨x, hx, rfl⟩ := List.mem_map.1 he
        have hxS : x ∈ S ∧ x ∉ s.T := by
          rcases List.mem_append.1 hx with h | h
          · exact ⟨hsub x (by simp [h]), fun hT => nd'.2.2 x h x hT rfl⟩
          · exact ⟨(List.mem_filter.1 h).1, fun hT => (hnA x).1 (List.mem_filter.1 h).2 (by simp [hT])⟩
        exact (c5 x hxS.1).resolve_left fun h => hxS.2 (memN_iff.1 h)
      · intro g' a' w' hle hs'
        refine seqRun_ok hdst r (k + 1) _ S' h2 hr ndS' g' a' w' (hg.trans hle) ?_ hQ
        have := hs'.perm ((by simpa using (p2.map (tagE El)).symm) : (s.N.map (tagE El) ++ (s.G.map (tagE El) ++ (S.filter fun e => !memN e (s.N ++ s.T)).map (tagE El))).Perm (((S.filter fun e => !memN e s.T) ++ s.G).map (tagE El)))
        exact this
    · cases hr

theorem Sat.ofSub {g : Gh} {S fin : List Nat} {E : Nat → Ent} {a : Act} {w : World} (hs : Sat g (S.map E) a w) (hn : S.Nodup) (hf : fin.Nodup) (hsub : ∀ e ∈ fin, e ∈ S) : Sat g (fin.map E) a w := by
  have p := perm_split hn hf hsub
  have := hs.perm (p.map E)
  rw [List.map_append] at this
  exact this.perm List.perm_append_comm |>.dropLeft

/-- A region in the text's order. -/
def seqOk (n : Nat) (ops : List Oper) (El : List Ent) (init : List Nat) (sps : List Sp) (fin : List Nat) : Bool :=
  Nat.beq ops.length sps.length && dstsOk n ops && nodupN init && nodupN fin &&
  match seqRun El sps init with
  | some S => subN fin S
  | none => false

theorem region_seq {id : Nat} {l : List Oper} {n : Nat} {init fin : List Nat} {sps : List Sp} {g : Gh} {a : Act} {w : World} (hg : g.n = n)
    (hc : seqOk n l El init sps fin = true) (hst : StepsL P l.toArray (tagE El) 0 sps) (hs : Sat g (init.map (tagE El)) a w)
    (hQ : ∀ g' a' w', g.le g' → Sat g' (fin.map (tagE El)) a' w' → Q .normal a' w') : (Code.region id l.toArray false).wp P Q a w := by
  simp only [seqOk, Bool.and_eq_true] at hc
  obtain ⟨⟨⟨⟨c1, c2⟩, c3⟩, c4⟩, c5⟩ := hc
  cases hr : seqRun El sps init with
  | none => simp [hr] at c5
  | some S =>
    simp only [hr] at c5
    refine wp_region ?_
    have hl : l.length = sps.length := by simpa using Nat.eq_of_beq_eq_true c1
    rw [List.size_toArray, hl, List.range_eq_range']
    exact seqRun_ok (El := El) (g0 := g) (by rw [hg]; exact dstsOk_spec c2) sps 0 init S hst hr (nodupN_iff c3) g a w g.le_refl hs
      fun g' a' w' hle hn hs' => hQ g' a' w' hle (hs'.ofSub hn (nodupN_iff c4) (subN_iff c5))

def anyN (n : Nat) (f : Nat → Bool) : Bool := !allN n fun k => !f k
theorem anyN_iff {f : Nat → Bool} {n : Nat} (h : anyN n f = true) : ∃ k, k < n ∧ f k = true := by
  simp only [anyN, Bool.not_eq_true'] at h
  apply Classical.byContradiction
  intro hno
  have : allN n (fun k => !f k) = true := allN_iff.2 fun k hk => by
    cases hf : f k
    · rfl
    · exact absurd ⟨k, hk, hf⟩ hno
  rw [this] at h; cases h

def planOk (n m : Nat) (E : Nat → Ent) (init : List Nat) (sp : Nat → Sp) (pre : Nat → Nat → Bool) : Bool :=
  init.all (fun e => Nat.blt e m) && nodupN init &&
  allN n fun i =>
    ((sp i).N ++ (sp i).T).all (fun e => Nat.blt e m && (memN e init || anyN n fun j => pre i j && memN e (sp j).G) && allN n fun k => Nat.beq k i || !memN e (sp k).T || pre k i) &&
    (sp i).G.all (fun e => Nat.blt e m && !memN e init && allN n fun k => (!memN e (sp k).T || (pre k i && !Nat.beq k i)) && (Nat.beq k i || !memN e (sp k).G)) &&
    nodupN ((sp i).N ++ (sp i).T) && nodupN (sp i).G && (sp i).G.all (fun e => !memN e ((sp i).N ++ (sp i).T)) &&
    allN m fun e => clrEnt (sp i).W (E e) || memN e (sp i).T || (anyN n fun j => memN e (sp j).G && (Nat.beq j i || pre j i)) || anyN n fun k => memN e (sp k).T && pre i k

theorem nbeq {a b : Nat} : Nat.beq a b = true ↔ a = b := ⟨Nat.eq_of_beq_eq_true, fun h => by subst h; exact Nat.beq_refl a⟩
theorem not_memN {e : Nat} {l : List Nat} : (!memN e l) = true ↔ e ∉ l := by rw [← memN_iff (l := l)]; simp

theorem plan_of_ok {n m : Nat} {E : Nat → Ent} {init : List Nat} {sp : Nat → Sp} {pre : Nat → Nat → Bool} (h : planOk n m E init sp pre = true) : Plan n m E init sp pre := by
  simp only [planOk, Bool.and_eq_true] at h
  obtain ⟨⟨h1, h2⟩, h3⟩ := h
  have h3 := allN_iff.1 h3
  simp only [List.all_eq_true] at h1
  refine ⟨fun e he => nblt.1 (h1 e he), nodupN_iff h2, ?_, ?_, ?_, ?_, ?_⟩
  · intro i hi e he
    have := h3 i hi
    simp only [Bool.and_eq_true, List.all_eq_true] at this
    obtain ⟨⟨⟨⟨⟨a1, a2⟩, a3⟩, a4⟩, a5⟩, a6⟩ := this
    obtain ⟨⟨b1, b2⟩, b3⟩ := a1 e he
    refine ⟨nblt.1 b1, ?_⟩
    rcases Bool.or_eq_true_iff.1 b2 with b2 | b2
    · exact .inl (memN_iff.1 b2)
    · obtain ⟨j, hj, hh⟩ := anyN_iff b2
      rw [Bool.and_eq_true] at hh
      exact .inr ⟨j, hj, hh.1, memN_iff.1 hh.2⟩
  · intro i k hi hk hne e he hT
    have := h3 i hi
    simp only [Bool.and_eq_true, List.all_eq_true] at this
    obtain ⟨⟨⟨⟨⟨a1, a2⟩, a3⟩, a4⟩, a5⟩, a6⟩ := this
    obtain ⟨⟨b1, b2⟩, b3⟩ := a1 e he
    have := allN_iff.1 b3 k hk
    simp only [Bool.or_eq_true] at this
    rcases this with (h | h) | h
    · exact absurd (nbeq.1 h) hne
    · exact absurd hT (not_memN.1 h)
    · exact h
  · intro i hi e he
    have := h3 i hi
    simp only [Bool.and_eq_true, List.all_eq_true] at this
    obtain ⟨⟨⟨⟨⟨a1, a2⟩, a3⟩, a4⟩, a5⟩, a6⟩ := this
    obtain ⟨⟨b1, b2⟩, b3⟩ := a2 e he
    refine ⟨nblt.1 b1, not_memN.1 b2, ?_, ?_⟩
    · intro k hk hT
      have := allN_iff.1 b3 k hk
      simp only [Bool.or_eq_true, Bool.and_eq_true] at this
      rcases this.1 with h | h
      · exact absurd hT (not_memN.1 h)
      · exact ⟨h.1, fun e => by subst e; simp [Nat.beq_refl] at h⟩
    · intro k hk hne hG
      have := allN_iff.1 b3 k hk
      simp only [Bool.or_eq_true, Bool.and_eq_true] at this
      rcases this.2 with h | h
      · exact hne (nbeq.1 h)
      · exact not_memN.1 h hG
  · intro i hi
    have := h3 i hi
    simp only [Bool.and_eq_true, List.all_eq_true] at this
    obtain ⟨⟨⟨⟨⟨a1, a2⟩, a3⟩, a4⟩, a5⟩, a6⟩ := this
    exact ⟨nodupN_iff a3, nodupN_iff a4, fun e he => not_memN.1 (a5 e he)⟩
  · intro i hi e he hT hG hK
    have := h3 i hi
    simp only [Bool.and_eq_true, List.all_eq_true] at this
    obtain ⟨⟨⟨⟨⟨a1, a2⟩, a3⟩, a4⟩, a5⟩, a6⟩ := this
    have := allN_iff.1 a6 e he
    simp only [Bool.or_eq_true] at this
    rcases this with ((h | h) | h) | h
    · exact h
    · exact absurd (memN_iff.1 h) hT
    · obtain ⟨j, hj, hh⟩ := anyN_iff h
      simp only [Bool.and_eq_true, Bool.or_eq_true] at hh
      obtain ⟨h4, h5⟩ := hG j hj (memN_iff.1 hh.1)
      rcases hh.2 with h6 | h6
      · exact absurd (nbeq.1 h6) h4
      · rw [h5] at h6; cases h6
    · obtain ⟨k, hk, hh⟩ := anyN_iff h
      simp only [Bool.and_eq_true] at hh
      rw [hK k hk (memN_iff.1 hh.1)] at hh; exact absurd hh.2 (by simp)

/-- Which operations are carried out ahead of each, as bits. -/
def befores : List Oper → List Nat → List Nat
  | [], acc => acc
  | o :: r, acc => befores r (acc ++ [o.after.toList.foldl (fun s e => if Region.binds .any e then s ||| (1 <<< e.on) ||| acc.getD e.on 0 else s) 0])

def preB (ms : List Nat) (i j : Nat) : Bool := Nat.testBit (ms.getD i 0) j

def preOk (n : Nat) (ops : List Oper) (ms : List Nat) : Bool :=
  (ops.zipIdx).all fun (o, i) =>
    (o.after.toList.all fun e => !Region.binds .any e || Nat.blt e.on i) &&
    allN n fun j => !preB ms i j || o.after.toList.any fun e => Region.binds .any e && (Nat.beq j e.on || preB ms e.on j)

def anyOk (n : Nat) (ops : List Oper) (El : List Ent) (init : List Nat) (sps : List Sp) (fin : List Nat) : Bool :=
  let ms := befores ops []
  Nat.beq ops.length sps.length && dstsOk n ops && nodupN fin && preOk ops.length ops ms &&
  planOk ops.length El.length (tagE El) init (spAt sps) (preB ms) &&
  fin.all fun e => Nat.blt e El.length && (memN e init || anyN ops.length fun j => memN e (spAt sps j).G) && allN ops.length fun k => !memN e (spAt sps k).T

theorem StepsL_at {E : Nat → Ent} : ∀ (sps : List Sp) (k i : Nat) (s : Sp), StepsL P ops E k sps → sps[i]? = some s → LOpG P ops (k + i) (s.N.map E) (s.T.map E) (s.G.map E) s.W
  | [], k, i, s, _, h => by simp at h
  | s' :: r, k, 0, s, hst, h => by simp at h; subst h; exact hst.1
  | s' :: r, k, i + 1, s, hst, h => by
    have := StepsL_at r (k + 1) i s hst.2 (by simpa using h)
    rwa [show k + 1 + i = k + (i + 1) by omega] at this

/-- A region that draws its order. -/
theorem region_any {id : Nat} {l : List Oper} {n : Nat} {init fin : List Nat} {sps : List Sp} {g : Gh} {a : Act} {w : World} (hm : P.follows .mixedOrders = true) (hg : g.n = n)
    (hc : anyOk n l El init sps fin = true) (hst : StepsL P l.toArray (tagE El) 0 sps) (hs : Sat g (init.map (tagE El)) a w)
    (hQ : ∀ g' a' w', g.le g' → Sat g' (fin.map (tagE El)) a' w' → Q .normal a' w') : (Code.region id l.toArray true).wp P Q a w := by
  simp only [anyOk, Bool.and_eq_true, List.all_eq_true] at hc
  obtain ⟨⟨⟨⟨⟨c1, c2⟩, c3⟩, c4⟩, c5⟩, c6⟩ := hc
  have hl : l.length = sps.length := by simpa using Nat.eq_of_beq_eq_true c1
  have hp := plan_of_ok c5
  have hsteps : Steps' P l.toArray (tagE El) (spAt sps) l.length := by
    intro i hi
    have hi' : i < sps.length := by omega
    have := StepsL_at sps 0 i sps[i] hst (List.getElem?_eq_getElem hi')
    rw [Nat.zero_add] at this
    simpa [spAt, List.getElem?_eq_getElem hi'] using this
  simp only [preOk, List.all_eq_true] at c4
  refine wp_region_any hm ?_
  have hzip : ∀ (i : Nat) (o : Oper), l[i]? = some o → (o, i) ∈ l.zipIdx := by
    intro i o ho
    rw [List.mem_zipIdx_iff_getElem?]; simpa using ho
  refine any_steps (Q := Q) (g0 := g) hp hsteps (by simp) ?_ ?_ (by rw [hg]; exact dstsOk_spec c2) l.toArray.size (Array.replicate l.toArray.size false) (by simp) ?_ ?_ g a _ g.le_refl ?_ ?_
  · intro i o ho j hj hpj
    have h1 := c4 _ (hzip i o (by simpa using ho))
    simp only [Bool.and_eq_true] at h1
    have h2 := allN_iff.1 h1.2 j hj
    rw [hpj] at h2
    simp only [Bool.not_true, Bool.false_or, List.any_eq_true, Bool.and_eq_true, Bool.or_eq_true, Array.mem_toList_iff] at h2
    obtain ⟨e, he, hb, hor⟩ := h2
    exact ⟨e, he, hb, hor.imp nbeq.1 fun h => h⟩
  · intro i o ho e he hb
    have h1 := c4 _ (hzip i o (by simpa using ho))
    simp only [Bool.and_eq_true, List.all_eq_true] at h1
    have h2 := h1.1 e (by simpa using he)
    rw [hb] at h2
    exact nblt.1 (by simpa using h2)
  · simp only [List.size_toArray]
    exact Nat.le_trans List.countP_le_length (by simp)
  · intro i hi hli
    rw [getD_rep] at hli; cases hli
  · have := hs.drew
    refine this.perm ?_
    refine List.Perm.map _ ?_
    refine (List.perm_ext_iff_of_nodup hp.init_nodup nodup_standing).2 fun e => ?_
    rw [mem_standing]
    simp only [Alive]
    constructor
    · intro h; exact ⟨hp.init_lt e h, .inl h, fun k _ hk => by rw [getD_rep] at hk; cases hk⟩
    · rintro ⟨_, h | ⟨j, _, hj, _⟩, _⟩
      · exact h
      · rw [getD_rep] at hj; cases hj
  · intro g' a' w' hle hs'
    refine hQ g' a' w' hle (hs'.ofSub nodup_standing (nodupN_iff c3) fun e he => ?_)
    obtain ⟨⟨d1, d2⟩, d3⟩ := c6 e he
    refine mem_standing.2 ⟨nblt.1 d1, ?_, fun k hk _ => not_memN.1 (allN_iff.1 d3 k hk)⟩
    rcases Bool.or_eq_true_iff.1 d2 with d2 | d2
    · exact .inl (memN_iff.1 d2)
    · obtain ⟨j, hj, hh⟩ := anyN_iff d2
      exact .inr ⟨j, hj, rfl, memN_iff.1 hh⟩
end
end Go.Abs
