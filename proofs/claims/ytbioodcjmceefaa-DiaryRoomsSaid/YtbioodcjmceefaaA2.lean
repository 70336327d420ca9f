/-
  What an operation makes of the entries that it needs; a region's operations in whatever order they are carried out.
-/
import Derived.Test.YtbioodcjmceefaaA1
namespace Go.Abs

/-- With N (read), T (taken), whatever else F: the operation gives N, G and F. W: what it writes. -/
def LOp (P : Program) (o : Oper) (N T G : List Ent) (W : List Loc) : Prop :=
  ∀ (g : Gh) (F : List Ent) (a : Act) (w : World) (K : Act → World → Prop) (Q : Exit → Act → World → Prop), (∀ d, o.dst = some d → d < g.n) →
    Sat g (N ++ (T ++ F)) a w → (∀ e ∈ N ++ F, clrEnt W e = true) →
    (∀ g' a' w', g.le g' → Sat g' (N ++ (G ++ F)) a' w' → K a' w') → o.wp P a w K Q

def LOpG (P : Program) (ops : Array Oper) (i : Nat) (N T G : List Ent) (W : List Loc) : Prop :=
  ∀ (g : Gh) (F : List Ent) (a : Act) (w : World) (K : Act → World → Prop) (Q : Exit → Act → World → Prop), (∀ d, (ops[i]?).bind Oper.dst = some d → d < g.n) →
    Sat g (N ++ (T ++ F)) a w → (∀ e ∈ N ++ F, clrEnt W e = true) →
    (∀ g' a' w', g.le g' → Sat g' (N ++ (G ++ F)) a' w' → K a' w') → wpOp P ops Q i K a w

theorem LOpG.plain {P : Program} {ops : Array Oper} {i : Nat} {o : Oper} {N T G : List Ent} {W : List Loc} (ho : ops[i]? = some o) (hg : o.guard = none)
    (h : LOp P o N T G W) : LOpG P ops i N T G W := by
  intro g F a w K Q hd hs hc hk
  unfold wpOp
  rw [ho]
  simp only [Region.wanted, hg, if_true]
  exact .inl (h g F a w K Q (fun d hd' => hd d (by simp [ho, hd'])) hs hc hk)

theorem Es_mem {g : Gh} {V : Loc → Value} {w : World} {e : Ent} : ∀ {es : List Ent} {o : List Nat}, Es g V w es o → e ∈ es → ∃ o', (∀ b ∈ o', b ∈ o) ∧ ER g V w e o'
  | [], _, _, hm => by cases hm
  | e' :: es, o, h, hm => by
    obtain ⟨o1, o2, rfl, h1, h2⟩ := h
    rcases List.mem_cons.1 hm with rfl | hm
    · exact ⟨o1, fun b hb => by simp [hb], h1⟩
    · obtain ⟨o', hs, h⟩ := Es_mem h2 hm
      exact ⟨o', fun b hb => by simp [hs b hb], h⟩

theorem Sat.bool {g : Gh} {es : List Ent} {a : Act} {w : World} {d : Nat} {b : Bool} (h : Sat g es a w) (hm : (d, AV.v (.bool b)) ∈ es) : a.tmps.getD d undef = .bool b := by
  obtain ⟨V, o, hs, he⟩ := h
  obtain ⟨o', _, hr, _⟩ := Es_mem he hm
  simp only [R] at hr
  rw [← hs.val]; exact hr.1

theorem wanted_of {ops : Array Oper} {o : Oper} {tmps : Array Value} {j d : Nat} {want b : Bool} {oj : Oper} (hg : o.guard = some (j, want)) (hj : ops[j]? = some oj) (hd : oj.dst = some d)
    (hb : tmps.getD d undef = .bool b) : Region.wanted o (yielded ops tmps) = (b == want) := by
  simp only [Region.wanted, hg, yielded, hj, Option.bind_some, hd]
  have : tmps.getD d undef = .bool b := hb
  simp only [Array.getD_eq_getD_getElem?] at this
  cases hx : tmps[d]? with
  | none => simp [hx, undef] at this
  | some x => simp [hx] at this; subst this; cases b <;> cases want <;> rfl

theorem LOpG.run {P : Program} {ops : Array Oper} {i : Nat} {o : Oper} {N T G : List Ent} {W : List Loc} (j d : Nat) (want : Bool) (oj : Oper) (ho : ops[i]? = some o) (hg : o.guard = some (j, want))
    (hj : ops[j]? = some oj) (hd : oj.dst = some d) (hN : (d, AV.v (.bool want)) ∈ N) (h : LOp P o N T G W) : LOpG P ops i N T G W := by
  intro g F a w K Q hd' hs hc hk
  unfold wpOp
  rw [ho]
  have hb := hs.bool (d := d) (b := want) (by simp [hN])
  simp only [wanted_of hg hj hd hb, BEq.rfl, if_true]
  exact .inl (h g F a w K Q (fun d hd'' => hd' d (by simp [ho, hd''])) hs hc hk)

theorem put_getD (a : Act) (d t : Nat) (v : Value) (hd : d < a.tmps.size) : (a.put (some d) v).tmps.getD t undef = if t = d then v else a.tmps.getD t undef := by
  simp only [Act.put, Array.getD_eq_getD_getElem?]
  by_cases h : t = d
  · subst h; simp [hd]
  · rw [Array.getElem?_setIfInBounds_ne (fun e => h e.symm), if_neg h]

/-- A slot is written: the entries that do not name it stay. -/
theorem St.put {g : Gh} {V : Loc → Value} {o : List Nat} {a : Act} {w : World} (h : St g V o a w) (d : Nat) (x : Value) (hd : d < g.n) :
    St g (fun l => match l with | .slot t => if t = d then x else V (.slot t) | .cell t i => V (.cell t i)) o (a.put (some d) x) w :=
  ⟨fun t => by rw [put_getD a d t x (by rw [h.size]; exact hd)]; simp only [h.val], by simp [Act.put, h.size], h.defers, h.nodup, h.own, h.imm, h.chg⟩

theorem hit_slot (d : Nat) (l : Loc) (h : hit [.slot d] l = false) : (match l with | .slot t => t ≠ d | .cell t _ => t ≠ d) := by
  simp only [hit, List.any_cons, List.any_nil, Bool.or_false, Bool.or_eq_false_iff, decide_eq_false_iff_not] at h
  cases l with
  | slot t => intro e; exact h.1 (by rw [e])
  | cell t i => intro e; simp [e] at h

theorem Sat.undef {g : Gh} {es : List Ent} {a : Act} {w : World} {d : Nat} (h : Sat g es a w) (hm : (d, AV.v undef) ∈ es) : a.tmps.getD d undef = undef := by
  obtain ⟨V, o, hst, he⟩ := h
  obtain ⟨o', _, hR, _⟩ := Es_mem he hm
  simp only [R] at hR
  rw [← hst.val]; exact hR.1

theorem wanted_undef {ops : Array Oper} {o : Oper} {tmps : Array Value} {j d : Nat} {want : Bool} {oj : Oper} (hg : o.guard = some (j, want)) (hj : ops[j]? = some oj) (hd : oj.dst = some d)
    (hb : tmps.getD d undef = undef) : Region.wanted o (yielded ops tmps) = false := by
  simp only [Region.wanted, hg, yielded, hj, Option.bind_some, hd]
  simp only [Array.getD_eq_getD_getElem?] at hb
  cases hx : tmps[d]? with
  | none => cases want <;> rfl
  | some x => simp [hx] at hb; subst hb; cases want <;> rfl

theorem LOpG.skip {P : Program} {ops : Array Oper} {i : Nat} {o : Oper} {N : List Ent} (j d dd : Nat) (want : Bool) (oj : Oper) (ho : ops[i]? = some o) (hg : o.guard = some (j, want))
    (hj : ops[j]? = some oj) (hd : oj.dst = some d) (hdd : o.dst = some dd) (hN : (d, AV.v (.bool (!want))) ∈ N) : LOpG P ops i N [] [(dd, .v undef)] [.slot dd] := by
  intro g F a w K Q hd' hs hc hk
  unfold wpOp
  rw [ho]
  have hb := hs.bool (d := d) (b := !want) (by simp [hN])
  have hw : Region.wanted o (yielded ops a.tmps) = false := by rw [wanted_of hg hj hd hb]; cases want <;> rfl
  simp only [hw]
  obtain ⟨V, ow, hst, hes⟩ := hs
  have hlt : dd < g.n := hd' dd (by simp [ho, hdd])
  have hst' := hst.put dd undef hlt
  rw [hdd]
  refine hk g _ w g.le_refl ⟨_, _, hst', ?_⟩
  simp only [List.nil_append] at hes
  obtain ⟨o1, o2, rfl, h1, h2⟩ := Es_append.1 hes
  have stab := fun es o hcl hh => Es_stab (g := g) (g' := g) (V := V) (V' := (fun l => match l with | .slot t => if t = dd then undef else V (.slot t) | .cell t i => V (.cell t i))) (w := w) (w' := w) (W := [.slot dd])
    (fun _ h => h) (fun _ h => h) (fun l hl => by have := hit_slot dd l hl; cases l <;> simp_all) es o hcl (fun _ _ => rfl) hh
  refine Es_append.2 ⟨o1, o2, rfl, stab _ _ (fun e he => hc e (by simp [he])) h1, [], o2, rfl, ⟨by simp [R], trivial⟩, stab _ _ (fun e he => hc e (List.mem_append.2 (.inr he))) h2⟩

theorem LOpG.skipU {P : Program} {ops : Array Oper} {i : Nat} {o : Oper} {N : List Ent} (j d dd : Nat) (want : Bool) (oj : Oper) (ho : ops[i]? = some o) (hg : o.guard = some (j, want))
    (hj : ops[j]? = some oj) (hd : oj.dst = some d) (hdd : o.dst = some dd) (hN : (d, AV.v undef) ∈ N) : LOpG P ops i N [] [(dd, .v undef)] [.slot dd] := by
  intro g F a w K Q hd' hs hc hk
  unfold wpOp
  rw [ho]
  have hb := hs.undef (d := d) (by simp [hN])
  have hw : Region.wanted o (yielded ops a.tmps) = false := wanted_undef hg hj hd hb
  simp only [hw]
  obtain ⟨V, ow, hst, hes⟩ := hs
  have hlt : dd < g.n := hd' dd (by simp [ho, hdd])
  have hst' := hst.put dd undef hlt
  rw [hdd]
  refine hk g _ w g.le_refl ⟨_, _, hst', ?_⟩
  simp only [List.nil_append] at hes
  obtain ⟨o1, o2, rfl, h1, h2⟩ := Es_append.1 hes
  have stab := fun es o hcl hh => Es_stab (g := g) (g' := g) (V := V) (V' := (fun l => match l with | .slot t => if t = dd then undef else V (.slot t) | .cell t i => V (.cell t i))) (w := w) (w' := w) (W := [.slot dd])
    (fun _ h => h) (fun _ h => h) (fun l hl => by have := hit_slot dd l hl; cases l <;> simp_all) es o hcl (fun _ _ => rfl) hh
  refine Es_append.2 ⟨o1, o2, rfl, stab _ _ (fun e he => hc e (by simp [he])) h1, [], o2, rfl, ⟨by simp [R], trivial⟩, stab _ _ (fun e he => hc e (List.mem_append.2 (.inr he))) h2⟩

mutual
theorem clr_nil : ∀ (av : AV), clr [] av = true
  | .any => by simp [clr]
  | .v _ => by simp [clr]
  | .fl .. => by simp [clr]
  | .agg cs => by simp only [clr]; exact clrs_nil cs
  | .tup cs => by simp only [clr]; exact clrs_nil cs
  | .box _ cs => by simp only [clr]; exact clrs_nil cs
  | .same l => by simp [clr, hit]
  | .ptr t _ => by simp [clr, hit]
  | .eref l _ => by simp [clr, hit]
  | .cut l _ => by simp [clr, hit]
  | .arr .. => rfl
  | .fr .. => rfl
  | .glob _ => rfl
  | .obox _ _ cs => by simp only [clr]; exact clrs_nil cs
  | .clo _ ts => by simp [clr, hit]
theorem clrs_nil : ∀ (cs : List AV), clrs [] cs = true
  | [] => by simp [clrs]
  | c :: cs => by simp only [clrs, clr_nil c, clrs_nil cs, Bool.and_self]
end

theorem countP_lt (p q : Nat → Bool) : ∀ (l : List Nat), (∀ j ∈ l, p j = true → q j = true) → ∀ i ∈ l, q i = true → p i = false → l.countP p < l.countP q
  | [], _, i, hi, _, _ => by cases hi
  | x :: l, himp, i, hi, hq, hp => by
    have hle : l.countP p ≤ l.countP q := List.countP_mono_left fun j hj h => himp j (by simp [hj]) h
    rcases List.mem_cons.1 hi with rfl | hi
    · simp [hq, hp]; omega
    · have ih := countP_lt p q l (fun j hj => himp j (by simp [hj])) i hi hq hp
      simp only [List.countP_cons]
      have hx := himp x (by simp)
      cases hpx : p x <;> cases hqx : q x <;> simp_all <;> omega

structure Sp where
  N : List Nat
  T : List Nat
  G : List Nat
  W : List Loc

def memN (e : Nat) : List Nat → Bool
  | [] => false
  | x :: r => Nat.beq e x || memN e r
theorem memN_iff {e : Nat} : ∀ {l : List Nat}, memN e l = true ↔ e ∈ l
  | [] => by simp [memN]
  | x :: r => by simp [memN, memN_iff (l := r)]

def allN (n : Nat) (f : Nat → Bool) : Bool := Nat.rec true (fun k r => f k && r) n
theorem allN_iff {f : Nat → Bool} : ∀ {n : Nat}, allN n f = true ↔ ∀ k, k < n → f k = true
  | 0 => ⟨fun _ k hk => absurd hk (by omega), fun _ => rfl⟩
  | n + 1 => by
    have ih := allN_iff (f := f) (n := n)
    show (f n && allN n f) = true ↔ _
    rw [Bool.and_eq_true, ih]
    constructor
    · rintro ⟨h1, h2⟩ k hk
      rcases Nat.lt_succ_iff_lt_or_eq.1 hk with h | rfl
      · exact h2 k h
      · exact h1
    · intro h; exact ⟨h n (by omega), fun k hk => h k (by omega)⟩

def spAt (sps : List Sp) (i : Nat) : Sp := (sps[i]?).getD ⟨[], [], [], []⟩

/-- What holds of a region's plan, whatever the order. pre i j: j is carried out ahead of i. -/
structure Plan (n m : Nat) (E : Nat → Ent) (init : List Nat) (sp : Nat → Sp) (pre : Nat → Nat → Bool) : Prop where
  init_lt : ∀ e ∈ init, e < m
  init_nodup : init.Nodup
  avail : ∀ i, i < n → ∀ e, e ∈ (sp i).N ++ (sp i).T → e < m ∧ (e ∈ init ∨ ∃ j, j < n ∧ pre i j = true ∧ e ∈ (sp j).G)
  kept : ∀ i k, i < n → k < n → k ≠ i → ∀ e, e ∈ (sp i).N ++ (sp i).T → e ∈ (sp k).T → pre k i = true
  made : ∀ i, i < n → ∀ e, e ∈ (sp i).G → e < m ∧ e ∉ init ∧ (∀ k, k < n → e ∈ (sp k).T → pre k i = true ∧ k ≠ i) ∧ (∀ k, k < n → k ≠ i → e ∉ (sp k).G)
  nodup : ∀ i, i < n → ((sp i).N ++ (sp i).T).Nodup ∧ (sp i).G.Nodup ∧ ∀ e ∈ (sp i).G, e ∉ (sp i).N ++ (sp i).T
  clear : ∀ i, i < n → ∀ e, e < m → e ∉ (sp i).T → (∀ j, j < n → e ∈ (sp j).G → j ≠ i ∧ pre j i = false) → (∀ k, k < n → e ∈ (sp k).T → pre i k = false) → clrEnt (sp i).W (E e) = true

section
variable {n m : Nat} {E : Nat → Ent} {init : List Nat} {sp : Nat → Sp} {pre : Nat → Nat → Bool}

/-- The entries that stand when the operations of L have been carried out. -/
def Alive (n : Nat) (init : List Nat) (sp : Nat → Sp) (L : Nat → Bool) (e : Nat) : Prop :=
  (e ∈ init ∨ ∃ j, j < n ∧ L j = true ∧ e ∈ (sp j).G) ∧ ∀ k, k < n → L k = true → e ∉ (sp k).T

open Classical in
noncomputable def standing (n m : Nat) (init : List Nat) (sp : Nat → Sp) (L : Nat → Bool) : List Nat := (List.range m).filter fun e => decide (Alive n init sp L e)

theorem mem_standing {L : Nat → Bool} {e : Nat} : e ∈ standing n m init sp L ↔ e < m ∧ Alive n init sp L e := by simp [standing]
theorem nodup_standing {L : Nat → Bool} : (standing n m init sp L).Nodup := List.Nodup.sublist List.filter_sublist List.nodup_range

theorem plan_step (hp : Plan n m E init sp pre) {L : Nat → Bool} {i : Nat} (hi : i < n) (hL : L i = false) (hpre : ∀ j, j < n → pre i j = true → L j = true)
    (hcl : ∀ i, i < n → L i = true → ∀ j, j < n → pre i j = true → L j = true) :
    ∃ F : List Nat, (standing n m init sp L).Perm ((sp i).N ++ ((sp i).T ++ F)) ∧
      (standing n m init sp (fun j => L j || j == i)).Perm ((sp i).N ++ ((sp i).G ++ F)) ∧ ∀ e ∈ (sp i).N ++ F, clrEnt (sp i).W (E e) = true := by
  have hav : ∀ e, e ∈ (sp i).N ++ (sp i).T → e ∈ standing n m init sp L := by
    intro e he
    obtain ⟨h1, h2⟩ := hp.avail i hi e he
    refine mem_standing.2 ⟨h1, ?_, ?_⟩
    · rcases h2 with h2 | ⟨j, hj, hpj, hg⟩
      · exact .inl h2
      · exact .inr ⟨j, hj, hpre j hj hpj, hg⟩
    · intro k hk hLk hT
      have hne : k ≠ i := fun e => by subst e; simp [hL] at hLk
      have := hcl k hk hLk i hi (hp.kept i k hi hk hne e he hT)
      simp [hL] at this
  obtain ⟨nd1, nd2, nd3⟩ := hp.nodup i hi
  let F := (standing n m init sp L).filter fun e => !memN e ((sp i).N ++ (sp i).T)
  have hF : ∀ e, e ∈ F ↔ e ∈ standing n m init sp L ∧ e ∉ (sp i).N ++ (sp i).T := by
    intro e
    simp only [F, List.mem_filter, Bool.not_eq_true']
    refine and_congr_right fun _ => ?_
    rw [← memN_iff (l := (sp i).N ++ (sp i).T)]; simp
  have ndF : F.Nodup := List.Nodup.sublist List.filter_sublist nodup_standing
  have gS : ∀ e ∈ (sp i).G, e ∉ standing n m init sp L := by
    intro e he hs
    obtain ⟨_, h2, _, h4⟩ := hp.made i hi e he
    obtain ⟨_, h5, _⟩ := mem_standing.1 hs
    rcases h5 with h5 | ⟨j, hj, hLj, hg⟩
    · exact h2 h5
    · exact h4 j hj (fun e => by subst e; simp [hL] at hLj) hg
  have nd1' := List.nodup_append.1 nd1
  refine ⟨F, ?_, ?_, ?_⟩
  · refine (List.perm_ext_iff_of_nodup nodup_standing ?_).2 fun e => ?_
    · rw [← List.append_assoc]
      exact List.nodup_append.2 ⟨nd1, ndF, fun a ha b hb e => by subst e; exact ((hF _).1 hb).2 ha⟩
    · rw [← List.append_assoc, List.mem_append, hF]
      constructor
      · intro h
        by_cases h' : e ∈ (sp i).N ++ (sp i).T
        · exact .inl h'
        · exact .inr ⟨h, h'⟩
      · rintro (h | h)
        · exact hav e h
        · exact h.1
  · refine (List.perm_ext_iff_of_nodup nodup_standing ?_).2 fun e => ?_
    · refine List.nodup_append.2 ⟨nd1'.1, List.nodup_append.2 ⟨nd2, ndF, fun a ha b hb e => by subst e; exact gS _ ha ((hF _).1 hb).1⟩, fun a ha b hb e => ?_⟩
      subst e
      rcases List.mem_append.1 hb with h | h
      · exact nd3 _ h (by simp [ha])
      · exact ((hF _).1 h).2 (by simp [ha])
    · rw [mem_standing, List.mem_append, List.mem_append, hF, mem_standing]
      constructor
      · rintro ⟨h1, h2, h3⟩
        have hnT : e ∉ (sp i).T := h3 i hi (by simp)
        have hnk : ∀ k, k < n → L k = true → e ∉ (sp k).T := fun k hk hLk => h3 k hk (by simp [hLk])
        by_cases hN : e ∈ (sp i).N
        · exact .inl hN
        right
        rcases h2 with h2 | ⟨j, hj, hLj, hg⟩
        · exact .inr ⟨⟨h1, .inl h2, hnk⟩, by simp [hN, hnT]⟩
        · by_cases hji : j = i
          · subst hji; exact .inl hg
          · exact .inr ⟨⟨h1, .inr ⟨j, hj, by simpa [hji] using hLj, hg⟩, hnk⟩, by simp [hN, hnT]⟩
      · rintro (h | h | ⟨⟨h1, h2, h3⟩, h4⟩)
        · obtain ⟨h1, h2, h3⟩ := mem_standing.1 (hav e (by simp [h]))
          refine ⟨h1, ?_, ?_⟩
          · rcases h2 with h2 | ⟨j, hj, hLj, hg⟩
            · exact .inl h2
            · exact .inr ⟨j, hj, by simp [hLj], hg⟩
          · intro k hk hLk hT
            by_cases hki : k = i
            · subst hki; exact nd1'.2.2 e h e hT rfl
            · exact h3 k hk (by simpa [hki] using hLk) hT
        · obtain ⟨h1, h2, h3, h4⟩ := hp.made i hi e h
          refine ⟨h1, .inr ⟨i, hi, by simp, h⟩, ?_⟩
          intro k hk hLk hT
          obtain ⟨h5, h6⟩ := h3 k hk hT
          have := hcl k hk (by simpa [h6] using hLk) i hi h5
          simp [hL] at this
        · refine ⟨h1, ?_, ?_⟩
          · rcases h2 with h2 | ⟨j, hj, hLj, hg⟩
            · exact .inl h2
            · exact .inr ⟨j, hj, by simp [hLj], hg⟩
          · intro k hk hLk hT
            by_cases hki : k = i
            · subst hki; exact h4 (by simp [hT])
            · exact h3 k hk (by simpa [hki] using hLk) hT
  · intro e he
    have hes : e ∈ standing n m init sp L ∧ e ∉ (sp i).T := by
      rcases List.mem_append.1 he with h | h
      · exact ⟨hav e (by simp [h]), fun hT => nd1'.2.2 e h e hT rfl⟩
      · exact ⟨((hF e).1 h).1, fun hT => ((hF e).1 h).2 (by simp [hT])⟩
    obtain ⟨⟨h1, h2, h3⟩, h4⟩ := And.intro (mem_standing.1 hes.1) hes.2
    refine hp.clear i hi e h1 h4 ?_ ?_
    · intro j hj hg
      have hLj : L j = true := by
        rcases h2 with h2 | ⟨j', hj', hLj', hg'⟩
        · exact absurd h2 (hp.made j hj e hg).2.1
        · by_cases hjj : j' = j
          · subst hjj; exact hLj'
          · exact absurd hg' ((hp.made j hj e hg).2.2.2 j' hj' hjj)
      refine ⟨fun e => by subst e; simp [hL] at hLj, ?_⟩
      cases hpj : pre j i
      · rfl
      · have := hcl j hj hLj i hi hpj; simp [hL] at this
    · intro k hk hT
      cases hpk : pre i k
      · rfl
      · exact absurd hT (h3 k hk (hpre k hk hpk))
end

theorem Sat.drew {g : Gh} {es : List Ent} {a : Act} {w : World} (h : Sat g es a w) : Sat g es a { w with drawn := w.drawn + 1 } := by
  obtain ⟨V, o, hs, he⟩ := h
  refine ⟨V, o, ⟨hs.val, hs.size, hs.defers, hs.nodup, hs.own, hs.imm, hs.chg.trans (Chg.drew _ _)⟩, ?_⟩
  exact Es_stab (W := []) (w := w) (w' := { w with drawn := w.drawn + 1 }) (fun _ h => h) (fun _ h => h) (fun _ _ => rfl) es o (fun e _ => by
    simp only [clrEnt, hit, List.any_nil, List.all_nil, Bool.not_false, Bool.true_and, Bool.and_true, Bool.or_true]; exact clr_nil e.2) (fun _ _ => rfl) he

section
variable {P : Program} {ops : Array Oper} {n m : Nat} {E : Nat → Ent} {init : List Nat} {sp : Nat → Sp} {pre : Nat → Nat → Bool} {Q : Exit → Act → World → Prop}

def Steps' (P : Program) (ops : Array Oper) (E : Nat → Ent) (sp : Nat → Sp) (n : Nat) : Prop :=
  ∀ i, i < n → LOpG P ops i ((sp i).N.map E) ((sp i).T.map E) ((sp i).G.map E) (sp i).W

theorem standing_congr {L L' : Nat → Bool} (h : ∀ j, j < n → L j = L' j) : standing n m init sp L = standing n m init sp L' := by
  unfold standing
  congr 1
  funext e
  congr 1
  unfold Alive
  apply propext
  constructor
  · rintro ⟨h1, h2⟩
    exact ⟨h1.imp id fun ⟨j, hj, hl, hg⟩ => ⟨j, hj, (h j hj) ▸ hl, hg⟩, fun k hk hl => h2 k hk ((h k hk).symm ▸ hl)⟩
  · rintro ⟨h1, h2⟩
    exact ⟨h1.imp id fun ⟨j, hj, hl, hg⟩ => ⟨j, hj, (h j hj).symm ▸ hl, hg⟩, fun k hk hl => h2 k hk ((h k hk) ▸ hl)⟩

theorem one_step (hp : Plan n m E init sp pre) (hsteps : Steps' P ops E sp n) {g : Gh} (hdst : ∀ (i d : Nat), (ops[i]?).bind Oper.dst = some d → d < g.n) {L : Nat → Bool} {i : Nat} (hi : i < n) (hL : L i = false)
    (hpre : ∀ j, j < n → pre i j = true → L j = true) (hcl : ∀ i, i < n → L i = true → ∀ j, j < n → pre i j = true → L j = true)
    {a : Act} {w : World} (hs : Sat g ((standing n m init sp L).map E) a w) {K : Act → World → Prop}
    (hk : ∀ g' a' w', g.le g' → Sat g' ((standing n m init sp (fun j => L j || j == i)).map E) a' w' → K a' w') : wpOp P ops Q i K a w := by
  obtain ⟨F, p1, p2, hc⟩ := plan_step hp hi hL hpre hcl
  have hs1 : Sat g ((sp i).N.map E ++ ((sp i).T.map E ++ F.map E)) a w := by
    have := hs.perm (p1.map E)
    simpa using this
  refine hsteps i hi g (F.map E) a w K Q (hdst i) hs1 ?_ ?_
  · intro e he
    rw [← List.map_append] at he
    obtain ⟨x, hx, rfl⟩ := List.mem_map.1 he
    exact hc x hx
  · intro g' a' w' hle hs'
    refine hk g' a' w' hle (hs'.perm ?_)
    have := (p2.map E).symm
    simpa using this

/-- In the text's order. -/
theorem seq_steps (hp : Plan n m E init sp pre) (hsteps : Steps' P ops E sp n) (hord : ∀ i j, pre i j = true → j < i) {g0 : Gh} (hdst : ∀ (i d : Nat), (ops[i]?).bind Oper.dst = some d → d < g0.n) :
    ∀ (l k : Nat), k + l = n → ∀ (g : Gh) (a : Act) (w : World), g0.le g → Sat g ((standing n m init sp (fun j => decide (j < k))).map E) a w →
      (∀ g' a' w', g0.le g' → Sat g' ((standing n m init sp (fun _ => true)).map E) a' w' → Q .normal a' w') → wpOps P ops Q (List.range' k l) a w
  | 0, k, hkl, g, a, w, hg, hs, hQ => by
    simp only [List.range'_zero, wpOps]
    refine hQ g a w hg ?_
    rw [standing_congr (L' := fun _ => true) (fun j hj => by simp; omega)] at hs
    exact hs
  | l + 1, k, hkl, g, a, w, hg, hs, hQ => by
    rw [List.range'_succ, wpOps_cons]
    refine one_step hp hsteps (fun i d h => by rw [hg.n]; exact hdst i d h) (L := fun j => decide (j < k)) (by omega) (by simp) (fun j _ h => by simpa using hord k j h) ?_ hs ?_
    · intro i _ hi j _ hj
      have h1 := hord i j hj
      simp at hi ⊢; omega
    · intro g' a' w' hle hs'
      rw [standing_congr (L' := fun j => decide (j < k + 1)) (fun j _ => by
        rw [Bool.eq_iff_iff]; simp; omega)] at hs'
      exact seq_steps hp hsteps hord hdst l (k + 1) (by omega) g' a' w' (hg.trans hle) hs' hQ

/-- In any order that the edges allow. -/
theorem any_steps (hp : Plan n m E init sp pre) (hsteps : Steps' P ops E sp n) (hn : ops.size = n)
    (hpre : ∀ (i : Nat) o, ops[i]? = some o → ∀ j, j < n → pre i j = true → ∃ e ∈ o.after, Region.binds .any e = true ∧ (j = e.on ∨ pre e.on j = true))
    (hon : ∀ (i : Nat) o, ops[i]? = some o → ∀ e ∈ o.after, Region.binds .any e = true → e.on < i) {g0 : Gh} (hdst : ∀ (i d : Nat), (ops[i]?).bind Oper.dst = some d → d < g0.n) :
    ∀ (fuel : Nat) (listed : Array Bool), listed.size = n → (List.range n).countP (fun j => !listed.getD j false) ≤ fuel →
      (∀ i, i < n → listed.getD i false = true → ∀ j, j < n → pre i j = true → listed.getD j false = true) → ∀ (g : Gh) (a : Act) (w : World), g0.le g →
      Sat g ((standing n m init sp (fun j => listed.getD j false)).map E) a w →
      (∀ g' a' w', g0.le g' → Sat g' ((standing n m init sp (fun _ => true)).map E) a' w' → Q .normal a' w') → wpAny P .any ops Q fuel listed a w := by
  have hfull : ∀ (listed : Array Bool), listed.size = n → Region.ready .any ops listed = [] → ∀ j, j < n → listed.getD j false = true := by
    intro listed hsz hr j
    induction j using Nat.strongRecOn with
    | _ j ih =>
      intro hj
      cases hlj : listed.getD j false
      · exfalso
        have hjo : j < ops.size := by omega
        have : j ∈ Region.ready .any ops listed := by
          rw [mem_ready]
          refine ⟨?_, ops[j], Array.getElem?_eq_getElem hjo, ?_⟩
          · have hjl : j < listed.size := by omega
            simp only [Array.getD_eq_getD_getElem?, Array.getElem?_eq_getElem hjl, Option.getD_some] at hlj ⊢
            exact hlj
          · intro e he hb
            have h1 := hon j _ (Array.getElem?_eq_getElem hjo) e he hb
            exact ih e.on h1 (by omega)
        rw [hr] at this; cases this
      · rfl
  intro fuel
  induction fuel with
  | zero =>
    intro listed hsz hcnt hcl g a w hg hs hQ
    have hall : ∀ j, j < n → listed.getD j false = true := by
      have h0 : (List.range n).countP (fun j => !listed.getD j false) = 0 := by omega
      rw [List.countP_eq_zero] at h0
      intro j hj
      have := h0 j (by simpa using hj)
      simpa using this
    refine ⟨?_, hQ g a w hg ?_⟩
    · apply List.eq_nil_iff_forall_not_mem.2
      intro j hj
      rw [mem_ready] at hj
      obtain ⟨h1, o, ho, _⟩ := hj
      have hj : j < n := by rw [← hn]; exact (Array.getElem?_eq_some_iff.1 ho).1
      have h2 := hall j hj
      have hjl : j < listed.size := by omega
      simp only [Array.getD_eq_getD_getElem?, Array.getElem?_eq_getElem hjl, Option.getD_some] at h1 h2
      rw [h1] at h2; cases h2
    · rw [standing_congr (L' := fun _ => true) (fun j hj => hall j hj)] at hs
      exact hs
  | succ fuel ih =>
    intro listed hsz hcnt hcl g a w hg hs hQ
    refine ⟨fun hr => hQ g a w hg ?_, ?_⟩
    · rw [standing_congr (L' := fun _ => true) (fun j hj => hfull listed hsz hr j hj)] at hs
      exact hs
    · intro i hi
      have hi' := hi
      rw [mem_ready] at hi'
      obtain ⟨h1, o, ho, hedge⟩ := hi'
      have hin : i < n := by rw [← hn]; exact (Array.getElem?_eq_some_iff.1 ho).1
      have hil : i < listed.size := by omega
      have hLi : listed.getD i false = false := by
        simp only [Array.getD_eq_getD_getElem?, Array.getElem?_eq_getElem hil, Option.getD_some] at h1 ⊢
        exact h1
      have hpi : ∀ j, j < n → pre i j = true → listed.getD j false = true := by
        intro j hj hp'
        obtain ⟨e, he, hb, hor⟩ := hpre i o ho j hj hp'
        have h2 := hedge e he hb
        rcases hor with rfl | hor
        · exact h2
        · have hen : e.on < n := by have := hon i o ho e he hb; omega
          exact hcl e.on hen h2 j hj hor
      refine one_step hp hsteps (fun i d h => by rw [hg.n]; exact hdst i d h) (L := fun j => listed.getD j false) hin hLi hpi hcl hs ?_
      intro g' a' w' hle hs'
      have hset : ∀ j, (listed.setIfInBounds i true).getD j false = (listed.getD j false || j == i) := by
        intro j
        by_cases hji : j = i
        · subst hji; simp [hil]
        · rw [getD_set_ne false (fun e => hji e.symm)]; simp [hji]
      refine ih (listed.setIfInBounds i true) (by simpa using hsz) ?_ ?_ g' a' w' (hg.trans hle) ?_ hQ
      · have hlt : (List.range n).countP (fun j => !(listed.setIfInBounds i true).getD j false) < (List.range n).countP (fun j => !listed.getD j false) := by
          refine countP_lt _ _ _ (fun j _ h => ?_) i (by simpa using hin) (by simp [hLi]) (by rw [hset]; simp)
          rw [hset] at h; simp at h ⊢; exact h.1
        omega
      · intro k hk hlk j hj hpj
        rw [hset] at hlk ⊢
        by_cases hki : k = i
        · subst hki; simp [hpi j hj hpj]
        · have : listed.getD k false = true := by simpa [hki] using hlk
          simp [hcl k hk this j hj hpj]
      · rw [standing_congr (L' := fun j => listed.getD j false || j == i) (fun j _ => hset j)]
        exact hs'
end
end Go.Abs
