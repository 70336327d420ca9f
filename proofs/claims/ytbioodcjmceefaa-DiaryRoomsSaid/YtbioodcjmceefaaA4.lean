/-
  Operations: the common frame of their rules, what an operand holds, numbers, moves.
-/
import Derived.Test.YtbioodcjmceefaaA3
namespace Go.Abs

/-- The operation yields a value and a world of which the word holds. -/
def Yl (P : Program) (o : Oper) (a : Act) (w : World) (Φ : Value → World → Prop) : Prop :=
  ∀ (K : Act → World → Prop) (Q : Exit → Act → World → Prop), (∀ x w', Φ x w' → K (a.put o.dst x) w') → o.wp P a w K Q

theorem Yl.val {P : Program} {o : Oper} {a : Act} {w w' : World} {x : Value} (h : (execOp a.eval o).run P w = .ok (.value x) w') : Yl P o a w (fun y v => y = x ∧ v = w') := by
  intro K Q hk
  unfold Oper.wp
  rw [h]
  exact hk x w' ⟨rfl, rfl⟩
theorem Yl.skip {P : Program} {o : Oper} {a : Act} {w w' : World} (h : (execOp a.eval o).run P w = .ok .skip w') : Yl P o a w (fun y v => y = undef ∧ v = w') := by
  intro K Q hk
  unfold Oper.wp
  rw [h]
  exact hk undef w' ⟨rfl, rfl⟩
theorem Yl.call {P : Program} {o : Oper} {a : Act} {w w' : World} {f : FuncId} {args : Array Value} {Φ : Value → World → Prop} (h : (execOp a.eval o).run P w = .ok (.enter f args) w')
    (hc : Calls P f args w' fun e w'' => ∃ v, e = .returned v ∧ Φ v w'') : Yl P o a w Φ := by
  intro K Q hk
  unfold Oper.wp
  rw [h]
  refine hc.mono ?_
  rintro e w'' ⟨v, rfl, hv⟩
  exact hk v w'' hv
theorem Yl.mono {P : Program} {o : Oper} {a : Act} {w : World} {Φ Ψ : Value → World → Prop} (h : Yl P o a w Φ) (hh : ∀ x w', Φ x w' → Ψ x w') : Yl P o a w Ψ :=
  fun K Q hk => h K Q fun x w' hx => hk x w' (hh x w' hx)

/-- What is known of a state when the rule of an operation is asked for. -/
structure Pre (g : Gh) (V : Loc → Value) (N T : List Ent) (oN oT : List Nat) (a : Act) (w : World) : Prop where
  val : ∀ t, V (.slot t) = a.tmps.getD t undef
  size : a.tmps.size = g.n
  imm : ∀ b, g.imm b → b < w.heap.size
  own : ∀ b ∈ oN ++ oT, b < w.heap.size ∧ ¬ g.imm b
  own2 : ∀ b ∈ oN ++ oT, g.w0.heap.size ≤ b ∨ b ∈ g.io
  nodup : (oN ++ oT).Nodup
  esN : Es g V w N oN
  esT : Es g V w T oT
  base : g.w0.heap.size ≤ w.heap.size

/-- What a rule owes. -/
structure Post (g : Gh) (V : Loc → Value) (G : List Ent) (W : List Loc) (oT : List Nat) (dst : Option Tmp) (a : Act) (w : World) (x : Value) (w' : World) : Prop where
  out : ∃ (g' : Gh) (V' : Loc → Value) (oG : List Nat), g.le g' ∧ (∀ b, g'.Imm b → g.Imm b ∨ b ∈ oT ∨ w.heap.size ≤ b) ∧ (∀ b, g'.Imm b → b < w'.heap.size) ∧ Chg oT w w' ∧
    (∀ l, hit W l = false → V' l = V l) ∧ (∀ t, V' (.slot t) = (a.put dst x).tmps.getD t undef) ∧ Es g' V' w' G oG ∧ oG.Nodup ∧ (∀ b ∈ oG, (b ∈ oT ∨ w.heap.size ≤ b) ∧ b < w'.heap.size ∧ ¬ g'.imm b)

theorem LOp.core {P : Program} {o : Oper} {N T G : List Ent} {W : List Loc}
    (h : ∀ (g : Gh) (V : Loc → Value) (oN oT : List Nat) (a : Act) (w : World), (∀ d, o.dst = some d → d < g.n) → Pre g V N T oN oT a w →
      Yl P o a w fun x w' => Post g V G W oT o.dst a w x w') : LOp P o N T G W := by
  intro g F a w K Q hd hs hc hk
  obtain ⟨V, ow, hst, hes⟩ := hs
  obtain ⟨oN, oR, rfl, hN, hR⟩ := Es_append.1 hes
  obtain ⟨oT, oF, rfl, hT, hF⟩ := Es_append.1 hR
  have hnd := hst.nodup
  have hnd1 : (oN ++ oT).Nodup := by rw [← List.append_assoc] at hnd; exact (List.nodup_append.1 hnd).1
  have hpre : Pre g V N T oN oT a w := ⟨hst.val, hst.size, hst.imm, fun b hb => by
    have := hst.own b (by simp at hb ⊢; rcases hb with h | h <;> simp [h])
    exact ⟨this.1, this.2.2⟩, fun b hb => (hst.own b (by simp at hb ⊢; rcases hb with h | h <;> simp [h])).2.1, hnd1, hN, hT, hst.chg.size⟩
  refine h g V oN oT a w hd hpre K Q ?_
  rintro x w' ⟨g', V', oG, hle, hnew, himm, hchg, hV, hval, hG, hGn, hGo⟩
  have hIM : ∀ b, g.Im b → g'.Im b := fun b hb => by rw [hle.Im]; exact hb
  have hnF : ∀ b, b ∈ oN ∨ b ∈ oF → b ∉ oT := by
    intro b hb hT
    rcases hb with hb | hb
    · exact (List.nodup_append.1 hnd1).2.2 b hb b hT rfl
    · have h1 := (List.nodup_append.1 hnd).2.1
      exact (List.nodup_append.1 h1).2.2 b hT b hb rfl
  have hownlt : ∀ b, b ∈ oN ∨ b ∈ oT ∨ b ∈ oF → b < w.heap.size ∧ (g.w0.heap.size ≤ b ∨ b ∈ g.io) ∧ ¬ g.imm b := fun b hb => hst.own b (by simpa using hb)
  have himmT : ∀ b, g.imm b → b ∉ oT := fun b hb hT => (hownlt b (.inr (.inl hT))).2.2 hb
  have hNstab : Es g' V' w' N oN := Es_stab hle.Imm hIM hV N oN (fun e he => hc e (by simp [he])) (fun b hb => by
    rcases hb with hb | hb
    · exact hchg.block b (hownlt b (.inl hb)).1 (hnF b (.inl hb))
    · exact hchg.block b (hst.imm b hb) (himmT b hb)) hN
  have hFstab : Es g' V' w' F oF := Es_stab hle.Imm hIM hV F oF (fun e he => hc e (by simp [he])) (fun b hb => by
    rcases hb with hb | hb
    · exact hchg.block b (hownlt b (.inr (.inr hb))).1 (hnF b (.inr hb))
    · exact hchg.block b (hst.imm b hb) (himmT b hb)) hF
  refine hk g' _ w' hle ⟨V', oN ++ (oG ++ oF), ⟨hval, ?_, ?_, ?_, ?_, ?_, ?_⟩, Es_append.2 ⟨oN, _, rfl, hNstab, Es_append.2 ⟨oG, oF, rfl, hG, hFstab⟩⟩⟩
  · rw [hle.n, ← hst.size]; unfold Act.put; split <;> simp
  · unfold Act.put; split <;> exact hst.defers
  · have h1 := List.nodup_append.1 hnd
    have h2 := List.nodup_append.1 h1.2.1
    refine List.nodup_append.2 ⟨h1.1, List.nodup_append.2 ⟨hGn, h2.2.1, ?_⟩, ?_⟩
    · intro b hb c hc e
      subst e
      rcases (hGo b hb).1 with h3 | h3
      · exact h2.2.2 b h3 b hc rfl
      · have := (hownlt b (.inr (.inr hc))).1; omega
    · intro b hb c hc e
      subst e
      rcases List.mem_append.1 hc with hc | hc
      · rcases (hGo b hc).1 with h3 | h3
        · exact h1.2.2 b hb b (by simp [h3]) rfl
        · have := (hownlt b (.inl hb)).1; omega
      · exact h1.2.2 b hb b (by simp [hc]) rfl
  · intro b hb
    rw [hle.w0, hle.io]
    have hold : b ∈ oN ∨ b ∈ oF → b < w'.heap.size ∧ (g.w0.heap.size ≤ b ∨ b ∈ g.io) ∧ ¬ g'.imm b := by
      intro hb'
      have h1 := hownlt b (hb'.imp id .inr)
      refine ⟨Nat.lt_of_lt_of_le h1.1 hchg.size, h1.2.1, fun hi => ?_⟩
      rcases hi with hi | hi
      · rcases hnew b hi with h2 | h2 | h2
        · exact h1.2.2 (.inl h2)
        · exact hnF b hb' h2
        · omega
      · rw [hle.Im] at hi; exact h1.2.2 (.inr hi)
    rcases List.mem_append.1 hb with hb | hb
    · exact hold (.inl hb)
    · rcases List.mem_append.1 hb with hb | hb
      · obtain ⟨h1, h2, h3⟩ := hGo b hb
        refine ⟨h2, ?_, h3⟩
        rcases h1 with h1 | h1
        · exact (hownlt b (.inr (.inl h1))).2.1
        · exact .inl (Nat.le_trans hst.chg.size h1)
      · exact hold (.inr hb)
  · intro b hb
    rcases hb with hb | hb
    · exact himm b hb
    · rw [hle.Im] at hb; exact Nat.lt_of_lt_of_le (hst.imm b (.inr hb)) hchg.size
  · rw [hle.w0, hle.io]
    refine hst.chg.trans' hchg ?_
    intro b hb
    rcases (hownlt b (.inr (.inl hb))).2.1 with h1 | h1
    · exact .inr h1
    · exact .inl h1

def setV (V : Loc → Value) (d : Nat) (x : Value) : Loc → Value := fun l => match l with | .slot t => if t = d then x else V (.slot t) | .cell t i => V (.cell t i)
theorem setV_slot (V : Loc → Value) (d : Nat) (x : Value) : setV V d x (.slot d) = x := by simp [setV]
theorem setV_hit {V : Loc → Value} {d : Nat} {x : Value} {l : Loc} (h : hit [.slot d] l = false) : setV V d x l = V l := by
  have := hit_slot d l h
  cases l with
  | slot t => simp only at this; simp [setV, this]
  | cell t i => rfl
theorem setV_val {V : Loc → Value} {a : Act} {d n : Nat} {x : Value} (hv : ∀ t, V (.slot t) = a.tmps.getD t undef) (hs : a.tmps.size = n) (hd : d < n) (t : Nat) :
    setV V d x (.slot t) = (a.put (some d) x).tmps.getD t undef := by
  rw [put_getD a d t x (by omega)]
  simp only [setV]
  split
  · rfl
  · exact hv t

theorem Rs_length {g : Gh} {V : Loc → Value} {w : World} : ∀ {cs : List AV} {xs : List Value} {o : List Nat}, Rs g V w cs xs o → xs.length = cs.length
  | [], xs, o, h => by simp only [Rs] at h; simp [h.1]
  | c :: cs, xs, o, h => by
    simp only [Rs] at h
    obtain ⟨x, xs', o1, o2, rfl, rfl, _, h2⟩ := h
    simp [Rs_length h2]

def cellAt (w : World) (y : Value) (i : Nat) : Value := match y with | .pointer (some ad) => (w.cell? ⟨ad.block, i, none⟩).getD undef | _ => undef

def noBox : AV → Bool
  | .box .. => false
  | .arr .. => false
  | _ => true

/-- An operation that only computes: its rule. -/
theorem LOp.value {P : Program} {o : Oper} {N : List Ent} {d : Nat} {av : AV} (ho : o.dst = some d) (hcl : clr [.slot d] av = true) (hb : noBox av = true)
    (h : ∀ (g : Gh) (V : Loc → Value) (oN : List Nat) (a : Act) (w : World), Pre g V N [] oN [] a w → ∃ x, (execOp a.eval o).run P w = .ok (.value x) w ∧ R g V w av x []) :
    LOp P o N [] [(d, av)] [.slot d] := by
  refine LOp.core fun g V oN oT a w hd hpre => ?_
  have hT := hpre.esT
  simp only [Es] at hT
  subst hT
  obtain ⟨x, hr, hR⟩ := h g V oN a w hpre
  refine (Yl.val hr).mono ?_
  rintro y w' ⟨rfl, rfl⟩
  have hlt : d < g.n := hd d ho
  refine ⟨g, setV V d y, [], g.le_refl, fun b hb => .inl hb, fun b hb => hpre.imm b (.inl hb), Chg.refl _ _, fun l hl => setV_hit hl, ?_, ?_, List.nodup_nil, by simp⟩
  · intro t; rw [ho]; exact setV_val hpre.val hpre.size hlt t
  · refine ⟨[], [], rfl, ⟨?_, ?_⟩, rfl⟩
    · show R g _ _ av (setV V d y (.slot d)) []
      rw [setV_slot]
      exact R_stab (W := [.slot d]) (fun _ h => h) (fun _ h => h) (fun l hl => setV_hit hl) av y [] hcl (fun _ _ => rfl) hR
    · cases av <;> first | trivial | (simp [noBox] at hb)

/-- An operation that makes memory and takes none: its rule. -/
theorem LOp.fresh {P : Program} {o : Oper} {N : List Ent} {d : Nat} {av : AV} (ho : o.dst = some d) (hcl : clr [.slot d] av = true)
    (h : ∀ (g : Gh) (V : Loc → Value) (oN : List Nat) (a : Act) (w : World), Pre g V N [] oN [] a w →
      Yl P o a w fun x w' => Chg [] w w' ∧ ∃ (g' : Gh) (oG : List Nat), g.le g' ∧ (∀ b, g'.Imm b → g.Imm b ∨ (w.heap.size ≤ b ∧ b < w'.heap.size)) ∧ R g' V w' av x oG ∧ oG.Nodup ∧
        ∀ b ∈ oG, w.heap.size ≤ b ∧ b < w'.heap.size ∧ ¬ g'.Imm b) :
    LOp P o N [] [(d, av)] [.slot d] := by
  refine LOp.core fun g V oN oT a w hd hpre => ?_
  have hT := hpre.esT
  simp only [Es] at hT
  subst hT
  refine (h g V oN a w hpre).mono ?_
  rintro y w' ⟨hchg, g', oG, hle, hnew, hR, hnd, hfr⟩
  have hlt : d < g.n := hd d ho
  let V1 : Loc → Value := fun l => match l with
    | .slot t => if t = d then y else V (.slot t)
    | .cell t i => if t = d then cellAt w' y i else V (.cell t i)
  have hV1 : ∀ l, hit [.slot d] l = false → V1 l = V l := by
    intro l hl
    have := hit_slot d l hl
    cases l with
    | slot t => simp only at this; simp [V1, this]
    | cell t i => simp only at this; simp [V1, this]
  refine ⟨g', V1, oG, hle, fun b hb => (hnew b hb).imp id fun h => .inr h.1, fun b hb => ?_, hchg, hV1, ?_, ?_, hnd, ?_⟩
  · rcases hnew b hb with h1 | h1
    · exact Nat.lt_of_lt_of_le (hpre.imm b (.inl h1)) hchg.size
    · exact h1.2
  · intro t
    rw [ho, put_getD a d t y (by rw [hpre.size]; exact hlt)]
    simp only [V1]
    split
    · rfl
    · exact hpre.val t
  · refine ⟨oG, [], by simp, ⟨?_, ?_⟩, rfl⟩
    · show R g' _ _ av (V1 (.slot d)) oG
      rw [show V1 (.slot d) = y by simp [V1]]
      exact R_stab (W := [.slot d]) (fun _ h => h) (fun _ h => h) hV1 av y oG hcl (fun _ _ => rfl) hR
    · cases av <;> try trivial
      case box T cs =>
        intro b hb i hi
        have hy : V1 (.slot d) = y := by simp [V1]
        dsimp only at hb ⊢
        rw [hy] at hb
        simp only [R] at hR
        obtain ⟨b', xs, os, hx, _, hh, hrs⟩ := hR
        rw [hb] at hx; cases hx
        have hl : xs.length = cs.length := Rs_length hrs
        rw [cell_of_row w' b i _ T (0, 0) hh]
        simp only [V1, if_true, hb, cellAt]
        rw [cell_of_row w' b i _ T (0, 0) hh]
        have : i < xs.length := by omega
        simp [this]
  · intro b hb
    obtain ⟨h1, h2, h3⟩ := hfr b hb
    refine ⟨.inr h1, h2, ?_⟩
    rintro (hi | hi)
    · exact h3 hi
    · rw [hle.Im] at hi; have := hpre.imm b (.inr hi); omega

def look (N : List Ent) (t : Nat) : AV := match N with
  | [] => .any
  | (s, av) :: r => if Nat.beq s t then av else look r t
def locv (N : List Ent) : Loc → AV
  | .slot t => look N t
  | .cell t i => match look N t with | .box _ cs => cs.getD i .any | _ => .any
def opv (N : List Ent) : Operand → AV
  | .const v => .v v
  | .tmp t => look N t
  | .func f => .v (.func (.func f) #[] #[])
  | .global g => .v (.pointer (some ⟨g, 0, none⟩))
def deref (N : List Ent) : AV → AV
  | .same l => locv N l
  | av => av
def rd (N : List Ent) (x : Operand) : AV := deref N (opv N x)

theorem look_mem {N : List Ent} {t : Nat} : look N t = .any ∨ (t, look N t) ∈ N := by
  induction N with
  | nil => exact .inl rfl
  | cons e r ih =>
    obtain ⟨s, av⟩ := e
    simp only [look]
    split
    · rename_i h; have := Nat.eq_of_beq_eq_true h; subst this; exact .inr (by simp)
    · exact ih.imp id fun h => by simp [h]

section
variable {g : Gh} {V : Loc → Value} {w : World} {N : List Ent} {o : List Nat} {a : Act}

theorem look_ER (h : Es g V w N o) (t : Nat) : ∃ o', (∀ b ∈ o', b ∈ o) ∧ ER g V w (t, look N t) o' := by
  rcases look_mem (N := N) (t := t) with h1 | h1
  · rw [h1]; exact ⟨[], by simp, by simp [R], trivial⟩
  · exact Es_mem h h1
theorem opv_R (hv : ∀ t, V (.slot t) = a.tmps.getD t undef) (h : Es g V w N o) (x : Operand) : ∃ o', (∀ b ∈ o', b ∈ o) ∧ R g V w (opv N x) (a.eval x) o' := by
  cases x with
  | const v => exact ⟨[], by simp, by simp [opv, R, Act.eval]⟩
  | func f => exact ⟨[], by simp, by simp [opv, R, Act.eval]⟩
  | global f => exact ⟨[], by simp, by simp [opv, R, Act.eval]⟩
  | tmp t =>
    obtain ⟨o', hs, hr, _⟩ := look_ER h t
    exact ⟨o', hs, by simp only [Act.eval, ← hv]; exact hr⟩

theorem Rs_get : ∀ {cs : List AV} {xs : List Value} {o : List Nat} (i : Nat), Rs g V w cs xs o → i < cs.length → ∃ o', (∀ b ∈ o', b ∈ o) ∧ R g V w (cs.getD i .any) (xs.getD i undef) o'
  | [], _, _, i, _, hi => by simp at hi
  | c :: cs, xs, o, i, h, hi => by
    simp only [Rs] at h
    obtain ⟨x, xs', o1, o2, rfl, rfl, h1, h2⟩ := h
    cases i with
    | zero => exact ⟨o1, fun b hb => by simp [hb], by simpa using h1⟩
    | succ i =>
      obtain ⟨o', hs, hr⟩ := Rs_get i h2 (by simpa using hi)
      exact ⟨o', fun b hb => by simp [hs b hb], by simpa using hr⟩

theorem locv_R (h : Es g V w N o) (l : Loc) : ∃ o', (∀ b ∈ o', b ∈ o) ∧ R g V w (locv N l) (V l) o' := by
  cases l with
  | slot t => obtain ⟨o', hs, hr, _⟩ := look_ER h t; exact ⟨o', hs, hr⟩
  | cell t i =>
    obtain ⟨o', hs, hr, ht⟩ := look_ER h t
    simp only [locv]
    dsimp only at hr ht
    cases hl : look N t with
    | box T cs =>
      rw [hl] at hr ht
      simp only [R] at hr
      obtain ⟨b, xs, os, hx, rfl, hh, hrs⟩ := hr
      by_cases hi : i < cs.length
      · obtain ⟨o2, hs2, h2⟩ := Rs_get i hrs hi
        have hc := ht b hx i hi
        rw [cell_of_row w b i _ T (0, 0) hh] at hc
        have hlen := Rs_length hrs
        have : i < xs.length := by omega
        simp only [List.getElem?_toArray, List.getElem?_eq_getElem this, Option.some.injEq] at hc
        refine ⟨o2, fun b' hb' => hs b' (by simp [hs2 b' hb']), ?_⟩
        have e : V (.cell t i) = xs.getD i undef := by rw [← hc]; simp [this]
        show R g V w (cs.getD i .any) (V (.cell t i)) o2
        rw [e]; exact h2
      · refine ⟨[], by simp, ?_⟩
        show R g V w (cs.getD i .any) (V (.cell t i)) []
        have : cs.getD i .any = .any := by simp [List.getD_eq_getElem?_getD, List.getElem?_eq_none (Nat.le_of_not_lt hi)]
        rw [this]; simp [R]
    | _ => exact ⟨[], by simp, by simp [R]⟩

theorem rd_R (hv : ∀ t, V (.slot t) = a.tmps.getD t undef) (h : Es g V w N o) (x : Operand) : ∃ o', (∀ b ∈ o', b ∈ o) ∧ R g V w (rd N x) (a.eval x) o' := by
  obtain ⟨o', hs, hr⟩ := opv_R hv h x
  unfold rd
  cases hx : opv N x with
  | same l =>
    rw [hx] at hr
    simp only [R] at hr
    simp only [deref]
    rw [hr.1]; exact locv_R h l
  | _ => rw [hx] at hr; exact ⟨o', hs, hr⟩

theorem rd_v {y : Value} (hv : ∀ t, V (.slot t) = a.tmps.getD t undef) (h : Es g V w N o) {x : Operand} (hx : rd N x = .v y) : a.eval x = y := by
  obtain ⟨o', _, hr⟩ := rd_R hv h x
  rw [hx] at hr
  simp only [R] at hr
  exact hr.1
end

/-- What a copy of a slot's value is known as. -/
def dupCell : AV → AV
  | .v x => .v x
  | .fl (.own _) _ _ => .any
  | .fl m z xs => .fl m z xs
  | .fr (.own _) _ _ _ => .any
  | .fr m s z xs => .fr m s z xs
  | .same l => .same l
  | .ptr t i => .ptr t i
  | .eref l k => .eref l k
  | .cut l k => .cut l k
  | .clo f ts => .clo f ts
  | _ => .any
def dupS (t : Nat) : AV → AV
  | .v x => .v x
  | .fl (.own _) _ _ => .same (.slot t)
  | .fl m z xs => .fl m z xs
  | .fr (.own _) _ _ _ => .same (.slot t)
  | .fr m s z xs => .fr m s z xs
  | .agg cs => .agg (cs.map dupCell)
  | .box _ _ => .ptr t 0
  | .arr _ _ => .ptr t 0
  | .same l => .same l
  | .ptr t i => .ptr t i
  | .eref l k => .eref l k
  | .cut l k => .cut l k
  | .clo f ts => .clo f ts
  | _ => .any
def dupOp (N : List Ent) : Operand → AV
  | .tmp t => dupS t (look N t)
  | x => opv N x

section
variable {g : Gh} {V : Loc → Value} {w : World}
theorem dupCell_R {av : AV} {x : Value} {o : List Nat} (h : R g V w av x o) : R g V w (dupCell av) x [] := by
  cases av with
  | v y => simp only [R, dupCell] at *; exact ⟨h.1, trivial⟩
  | fl m z xs =>
    cases m with
    | own T => simp [dupCell, R]
    | ro => simp only [R, dupCell, modeOk] at *; obtain ⟨a, n, c, h1, h2, h3, h4, h5, h6⟩ := h; exact ⟨a, n, c, h1, h2, h3, h4, trivial, h6⟩
    | shr => simp only [R, dupCell, modeOk] at *; obtain ⟨a, n, c, h1, h2, h3, h4, h5, h6⟩ := h; exact ⟨a, n, c, h1, h2, h3, h4, trivial, h6⟩
  | same l => simp only [R, dupCell] at *; exact ⟨h.1, trivial⟩
  | ptr t i => simp only [R, dupCell] at *; obtain ⟨b, h1, h2, _⟩ := h; exact ⟨b, h1, h2, trivial⟩
  | eref l k => simp only [R, dupCell] at *; obtain ⟨a, n, c, h1, h2, _⟩ := h; exact ⟨a, n, c, h1, h2, trivial⟩
  | cut l k => simp only [R, dupCell] at *; obtain ⟨a, n, c, h1, h2, h3, _⟩ := h; exact ⟨a, n, c, h1, h2, h3, trivial⟩
  | any => simp [R, dupCell]
  | agg cs => simp [R, dupCell]
  | tup cs => simp [R, dupCell]
  | box T cs => simp [R, dupCell]
  | arr T vs => simp [R, dupCell]
  | glob gl => simp [R, dupCell]
  | obox p T cs => simp [R, dupCell]
  | clo f ts => simp only [R, dupCell] at *; exact ⟨h.1, trivial⟩
  | fr m s z xs =>
    cases m with
    | own T => simp [dupCell, R]
    | ro => simp only [R, dupCell, modeOk] at *; obtain ⟨vs, a, n, c, h1, h2, h3, h4, ⟨h5, h6⟩, h7⟩ := h; exact ⟨vs, a, n, c, h1, h2, h3, h4, ⟨trivial, h6⟩, h7⟩
    | shr => simp only [R, dupCell, modeOk] at *; obtain ⟨vs, a, n, c, h1, h2, h3, h4, ⟨h5, h6⟩, h7⟩ := h; exact ⟨vs, a, n, c, h1, h2, h3, h4, ⟨trivial, h6⟩, h7⟩
theorem dupCells_R : ∀ {cs : List AV} {xs : List Value} {o : List Nat}, Rs g V w cs xs o → Rs g V w (cs.map dupCell) xs []
  | [], xs, o, h => by simp only [Rs, List.map_nil] at *; exact ⟨h.1, trivial⟩
  | c :: cs, xs, o, h => by
    simp only [Rs, List.map_cons] at *
    obtain ⟨x, xs', o1, o2, rfl, rfl, h1, h2⟩ := h
    exact ⟨x, xs', [], [], rfl, rfl, dupCell_R h1, dupCells_R h2⟩
theorem dupS_R {av : AV} {t : Nat} {o : List Nat} (h : R g V w av (V (.slot t)) o) : R g V w (dupS t av) (V (.slot t)) [] := by
  cases av with
  | v y => simp only [R, dupS] at *; exact ⟨h.1, trivial⟩
  | fl m z xs =>
    cases m with
    | own T => simp [dupS, R]
    | ro => simp only [R, dupS, modeOk] at *; obtain ⟨a, n, c, h1, h2, h3, h4, h5, h6⟩ := h; exact ⟨a, n, c, h1, h2, h3, h4, trivial, h6⟩
    | shr => simp only [R, dupS, modeOk] at *; obtain ⟨a, n, c, h1, h2, h3, h4, h5, h6⟩ := h; exact ⟨a, n, c, h1, h2, h3, h4, trivial, h6⟩
  | same l => simp only [R, dupS] at *; exact ⟨h.1, trivial⟩
  | ptr t i => simp only [R, dupS] at *; obtain ⟨b, h1, h2, _⟩ := h; exact ⟨b, h1, h2, trivial⟩
  | eref l k => simp only [R, dupS] at *; obtain ⟨a, n, c, h1, h2, _⟩ := h; exact ⟨a, n, c, h1, h2, trivial⟩
  | cut l k => simp only [R, dupS] at *; obtain ⟨a, n, c, h1, h2, h3, _⟩ := h; exact ⟨a, n, c, h1, h2, h3, trivial⟩
  | any => simp [R, dupS]
  | agg cs => simp only [R, dupS] at *; obtain ⟨xs, h1, h2⟩ := h; exact ⟨xs, h1, dupCells_R h2⟩
  | tup cs => simp [R, dupS]
  | box T cs => simp only [R, dupS] at *; obtain ⟨b, xs, os, h1, _⟩ := h; exact ⟨b, h1, h1, trivial⟩
  | arr T vs => simp only [R, dupS] at *; obtain ⟨b, h1, _⟩ := h; exact ⟨b, h1, h1, trivial⟩
  | glob gl => simp [R, dupS]
  | obox p T cs => simp [R, dupS]
  | clo f ts => simp only [R, dupS] at *; exact ⟨h.1, trivial⟩
  | fr m s z xs =>
    cases m with
    | own T => simp [dupS, R]
    | ro => simp only [R, dupS, modeOk] at *; obtain ⟨vs, a, n, c, h1, h2, h3, h4, ⟨h5, h6⟩, h7⟩ := h; exact ⟨vs, a, n, c, h1, h2, h3, h4, ⟨trivial, h6⟩, h7⟩
    | shr => simp only [R, dupS, modeOk] at *; obtain ⟨vs, a, n, c, h1, h2, h3, h4, ⟨h5, h6⟩, h7⟩ := h; exact ⟨vs, a, n, c, h1, h2, h3, h4, ⟨trivial, h6⟩, h7⟩
theorem dupOp_R {N : List Ent} {o : List Nat} {a : Act} (hv : ∀ t, V (.slot t) = a.tmps.getD t undef) (h : Es g V w N o) (x : Operand) : R g V w (dupOp N x) (a.eval x) [] := by
  cases x with
  | const v => simp [dupOp, opv, R, Act.eval]
  | func f => simp [dupOp, opv, R, Act.eval]
  | global f => simp [dupOp, opv, R, Act.eval]
  | tmp t =>
    obtain ⟨o', hs, hr, _⟩ := look_ER h t
    simp only [dupOp, Act.eval, ← hv]
    exact dupS_R hr
end

section
variable {P : Program} {ty : TypeId} {pos : String} {aft : Array Edge} {gd : Option (Nat × Bool)}

theorem dup_noBox (N : List Ent) (x : Operand) : noBox (dupOp N x) = true := by
  cases x with
  | tmp t => simp only [dupOp]; cases look N t <;> try rfl
             case fl m z xs => cases m <;> rfl
             case fr m s z xs => cases m <;> rfl
  | _ => rfl

theorem op_move (N : List Ent) (d : Nat) (x : Operand) (av : AV) (h : dupOp N x = av) (hcl : clr [.slot d] av = true) :
    LOp P ⟨some d, .move x, ty, pos, aft, gd⟩ N [] [(d, av)] [.slot d] := by
  subst h
  exact LOp.value rfl hcl (dup_noBox N x) fun g V oN a w hp => ⟨a.eval x, by simp [execOp, pure], dupOp_R hp.val hp.esN x⟩
theorem op_assign (N : List Ent) (d : Nat) (x : Operand) (av : AV) (h : dupOp N x = av) (hcl : clr [.slot d] av = true) :
    LOp P ⟨some d, .assign x, ty, pos, aft, gd⟩ N [] [(d, av)] [.slot d] := by
  subst h
  exact LOp.value rfl hcl (dup_noBox N x) fun g V oN a w hp => ⟨a.eval x, by simp [execOp, pure], dupOp_R hp.val hp.esN x⟩

/-- What is taken besides is dropped. -/
theorem LOp.drop {o : Oper} {N T G : List Ent} {W : List Loc} (D : List Ent) (h : LOp P o N T G W) : LOp P o N (D ++ T) G W := by
  intro g F a w K Q hd hs hc hk
  refine h g F a w K Q hd ?_ hc hk
  obtain ⟨V, ow, hst, hes⟩ := hs
  have : Sat g (N ++ ((D ++ T) ++ F)) a w := ⟨V, ow, hst, hes⟩
  refine this.sub ⟨D, ?_⟩
  rw [← List.append_assoc, ← List.append_assoc, ← List.append_assoc]
  exact (List.perm_append_comm.append_right T).append_right F |>.trans (by simp)
end
end Go.Abs
