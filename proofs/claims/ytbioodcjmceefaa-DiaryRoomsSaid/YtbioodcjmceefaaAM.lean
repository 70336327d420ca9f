/-
  Rows whose cells are rows in their turn, not written any more.
-/
import Derived.Test.YtbioodcjmceefaaAL
namespace Go.Abs

theorem RIs_vals {g : Gh} {w : World} {s : Bool} : ∀ {vs xs : List Value}, RIs g w s (vs.map IC.v) xs ↔ xs = vs
  | [], xs => by simp [RIs]
  | v :: vs, xs => by
    simp only [List.map_cons, RIs, RI]
    constructor
    · rintro ⟨x, xs', rfl, rfl, h⟩; rw [RIs_vals.1 h]
    · rintro rfl; exact ⟨v, vs, rfl, rfl, RIs_vals.2 rfl⟩
theorem RIs_length {g : Gh} {w : World} {s : Bool} : ∀ {cs : List IC} {xs : List Value}, RIs g w s cs xs → xs.length = cs.length
  | [], xs, h => by simp only [RIs] at h; simp [h]
  | c :: cs, xs, h => by
    simp only [RIs] at h
    obtain ⟨x, xs', rfl, _, h⟩ := h
    simp [RIs_length h]
theorem RIs_append {g : Gh} {w : World} {s : Bool} : ∀ {cs ds : List IC} {xs ys : List Value}, RIs g w s cs xs → RIs g w s ds ys → RIs g w s (cs ++ ds) (xs ++ ys)
  | [], ds, xs, ys, h, h2 => by simp only [RIs] at h; subst h; exact h2
  | c :: cs, ds, xs, ys, h, h2 => by
    simp only [RIs] at h
    obtain ⟨x, xs', rfl, h1, h⟩ := h
    simp only [List.cons_append, RIs]
    exact ⟨x, _, rfl, h1, RIs_append h h2⟩
theorem RIs_drop {g : Gh} {w : World} {s : Bool} : ∀ (k : Nat) {cs : List IC} {xs : List Value}, RIs g w s cs xs → RIs g w s (cs.drop k) (xs.drop k)
  | 0, _, _, h => h
  | k + 1, [], xs, h => by simp only [RIs] at h; subst h; simp [RIs]
  | k + 1, c :: cs, xs, h => by
    simp only [RIs] at h
    obtain ⟨x, xs', rfl, _, h⟩ := h
    exact RIs_drop k h
theorem RIs_take {g : Gh} {w : World} {s : Bool} : ∀ (k : Nat) {cs : List IC} {xs : List Value}, RIs g w s cs xs → RIs g w s (cs.take k) (xs.take k)
  | 0, _, _, _ => by simp [RIs]
  | k + 1, [], xs, h => by simp only [RIs] at h; subst h; simp [RIs]
  | k + 1, c :: cs, xs, h => by
    simp only [RIs] at h
    obtain ⟨x, xs', rfl, h1, h⟩ := h
    simp only [List.take_succ_cons, RIs]
    exact ⟨x, _, rfl, h1, RIs_take k h⟩
theorem RIs_get {g : Gh} {w : World} {s : Bool} : ∀ {cs : List IC} {xs : List Value} {k : Nat} {c : IC}, RIs g w s cs xs → cs[k]? = some c → ∃ x, xs[k]? = some x ∧ RI g w s c x
  | [], _, _, _, _, h => by simp at h
  | c :: cs, xs, 0, c', h, hc => by
    simp only [RIs] at h
    obtain ⟨x, xs', rfl, h1, h⟩ := h
    simp only [List.getElem?_cons_zero, Option.some.injEq] at hc
    subst hc
    exact ⟨x, rfl, h1⟩
  | c :: cs, xs, k + 1, c', h, hc => by
    simp only [RIs] at h
    obtain ⟨x, xs', rfl, h1, h⟩ := h
    obtain ⟨y, hy, hr⟩ := RIs_get h (by simpa using hc)
    exact ⟨y, by simpa using hy, hr⟩
theorem RIs_weak {g : Gh} {w : World} {s s' : Bool} (h : s = true → s' = true) {cs : List IC} {xs : List Value} (hr : RIs g w s cs xs) : RIs g w s' cs xs :=
  RIs_stab (fun b hb => by
    cases s with
    | true => rw [h rfl]; exact hb
    | false => cases s' with
      | true => exact .inl hb
      | false => exact hb) (fun _ _ => rfl) cs xs hr

/-- A mode of what is not own, after whether it is shared. -/
def mdS : Bool → Md
  | true => .shr
  | false => .ro

/-- What a cell that is read out of a row is known as. -/
inductive IA (s : Bool) : IC → AV → Prop
  | v (x : Value) : IA s (.v x) (.v x)
  | fl (z : Nat) (xs : List Value) {cs : List IC} (h : cs = xs.map IC.v) : IA s (.row z cs) (.fl (mdS s) z xs)
  | fr (z : Nat) (cs : List IC) : IA s (.row z cs) (.fr (mdS s) s z cs)
inductive IAs (s : Bool) : List IC → List AV → Prop
  | nil : IAs s [] []
  | cons {c : IC} {av : AV} {cs : List IC} {avs : List AV} (h : IA s c av) (hs : IAs s cs avs) : IAs s (c :: cs) (av :: avs)
theorem modeOk_mdS {g : Gh} {w : World} {s : Bool} {z n : Nat} {x : Value} {a : Option Addr} {vs : List Value} (h : vs ≠ [] → ∃ ad, a = some ad ∧ immB g s ad.block) : modeOk g w (mdS s) z x n a vs [] := by
  cases s
  · exact ⟨rfl, h⟩
  · exact ⟨rfl, h⟩
theorem IA_R {g : Gh} {V : Loc → Value} {w : World} {s : Bool} {c : IC} {av : AV} {x : Value} (h : IA s c av) (hr : RI g w s c x) : R g V w av x [] := by
  cases h with
  | v y => simp only [RI] at hr; simp [R, hr]
  | fl z xs h =>
    subst h
    simp only [RI] at hr
    obtain ⟨vs, a, n, c, h1, h2, h3, h4, h5, h6⟩ := hr
    obtain rfl := RIs_vals.1 h6
    simp only [R]
    exact ⟨a, n, c, h1, h2, h3, h4, modeOk_mdS h5⟩
  | fr z cs =>
    simp only [RI] at hr
    obtain ⟨vs, a, n, c, h1, h2, h3, h4, h5, h6⟩ := hr
    simp only [R]
    exact ⟨vs, a, n, c, h1, h2, h3, h4, modeOk_mdS h5, h6⟩
theorem IAs_R {g : Gh} {V : Loc → Value} {w : World} {s : Bool} {cs : List IC} {avs : List AV} (h : IAs s cs avs) : ∀ {xs : List Value}, RIs g w s cs xs → Rs g V w avs xs [] := by
  induction h with
  | nil => intro xs h; simp only [RIs] at h; simp [Rs, h]
  | cons h hs ih =>
    intro xs hr
    simp only [RIs] at hr
    obtain ⟨x, xs', rfl, h1, h2⟩ := hr
    simp only [Rs]
    exact ⟨x, xs', [], [], rfl, rfl, IA_R h h1, ih h2⟩
theorem IA_clr {s : Bool} {c : IC} {av : AV} (h : IA s c av) (W : List Loc) : clr W av = true ∧ noBox av = true := by
  cases h <;> exact ⟨rfl, rfl⟩
theorem IAs_clr {s : Bool} {cs : List IC} {avs : List AV} (h : IAs s cs avs) (W : List Loc) : clrs W avs = true := by
  induction h with
  | nil => rfl
  | cons h _ ih => simp [clrs, ih, (IA_clr h W).1]

/-- What is known of a value that becomes a cell of a row. -/
inductive AI (s : Bool) : AV → IC → Prop
  | v (x : Value) : AI s (.v x) (.v x)
  | ro (z : Nat) (xs : List Value) {cs : List IC} (h : cs = xs.map IC.v) : AI s (.fl .ro z xs) (.row z cs)
  | shr (z : Nat) (xs : List Value) {cs : List IC} (hs : s = true) (h : cs = xs.map IC.v) : AI s (.fl .shr z xs) (.row z cs)
  | fro (z : Nat) (cs : List IC) : AI s (.fr .ro false z cs) (.row z cs)
  | fsh (m : Md) (s' : Bool) (z : Nat) (cs : List IC) (hm : notOwn m = true) (hs : s = true) : AI s (.fr m s' z cs) (.row z cs)
  | nil (z : Nat) : AI s (.v (.slice none 0 0)) (.row z [])
inductive AIs (s : Bool) : List AV → List IC → Prop
  | nil : AIs s [] []
  | cons {c : IC} {av : AV} {cs : List IC} {avs : List AV} (h : AI s av c) (hs : AIs s avs cs) : AIs s (av :: avs) (c :: cs)
theorem AI_R {g : Gh} {V : Loc → Value} {w : World} {s : Bool} {c : IC} {av : AV} {x : Value} {o : List Nat} (h : AI s av c) (hr : R g V w av x o) : RI g w s c x := by
  cases h with
  | v y => simp only [R] at hr; simp [RI, hr.1]
  | ro z xs h =>
    subst h
    simp only [R, modeOk] at hr
    obtain ⟨a, n, c, h1, h2, h3, h4, _, h5⟩ := hr
    simp only [RI]
    exact ⟨xs, a, n, c, h1, h2, h3, h4, fun hne => let ⟨ad, e, hi⟩ := h5 hne; ⟨ad, e, by cases s <;> first | exact hi | exact .inl hi⟩, RIs_vals.2 rfl⟩
  | shr z xs hs h =>
    subst h; subst hs
    simp only [R, modeOk] at hr
    obtain ⟨a, n, c, h1, h2, h3, h4, _, h5⟩ := hr
    simp only [RI]
    exact ⟨xs, a, n, c, h1, h2, h3, h4, h5, RIs_vals.2 rfl⟩
  | fro z cs =>
    simp only [R, modeOk] at hr
    obtain ⟨vs, a, n, c, h1, h2, h3, h4, ⟨_, h5⟩, h6⟩ := hr
    simp only [RI]
    exact ⟨vs, a, n, c, h1, h2, h3, h4, fun hne => let ⟨ad, e, hi⟩ := h5 hne; ⟨ad, e, by cases s <;> first | exact hi | exact .inl hi⟩, RIs_weak (by simp) h6⟩
  | fsh m s' z cs hm hs =>
    subst hs
    simp only [R] at hr
    obtain ⟨vs, a, n, c, h1, h2, h3, h4, h5, h6⟩ := hr
    simp only [RI]
    refine ⟨vs, a, n, c, h1, h2, h3, h4, fun hne => ?_, RIs_weak (fun _ => rfl) h6⟩
    cases m with
    | own T => cases hm
    | ro => obtain ⟨ad, e, hi⟩ := h5.2 hne; exact ⟨ad, e, .inl hi⟩
    | shr => exact h5.2 hne
  | nil z =>
    simp only [R] at hr
    simp only [RI]
    exact ⟨[], none, 0, 0, ⟨hr.1, Nat.le_refl _⟩, by simp, by simp, fun h => absurd rfl h, fun h => absurd rfl h, by simp [RIs]⟩
theorem AIs_R {g : Gh} {V : Loc → Value} {w : World} {s : Bool} {cs : List IC} {avs : List AV} (h : AIs s avs cs) : ∀ {xs : List Value} {o : List Nat}, Rs g V w avs xs o → RIs g w s cs xs := by
  induction h with
  | nil => intro xs o h; simp only [Rs] at h; simp [RIs, h.1]
  | cons h hs ih =>
    intro xs o hr
    simp only [Rs] at hr
    obtain ⟨x, xs', o1, o2, rfl, rfl, h1, h2⟩ := hr
    simp only [RIs]
    exact ⟨x, xs', rfl, AI_R h h1, ih h2⟩

/-- A row of rows is a row of cells. -/
theorem fr_fl {g : Gh} {V : Loc → Value} {w : World} {m : Md} {s : Bool} {z : Nat} {cs : List IC} {x : Value} {o : List Nat} (h : R g V w (.fr m s z cs) x o) :
    ∃ vs, R g V w (.fl m z vs) x o ∧ RIs g w s cs vs := by
  simp only [R] at *
  obtain ⟨vs, a, n, c, h1, h2, h3, h4, h5, h6⟩ := h
  exact ⟨vs, ⟨a, n, c, h1, h2, h3, h4, h5⟩, h6⟩
theorem fl_fr {g : Gh} {V : Loc → Value} {w : World} {m : Md} {s : Bool} {z : Nat} {cs : List IC} {vs : List Value} {x : Value} {o : List Nat} (h : R g V w (.fl m z vs) x o) (h2 : RIs g w s cs vs) :
    R g V w (.fr m s z cs) x o := by
  simp only [R] at *
  obtain ⟨a, n, c, h1, h2', h3, h4, h5⟩ := h
  exact ⟨vs, a, n, c, h1, h2', h3, h4, h5, h2⟩
theorem sub_nil_fr (E : TypeId) (s : Bool) (z : Nat) : Sub (.v (.slice none 0 0)) (.fr (.own E) s z []) := fun g V w x o h =>
  fl_fr (vs := []) (sub_nil E z g V w x o h) (by simp [RIs])
theorem sub_nil_frs (s : Bool) (z : Nat) : Sub (.v (.slice none 0 0)) (.fr .shr s z []) := fun g V w x o h =>
  fl_fr (vs := []) (sub_nil_shr z g V w x o h) (by simp [RIs])
theorem sub_fr (m : Md) (z : Nat) (cs : List IC) : Sub (.fr m false z cs) (.fr m true z cs) := fun g V w x o h => by
  obtain ⟨vs, h1, h2⟩ := fr_fl h
  exact fl_fr h1 (RIs_weak (by simp) h2)

section
variable {P : Program} {ty : TypeId} {pos : String} {aft : Array Edge} {gd : Option (Nat × Bool)}

theorem op_len_fr (N : List Ent) (d : Nat) {t t' e : TypeId} {x : Operand} {m : Md} {s : Bool} {z : Nat} {cs : List IC} (n : Nat) (hT : P.underlying t = some (.slice e)) (hx : rd N x = .fr m s z cs) (hz : 0 < z) (hn : cs.length = n * z) :
    LOp P ⟨some d, .call ⟨.builtin .len, #[x], #[t]⟩, t', pos, aft, gd⟩ N [] [(d, .v (.int .i64 (n : Int)))] [.slot d] := by
  refine LOp.v rfl fun g V oN ac w hp => ?_
  obtain ⟨o', _, hr⟩ := rd_R hp.val hp.esN x
  rw [hx] at hr
  obtain ⟨vs, hr, hi⟩ := fr_fl hr
  have hvl := RIs_length hi
  simp only [R] at hr
  obtain ⟨a, n', c, ⟨he, _⟩, hl, _⟩ := hr
  have : n' = n := Nat.eq_of_mul_eq_mul_right hz (by omega)
  subst this
  simp [execOp, resolve, invoke, builtin, Builtin.len_, he, run_underlying hT, goInt]

/-- The address of an element. -/
theorem op_ix_fr (N : List Ent) (d : Nat) {T e : TypeId} (x : Nat) (y : Operand) {kd : IntKind} {m : Md} {s : Bool} {cs : List IC} (nn : Int) (i z : Nat) (l : Loc) (hT : P.underlying T = some (.slice e)) (hz : (P.info? e).map (·.size) = some z) (h0 : 0 < z)
    (hx : rd N (.tmp x) = .fr m s z cs) (hl : locOf N (.tmp x) = l) (hy : rd N y = .v (.int kd nn)) (hnn : nn = (i : Int)) (hi : i * z + z ≤ cs.length) (hd : hit [.slot d] l = false) :
    LOp P ⟨some d, .indexAddr T (.tmp x) y, ty, pos, aft, gd⟩ N [] [(d, .eref l (i * z))] [.slot d] := by
  subst hnn
  refine LOp.value rfl (by simp [clr, hd]) rfl fun g V oN a w hp => ?_
  obtain ⟨o', _, hR⟩ := rd_R hp.val hp.esN (.tmp x)
  rw [hx] at hR
  obtain ⟨xs, hR, hic⟩ := fr_fl hR
  rw [← RIs_length hic] at hi
  simp only [R] at hR
  obtain ⟨ad, n, c, ⟨he, _⟩, hlen, _, hrd, _⟩ := hR
  have hne : xs ≠ [] := fun e => by subst e; simp at hi; omega
  obtain ⟨A, rfl, _⟩ := hrd hne
  have hin : i < n := by
    rw [hlen] at hi
    have : (i + 1) * z ≤ n * z := by rw [Nat.add_mul]; omega
    exact Nat.lt_of_succ_le (Nat.le_of_mul_le_mul_right this h0)
  have h3 := rd_v hp.val hp.esN hy
  have hV : V l = .slice (some A) n c := by
    rw [← hl, ← he]
    simp only [locOf]
    obtain ⟨o2, _, h2⟩ := opv_R hp.val hp.esN (.tmp x)
    simp only [opv] at h2
    cases hlk : look N x with
    | same l' => rw [hlk] at h2; simp only [R] at h2; exact h2.1.symm
    | _ => simp only [hp.val, Act.eval]
  refine ⟨.pointer (some (A.add (i * z))), ?_, by simp only [R]; exact ⟨A, n, c, hV, rfl, trivial⟩⟩
  simp [execOp, Instr.indexAt, Sem.run_bind, run_underlying hT, he, h3, asIntOf, run_sizeOf' hz, hin]

/-- A cell of an element is read. -/
theorem op_load_fr (N : List Ent) (d : Nat) {T : TypeId} {td : TypeDesc} (x : Operand) {m : Md} {s : Bool} {z : Nat} {cs : List IC} (l : Loc) (k : Nat) (ic : IC) (av : AV) (hT : P.underlying T = some td) (ha : isAggD td = false)
    (hx : dupOp N x = .eref l k) (hl : locv N l = .fr m s z cs) (hv : cs[k]? = some ic) (hia : IA s ic av) :
    LOp P ⟨some d, .load T x, ty, pos, aft, gd⟩ N [] [(d, av)] [.slot d] := by
  refine LOp.value rfl (IA_clr hia _).1 (IA_clr hia []).2 fun g V oN a w hp => ?_
  have hR := dupOp_R hp.val hp.esN x
  rw [hx] at hR
  simp only [R] at hR
  obtain ⟨ad, n, c, h1, h2, _⟩ := hR
  obtain ⟨o', _, h3⟩ := locv_R hp.esN l
  rw [hl] at h3
  obtain ⟨vs, h3, hic⟩ := fr_fl h3
  obtain ⟨v, hv', hri⟩ := RIs_get hic hv
  simp only [R] at h3
  obtain ⟨A, n', c', ⟨h4, _⟩, _, _, hrd, _⟩ := h3
  rw [h1] at h4; cases h4
  obtain ⟨ad', e, hc⟩ := hrd (fun e => by subst e; simp at hv')
  cases e
  refine ⟨v, ?_, IA_R hia hri⟩
  simp [execOp, Instr.loadAt, h2, Instr.sureAddr, run_load1 hT ha (hc k v hv')]

/-- An element, or a part of it that is a struct, is read. -/
theorem op_loadA_fr (N : List Ent) (d : Nat) {T : TypeId} {td : TypeDesc} (x : Operand) {m : Md} {s : Bool} {z : Nat} {cs : List IC} (l : Loc) (k sz : Nat) (ics : List IC) (avs : List AV) (hT : P.underlying T = some td) (ha : isAggD td = true) (hs : (P.info? T).map (·.size) = some sz)
    (hx : dupOp N x = .eref l k) (hl : locv N l = .fr m s z cs) (hv : (cs.drop k).take sz = ics) (hia : IAs s ics avs) (hlen : ics.length = sz) (h0 : 0 < sz) :
    LOp P ⟨some d, .load T x, ty, pos, aft, gd⟩ N [] [(d, .agg avs)] [.slot d] := by
  refine LOp.value rfl (by simp only [clr]; exact IAs_clr hia _) rfl fun g V oN a w hp => ?_
  have hR := dupOp_R hp.val hp.esN x
  rw [hx] at hR
  simp only [R] at hR
  obtain ⟨ad, n, c, h1, h2, _⟩ := hR
  obtain ⟨o', _, h3⟩ := locv_R hp.esN l
  rw [hl] at h3
  obtain ⟨xs, h3, hic⟩ := fr_fl h3
  have hvs := RIs_take sz (RIs_drop k hic)
  rw [hv] at hvs
  have hvl := RIs_length hvs
  simp only [R] at h3
  obtain ⟨A, n', c', ⟨h4, _⟩, _, _, hrd, _⟩ := h3
  rw [h1] at h4; cases h4
  obtain ⟨ad', e, hc⟩ := hrd (fun e => by subst e; simp at hvl; omega)
  cases e
  generalize hvse : (xs.drop k).take sz = vs at *
  refine ⟨.agg vs.toArray, ?_, by simp only [R]; exact ⟨vs, rfl, IAs_R hia hvs⟩⟩
  have hload := run_loadA (P := P) (w := w) (a := ad.add k) (xs := vs) hT ha hs (by omega) (fun j v hj => by
    rw [add_add]
    refine hc (k + j) v ?_
    rw [← hvse] at hj
    simp only [List.getElem?_take, List.getElem?_drop] at hj
    split at hj
    · exact hj
    · cases hj)
  simp [execOp, Instr.loadAt, h2, Instr.sureAddr, hload]

/-- A row of one element. -/
theorem op_build1_fr (N : List Ent) (d : Nat) {T e : TypeId} (x : Operand) (z : Nat) (zv : Value) (s : Bool) (av : AV) (ics : List IC) (hT : P.underlying T = some (.slice e)) (hz : (P.info? e).map (·.size) = some z)
    (hzv : (P.info? e).bind (·.zero) = some zv) (h : dupOp N x = av) (hok : cellsOk N av = true) (hai : AIs s (vcells av) ics) (hl : ics.length = z) (h0 : 0 < z) (hsm : z ≤ 16777216) :
    LOp P ⟨some d, .buildSlice T 1 #[(0, x)], ty, pos, aft, gd⟩ N [] [(d, .fr (.own e) s z ics)] [.slot d] := by
  refine LOp.fresh rfl rfl fun g V oN a w hp => ?_
  have hR := dupOp_R hp.val hp.esN x
  rw [h] at hR
  obtain ⟨h1, hone⟩ := vcells_R hp.esN hok hR
  have hri := AIs_R hai h1
  have hcl : (a.eval x).cells.toList.length = z := by rw [RIs_length hri, hl]
  have hcs : (a.eval x).cells.size = z := by simpa using hcl
  have hfill : Instr.fill (fun i => some (i * z, z)) ((Array.range (1 * z)).map (zv.cells[· % zv.cells.size]!)) [(0, a.eval x)] = some (a.eval x).cells := by
    have hno : ¬ ((a.eval x).cells.size ≠ z ∨ 0 * z + (a.eval x).cells.size > ((Array.range (1 * z)).map (zv.cells[· % zv.cells.size]!)).size) := by
      rw [Array.size_map, Array.size_range, hcs]; omega
    unfold Instr.fill
    simp only []
    rw [if_neg (by rw [Bool.or_eq_true, decide_eq_true_iff, decide_eq_true_iff]; exact hno)]
    unfold Instr.fill
    congr 1
    have := fold_splice (a.eval x).cells.toList (0 * z) ((Array.range (1 * z)).map (zv.cells[· % zv.cells.size]!)) 0 (by simp [hcs])
    apply Array.toList_inj.1
    rw [← Array.foldl_toList, Array.toList_zipIdx]
    refine Eq.trans ?_ (this.trans ?_)
    · rfl
    · simp only [Nat.zero_mul, Nat.zero_add, List.take_zero, List.nil_append]
      rw [List.drop_eq_nil_of_le (by simp [hcs]), List.append_nil]
  have hr : (execOp a.eval ⟨some d, .buildSlice T 1 #[(0, x)], ty, pos, aft, gd⟩).run P w = .ok (.value (.slice (some ⟨w.heap.size, 0, none⟩) 1 1)) (w.alloc (.cells (a.eval x).cells e)) := by
    have hbig : ¬ 1 * z > 2 ^ 24 := by omega
    have hnz : ¬ 1 * z = 0 := by omega
    simp only [execOp, Instr.buildSlice, Sem.run_bind, run_underlying hT, Result.andThen_ok, run_sizeOf' hz, hbig, if_false, hnz, run_zero hzv]
    have e1 : ((#[(0, x)] : Array (Nat × Operand)).map fun (i, x) => (i, a.eval x)).toList = [(0, a.eval x)] := by simp
    simp only [Sem.run_pure, Result.andThen_ok]
    rw [e1, hfill]
    simp [newRow, newObj]
    rfl
  have hown := World.ownsRow_lit (base := 0) (e := e) (size := z) w (a.eval x).cells 1 (Nat.zero_le _) (by simp only [maxLen]; omega) (by omega)
  refine (Yl.val hr).mono ?_
  rintro v w2 ⟨rfl, rfl⟩
  refine ⟨Chg.alloc _ _ _, g, [w.heap.size], g.le_refl, fun b hb => .inl hb, fl_fr (own_fl hown hone) (RIs_stab (fun b h => h) (fun b hb => heap_alloc_old w _ b (hp.imm b hb)) ics _ hri), by simp, ?_⟩
  intro b hb
  simp at hb; subst hb
  exact ⟨Nat.le_refl _, by simp, fun hi => Nat.lt_irrefl _ (hp.imm _ (.inl hi))⟩

/-- A row of one element, that a slot held; its rows are not written any more. -/
theorem op_build1_fr_take (N : List Ent) (d t : Nat) {T e : TypeId} (z : Nat) (zv : Value) (s : Bool) (av : AV) (ics : List IC) (hT : P.underlying T = some (.slice e)) (hz : (P.info? e).map (·.size) = some z)
    (hzv : (P.info? e).bind (·.zero) = some zv) (hok : cellsOk [] (frz av) = true) (hai : AIs s (vcells (frz av)) ics) (hl : ics.length = z) (h0 : 0 < z) (hsm : z ≤ 16777216) :
    LOp P ⟨some d, .buildSlice T 1 #[(0, .tmp t)], ty, pos, aft, gd⟩ N [(t, av)] [(d, .fr (.own e) s z ics)] [.slot d] := by
  refine LOp.core fun g V oN oT a w hd hp => ?_
  have hT' := hp.esT
  simp only [Es] at hT'
  obtain ⟨ot, o2', rfl, ⟨hR0, _⟩, rfl⟩ := hT'
  have he : a.eval (.tmp t) = V (.slot t) := by rw [hp.val]; rfl
  obtain ⟨o', o2, hperm, hfr⟩ := R_frz av _ ot hR0
  let g' : Gh := { g with Imm := fun b => g.Imm b ∨ b ∈ o2 }
  have ho2 : ∀ b ∈ o2, b ∈ ot := fun b hb => hperm.mem_iff.2 (by simp [hb])
  have hR := hfr g' (fun b hb => .inl hb) (fun b hb => hb) (fun b hb => .inr hb)
  rw [← he] at hR
  obtain ⟨h1, hone⟩ := vcells_R (NT := []) (oNT := []) (g := g') (V := V) (w := w) rfl hok hR
  have hri := AIs_R hai h1
  have hcl : (a.eval (.tmp t)).cells.toList.length = z := by rw [RIs_length hri, hl]
  have hcs : (a.eval (.tmp t)).cells.size = z := by simpa using hcl
  have hfill : Instr.fill (fun i => some (i * z, z)) ((Array.range (1 * z)).map (zv.cells[· % zv.cells.size]!)) [(0, a.eval (.tmp t))] = some (a.eval (.tmp t)).cells := by
    have hno : ¬ ((a.eval (.tmp t)).cells.size ≠ z ∨ 0 * z + (a.eval (.tmp t)).cells.size > ((Array.range (1 * z)).map (zv.cells[· % zv.cells.size]!)).size) := by
      rw [Array.size_map, Array.size_range, hcs]; omega
    unfold Instr.fill
    simp only []
    rw [if_neg (by rw [Bool.or_eq_true, decide_eq_true_iff, decide_eq_true_iff]; exact hno)]
    unfold Instr.fill
    congr 1
    have := fold_splice (a.eval (.tmp t)).cells.toList (0 * z) ((Array.range (1 * z)).map (zv.cells[· % zv.cells.size]!)) 0 (by simp [hcs])
    apply Array.toList_inj.1
    rw [← Array.foldl_toList, Array.toList_zipIdx]
    refine Eq.trans ?_ (this.trans ?_)
    · rfl
    · simp only [Nat.zero_mul, Nat.zero_add, List.take_zero, List.nil_append]
      rw [List.drop_eq_nil_of_le (by simp [hcs]), List.append_nil]
  have hr : (execOp a.eval ⟨some d, .buildSlice T 1 #[(0, .tmp t)], ty, pos, aft, gd⟩).run P w = .ok (.value (.slice (some ⟨w.heap.size, 0, none⟩) 1 1)) (w.alloc (.cells (a.eval (.tmp t)).cells e)) := by
    have hbig : ¬ 1 * z > 2 ^ 24 := by omega
    have hnz : ¬ 1 * z = 0 := by omega
    simp only [execOp, Instr.buildSlice, Sem.run_bind, run_underlying hT, Result.andThen_ok, run_sizeOf' hz, hbig, if_false, hnz, run_zero hzv]
    have e1 : ((#[(0, .tmp t)] : Array (Nat × Operand)).map fun (i, x) => (i, a.eval x)).toList = [(0, a.eval (.tmp t))] := by simp
    simp only [Sem.run_pure, Result.andThen_ok]
    rw [e1, hfill]
    simp [newRow, newObj]
    rfl
  have hown := World.ownsRow_lit (base := 0) (e := e) (size := z) w (a.eval (.tmp t)).cells 1 (Nat.zero_le _) (by simp only [maxLen]; omega) (by omega)
  refine (Yl.val hr).mono ?_
  rintro v w2 ⟨rfl, rfl⟩
  have hlt : d < g.n := hd d rfl
  have hot : ∀ b ∈ ot, b < w.heap.size ∧ ¬ g.imm b := fun b hb => hp.own b (by simp [hb])
  have himm' : ∀ b, g'.imm b → b < w.heap.size := by
    rintro b ((hb | hb) | hb)
    · exact hp.imm b (.inl hb)
    · exact (hot b (ho2 b hb)).1
    · exact hp.imm b (.inr hb)
  refine ⟨g', setV V d _, [w.heap.size], ⟨rfl, rfl, rfl, rfl, fun b hb => .inl hb, fun b hb => hb.imp id fun h => hp.own2 b (by simp [ho2 b h])⟩, fun b hb => ?_, fun b hb => ?_, (Chg.alloc _ _ _), fun l hl => setV_hit hl, fun u => setV_val hp.val hp.size hlt u, ?_, by simp, ?_⟩
  · exact hb.imp id fun h => .inl (by simpa using ho2 b h)
  · exact Nat.lt_of_lt_of_le (himm' b (.inl hb)) (Chg.alloc [] w _).size
  · refine ⟨[w.heap.size], [], by simp, ⟨?_, trivial⟩, rfl⟩
    show R g' _ _ _ (setV V d _ (.slot d)) _
    rw [setV_slot]
    exact fl_fr (own_fl hown hone) (RIs_stab (fun b h => h) (fun b hb => heap_alloc_old w _ b (himm' b hb)) ics _ hri)
  · intro b hb
    simp at hb; subst hb
    exact ⟨.inr (Nat.le_refl _), by simp, fun hi => Nat.lt_irrefl _ (himm' _ hi)⟩

/-- Onto nil. -/
theorem op_app_nil_fr {A : Type} (N : List Ent) (d : Nat) {T e t' : TypeId} (x y : Operand) {z by_ : Nat} {my : Md} {s : Bool} {ys zs : List IC} {l m q : List A} (hE : ElemT P T e z by_) (hx : rd N x = .v (.slice none 0 0)) (hy : rd N y = .fr my s z ys) (hm : ys.length = m.length * z)
    (hq : appO by_ l m = some q) (hz : ys = zs) :
    LOp P ⟨some d, .call ⟨.builtin .append, #[x, y], #[T, T]⟩, t', pos, aft, gd⟩ N [] [(d, .fr (.own e) s z zs)] [.slot d] := by
  subst hz
  unfold appO at hq
  split at hq
  case isFalse => cases hq
  rename_i hlim
  obtain ⟨i, zv, hT, hi, hz, hs, hzc, h0, rfl⟩ := hE.ex
  refine LOp.fresh rfl rfl fun g V oN a w hp => ?_
  have h1 := rd_v hp.val hp.esN hx
  obtain ⟨o', _, hr⟩ := rd_R hp.val hp.esN y
  rw [hy] at hr
  obtain ⟨vs, hr, hic⟩ := fr_fl hr
  rw [← RIs_length hic] at hm
  simp only [R] at hr
  obtain ⟨A, m', c, ⟨he, _⟩, hl, hone, hrd, _⟩ := hr
  have : m' = m.length := Nat.eq_of_mul_eq_mul_right h0 (by omega)
  subst this
  obtain ⟨v', w', hrun, hown, hg, hblk⟩ := run_append_fl (P := P) (ty := t') (c := c) hT hi hz hs hzc h0 (World.ownsRow_nil w 0 e z) hl hrd hone (by simp only [maxLen]; omega) (by simpa using Nat.le_trans (Nat.mul_le_mul_right _ (by omega)) hlim.1)
  refine (Yl.val (by simp [execOp, resolve, invoke, builtin, h1, he, hrun] : (execOp a.eval ⟨some d, .call ⟨.builtin .append, #[x, y], #[T, T]⟩, t', pos, aft, gd⟩).run P w = .ok (.value v') w')).mono ?_
  rintro v w2 ⟨rfl, rfl⟩
  have hchg : Chg [] w w2 := (Chg.of_grown hg).mono (by simp [Value.ownBlock])
  simp only [List.nil_append] at hown
  refine ⟨hchg, g, v.ownBlock.toList, g.le_refl, fun b hb => .inl hb, fl_fr (own_fl hown hone) (RIs_stab (fun b h => h) (fun b hb => hchg.block b (hp.imm b hb) (by simp)) _ _ hic), by cases v.ownBlock <;> simp, ?_⟩
  intro b hb'
  have hvb : v.ownBlock = some b := by cases hv : v.ownBlock <;> simp [hv] at hb' ⊢; exact hb'.symm
  have hlt := (hown.lt b hvb).2
  rcases hblk with h | h
  · rw [h] at hvb; cases hvb
  · rw [hvb] at h
    cases h
    exact ⟨Nat.le_refl _, hlt, fun hi => Nat.lt_irrefl _ (hp.imm _ (.inl hi))⟩

/-- Onto the own row of a slot. -/
theorem op_app_fr {A : Type} (N : List Ent) (d t : Nat) {T e t' : TypeId} (x y : Operand) {z by_ : Nat} {my : Md} {s s1 s2 : Bool} {xs ys zs : List IC} {l m q : List A} (hE : ElemT P T e z by_) (hx : dupOp (N ++ [(t, .fr (.own e) s1 z xs)]) x = .same (.slot t)) (hy : rd N y = .fr my s2 z ys)
    (hn : xs.length = l.length * z) (hm : ys.length = m.length * z) (hq : appO by_ l m = some q) (hz : xs ++ ys = zs) (hs1 : s1 = true → s = true) (hs2 : s2 = true → s = true) :
    LOp P ⟨some d, .call ⟨.builtin .append, #[x, y], #[T, T]⟩, t', pos, aft, gd⟩ N [(t, .fr (.own e) s1 z xs)] [(t, .any), (d, .fr (.own e) s z zs)] [.slot d] := by
  subst hz
  unfold appO at hq
  split at hq
  case isFalse => cases hq
  rename_i hlim
  obtain ⟨i, zv, hT, hi, hz, hs, hzc, h0, rfl⟩ := hE.ex
  refine LOp.core fun g V oN oT a w hd hp => ?_
  have hT' := hp.esT
  simp only [Es] at hT'
  obtain ⟨ob, o2, rfl, ⟨hR, _⟩, rfl⟩ := hT'
  have hax := dupOp_R hp.val (Es_append.2 ⟨oN, _, rfl, hp.esN, hp.esT⟩) x
  rw [hx] at hax
  obtain ⟨us, hR, hix⟩ := fr_fl hR
  rw [← RIs_length hix] at hn
  simp only [R] at hax hR
  obtain ⟨a0, n0, c0, ⟨h3, _⟩, hl0, hone0, _, hown, hob⟩ := hR
  obtain ⟨o', _, hr⟩ := rd_R hp.val hp.esN y
  rw [hy] at hr
  obtain ⟨vs, hr, hiy⟩ := fr_fl hr
  rw [← RIs_length hiy] at hm
  simp only [R] at hr
  obtain ⟨A, m', c, ⟨he, _⟩, hl, hone, hrd, _⟩ := hr
  have em : m' = m.length := Nat.eq_of_mul_eq_mul_right h0 (by omega)
  subst em
  have en : n0 = l.length := Nat.eq_of_mul_eq_mul_right h0 (by omega)
  subst en
  obtain ⟨v', w', hrun, hown', hg, hblk⟩ := run_append_fl (P := P) (ty := t') (c := c) hT hi hz hs hzc h0 hown hl hrd hone (by simp only [maxLen]; omega) (by simpa using hlim.1)
  have hrun' : (execOp a.eval ⟨some d, .call ⟨.builtin .append, #[x, y], #[T, T]⟩, t', pos, aft, gd⟩).run P w = .ok (.value v') w' := by
    have h4 : a.eval x = V (.slot t) := hax.1
    simp [execOp, resolve, invoke, builtin, he, h4, hrun]
  refine (Yl.val hrun').mono ?_
  rintro v w2 ⟨rfl, rfl⟩
  have hlt : d < g.n := hd d rfl
  have hchg : Chg ob w w2 := by rw [hob]; exact Chg.of_grown hg
  have himm : ∀ b, g.imm b → w2.heap[b]? = w.heap[b]? := fun b hb => hchg.block b (hp.imm b hb) fun hb' => (hp.own b (by simp [hb'])).2 hb
  refine ⟨g, setV V d v, v.ownBlock.toList, g.le_refl, fun b hb => .inl hb, fun b hb => Nat.lt_of_lt_of_le (hp.imm b (.inl hb)) hchg.size, by simpa using hchg, fun l hl => setV_hit hl, fun u => setV_val hp.val hp.size hlt u, ?_, by cases v.ownBlock <;> simp, ?_⟩
  · refine ⟨[], v.ownBlock.toList, rfl, ⟨by simp [R], trivial⟩, v.ownBlock.toList, [], by simp, ⟨?_, trivial⟩, rfl⟩
    show R g _ _ _ (setV V d v (.slot d)) _
    rw [setV_slot]
    refine fl_fr (own_fl hown' fun u hu => ?_) (RIs_stab (fun b h => h) himm _ _ (RIs_append (RIs_weak hs1 hix) (RIs_weak hs2 hiy)))
    rcases List.mem_append.1 hu with h | h
    · exact hone0 u h
    · exact hone u h
  · intro b hb'
    have hvb : v.ownBlock = some b := by cases hv : v.ownBlock <;> simp [hv] at hb' ⊢; exact hb'.symm
    have hlt2 := (hown'.lt b hvb).2
    rcases hblk with h | h
    · have hin : b ∈ ob := by rw [hob, ← h, hvb]; simp
      exact ⟨.inl (by simp [hin]), hlt2, (hp.own b (by simp [hin])).2⟩
    · rw [hvb] at h
      cases h
      refine ⟨.inr (Nat.le_refl _), hlt2, fun hi => Nat.lt_irrefl _ (hp.imm _ hi)⟩

/-- A piece of a row that is not written. -/
theorem op_slice_fr (N : List Ent) (d : Nat) {T e : TypeId} {x : Operand} {lo hi : Option Operand} {m : Md} {s : Bool} {z : Nat} {cs : List IC} (l h : Nat) (ds : List IC) (hT : P.underlying T = some (.slice e)) (hz : (P.info? e).map (·.size) = some z) (h0 : 0 < z)
    (hx : rd N x = .fr m s z cs) (hm : notOwn m = true)
    (hl : match lo with | some y => ∃ k, rd N y = .v (.int k (l : Int)) | none => l = 0) (hh : match hi with | some y => ∃ k, rd N y = .v (.int k (h : Int)) | none => h * z = cs.length) (h1 : l ≤ h) (h2 : h * z ≤ cs.length) (hds : (cs.drop (l * z)).take ((h - l) * z) = ds) :
    LOp P ⟨some d, .slice T x lo hi none, ty, pos, aft, gd⟩ N [] [(d, .fr m s z ds)] [.slot d] := by
  refine LOp.value rfl rfl rfl fun g V oN a w hp => ?_
  obtain ⟨o', _, hr⟩ := rd_R hp.val hp.esN x
  rw [hx] at hr
  obtain ⟨xs, hr, hic⟩ := fr_fl hr
  rw [← RIs_length hic] at h2 hh
  have hys2 := RIs_take ((h - l) * z) (RIs_drop (l * z) hic)
  rw [hds] at hys2
  obtain ⟨ys, hys⟩ : ∃ ys, (xs.drop (l * z)).take ((h - l) * z) = ys := ⟨_, rfl⟩
  rw [hys] at hys2
  simp only [R] at hr
  obtain ⟨A, n, c, ⟨he, hnc⟩, hlen, hone, hrd, hmo⟩ := hr
  have hhn : h ≤ n := by rw [hlen] at h2; exact Nat.le_of_mul_le_mul_right h2 h0
  have hln : l ≤ n := by omega
  have hylen : ys.length = (h - l) * z := by
    rw [← hys]
    have : l * z + (h - l) * z ≤ xs.length := by rw [← Nat.add_mul]; rw [show l + (h - l) = h by omega]; exact h2
    simp; omega
  have hsub : ∀ (j : Nat) (u : Value), ys[j]? = some u → xs[l * z + j]? = some u := by
    intro j u hu
    rw [← hys] at hu
    simp only [List.getElem?_take, List.getElem?_drop] at hu
    split at hu
    · exact hu
    · cases hu
  have hone' : ∀ u ∈ ys, u.oneCell' = true := fun u hu => by
    rw [← hys] at hu
    exact hone u (List.mem_of_mem_drop (List.mem_of_mem_take hu))
  have hne : ys ≠ [] → xs ≠ [] := by
    rintro h3 rfl
    rw [← hys] at h3; simp at h3
  · have e2 : ∀ y, lo = some y → ∃ k, a.eval y = .int k (l : Int) := by
      intro y hy; subst hy; obtain ⟨k, hk⟩ := hl; exact ⟨k, rd_v hp.val hp.esN hk⟩
    have e3 : ∀ y, hi = some y → ∃ k, a.eval y = .int k (h : Int) := by
      intro y hy; subst hy; obtain ⟨k, hk⟩ := hh; exact ⟨k, rd_v hp.val hp.esN hk⟩
    have hhc : h ≤ c := by omega
    have hrun : (execOp a.eval ⟨some d, .slice T x lo hi none, ty, pos, aft, gd⟩).run P w = .ok (.value (.slice (if c = l then A else A.map (·.add (l * z))) (h - l) (c - l))) w := by
      cases lo with
      | none =>
        simp only at hl; subst hl
        cases hi with
        | none =>
          simp only at hh
          have : h = n := Nat.eq_of_mul_eq_mul_right h0 (by omega)
          subst this
          simp [execOp, Instr.sliceAt, Instr.slice, run_underlying hT, he, Instr.sliceBounds, run_sizeOf' hz]
        | some y =>
          obtain ⟨k, hk⟩ := e3 y rfl
          simp [execOp, Instr.sliceAt, Instr.slice, run_underlying hT, he, Instr.sliceBounds, Instr.sliceBound, asIntOf, hk, hhc, run_sizeOf' hz]
      | some y =>
        obtain ⟨k, hk⟩ := e2 y rfl
        cases hi with
        | none =>
          simp only at hh
          have : h = n := Nat.eq_of_mul_eq_mul_right h0 (by omega)
          subst this
          simp [execOp, Instr.sliceAt, Instr.slice, run_underlying hT, he, Instr.sliceBounds, Instr.sliceBound, asIntOf, hk, h1, run_sizeOf' hz]
        | some y' =>
          obtain ⟨k', hk'⟩ := e3 y' rfl
          simp [execOp, Instr.sliceAt, Instr.slice, run_underlying hT, he, Instr.sliceBounds, Instr.sliceBound, asIntOf, hk, hk', h1, hhc, run_sizeOf' hz]
    refine ⟨_, hrun, fl_fr ?_ hys2⟩
    simp only [R]
    refine ⟨_, h - l, c - l, ⟨rfl, by omega⟩, hylen, hone', ?_, ?_⟩
    · intro h3
      obtain ⟨ad, rfl, hc⟩ := hrd (hne h3)
      have hcl : c ≠ l := by
        intro e
        have : h - l = 0 := by omega
        rw [this] at hylen
        simp at hylen; exact h3 hylen
      rw [if_neg hcl]
      refine ⟨ad.add (l * z), rfl, fun j u hu => ?_⟩
      rw [add_add]
      exact hc _ _ (hsub j u hu)
    · cases m with
      | own T => simp [notOwn] at hm
      | ro =>
        refine ⟨rfl, fun h3 => ?_⟩
        obtain ⟨ad, rfl, hi⟩ := hmo.2 (hne h3)
        split
        · exact ⟨ad, rfl, hi⟩
        · exact ⟨ad.add (l * z), rfl, by rw [add_block]; exact hi⟩
      | shr =>
        refine ⟨rfl, fun h3 => ?_⟩
        obtain ⟨ad, rfl, hi⟩ := hmo.2 (hne h3)
        split
        · exact ⟨ad, rfl, hi⟩
        · exact ⟨ad.add (l * z), rfl, by rw [add_block]; exact hi⟩
end

section
variable {A B : Type} {z : Nat}
theorem gflat_len {enc : A → List B} (he : ∀ x, (enc x).length = z) (l : List A) : ((l.map enc).flatten).length = l.length * z := by
  induction l with
  | nil => simp
  | cons x l ih => simp only [List.map_cons, List.flatten_cons, List.length_append, he, ih, List.length_cons, Nat.add_mul]; omega
theorem gflat_lt {enc : A → List B} (he : ∀ x, (enc x).length = z) {l : List A} {i : Nat} (h : i < l.length) : i * z + z ≤ ((l.map enc).flatten).length := by
  rw [gflat_len he]
  have : (i + 1) * z ≤ l.length * z := Nat.mul_le_mul_right _ h
  rw [Nat.add_mul] at this; omega
theorem gflat_drop {enc : A → List B} (he : ∀ x, (enc x).length = z) : ∀ (l : List A) (i : Nat), ((l.map enc).flatten).drop (i * z) = ((l.drop i).map enc).flatten
  | [], i => by simp
  | x :: l, 0 => by simp
  | x :: l, i + 1 => by
    simp only [List.map_cons, List.flatten_cons, List.drop_succ_cons]
    rw [Nat.add_mul, Nat.one_mul, Nat.add_comm, ← List.drop_drop, ← he x, List.drop_left, he x]
    exact gflat_drop he l i
theorem gflat_take {enc : A → List B} (he : ∀ x, (enc x).length = z) : ∀ (l : List A) (i : Nat), ((l.map enc).flatten).take (i * z) = ((l.take i).map enc).flatten
  | [], i => by simp
  | x :: l, 0 => by simp
  | x :: l, i + 1 => by
    simp only [List.map_cons, List.flatten_cons, List.take_succ_cons]
    rw [Nat.add_mul, Nat.one_mul, Nat.add_comm, List.take_add, ← he x, List.take_left, List.drop_left, he x]
    rw [gflat_take he l i]
theorem gflat_get {enc : A → List B} (he : ∀ x, (enc x).length = z) {l : List A} {i : Nat} {x : A} (h : getO l i = some x) : (((l.map enc).flatten).drop (i * z)).take z = enc x := by
  rw [gflat_drop he]
  obtain ⟨hi, rfl⟩ := List.getElem?_eq_some_iff.1 h
  rw [List.drop_eq_getElem_cons hi]
  simp only [List.map_cons, List.flatten_cons]
  rw [← he l[i], List.take_left]
theorem gflat_seg {enc : A → List B} (he : ∀ x, (enc x).length = z) {l : List A} {i j n : Nat} {x : A} {ys : List B} (h : getO l i = some x) (hj : j + n ≤ z) (hy : ((enc x).drop j).take n = ys) : (((l.map enc).flatten).drop (i * z + j)).take n = ys := by
  have h1 := gflat_get he h
  rw [← hy, ← h1, List.drop_take, List.drop_drop, List.take_take, Nat.min_eq_left (by omega)]
theorem gflat_cell {enc : A → List B} (he : ∀ x, (enc x).length = z) {l : List A} {i j : Nat} {x : A} {v : B} (h : getO l i = some x) (hv : (enc x)[j]? = some v) : ((l.map enc).flatten)[i * z + j]? = some v := by
  have h1 := gflat_get he h
  have hj : j < z := by rw [← he x]; exact (List.getElem?_eq_some_iff.1 hv).1
  rw [← h1, List.getElem?_take, if_pos hj, List.getElem?_drop] at hv
  exact hv
theorem gflat_app {enc : A → List B} {l m q : List A} (h : l ++ m = q) : (l.map enc).flatten ++ (m.map enc).flatten = (q.map enc).flatten := by subst h; simp
theorem gflat_sli {enc : A → List B} (he : ∀ x, (enc x).length = z) {l q : List A} {a b : Int} (h : sliO l a b = some q) : (((l.map enc).flatten).drop (a.toNat * z)).take ((b.toNat - a.toNat) * z) = (q.map enc).flatten := by
  unfold sliO at h
  split at h
  · cases h
    rw [gflat_drop he, gflat_take he]
  · cases h
theorem sli_bd {l q : List A} {a b : Int} (h : sliO l a b = some q) : a = (a.toNat : Int) ∧ b = (b.toNat : Int) ∧ a.toNat ≤ b.toNat ∧ b.toNat ≤ l.length := by
  unfold sliO at h
  split at h
  · omega
  · cases h
end

theorem sub_ro_shr (z : Nat) (xs : List Value) : Sub (.fl .ro z xs) (.fl .shr z xs) := fun g V w x o h => by
  simp only [R, modeOk] at *
  obtain ⟨a, n, c, h1, h2, h3, h4, h5, h6⟩ := h
  exact ⟨a, n, c, h1, h2, h3, h4, h5, fun hne => let ⟨ad, e, hi⟩ := h6 hne; ⟨ad, e, .inl hi⟩⟩
theorem sub_fr_shr (s : Bool) (z : Nat) (cs : List IC) : Sub (.fr .ro s z cs) (.fr .shr true z cs) := fun g V w x o h => by
  obtain ⟨vs, h1, h2⟩ := fr_fl h
  exact fl_fr (sub_ro_shr _ _ g V w x o h1) (RIs_weak (fun _ => rfl) h2)
section
variable {P : Program} {Q : Exit → Act → World → Prop} {g0 : Gh}
theorem ht_frzE {c : Code} {es es' : List Ent} (i : Nat) (ht : True) (he : (es.modify i fun e => (e.1, frz e.2)) = es') (h : HT P Q g0 c es') : HT P Q g0 c es := by
  intro g a w hg hs
  exact pt_frzE (Q := fun e a w => c.wp P Q a w) (e := .normal) i ht he (fun g a w hg hs => h g a w hg hs) g a w hg hs
end
end Go.Abs
