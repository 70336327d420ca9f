/-
  The logic of places: texts AL AM AO AP AQ.
-/
import Derived.ChangeArms
import Derived.WideShapes
import Derived.DataReads
import Derived.Below
import Derived.Lib.AppendStr
import Derived.Test.YtgonanjdmdlkjaaDoorAD
section
/-
  Calls that are given variables and rows of the caller's own: what is known of them behind the call.
-/
namespace Go.Abs
def AnsP (xs : List Value) (posts : List AV) (o0 : List Nat) (Imm Im : Nat → Prop) (w : World) (res : AV) (e : Ending) (w' : World) : Prop :=
  ∃ x, e = .returned x ∧ Chg o0 w w' ∧ ∃ (Imm' : Nat → Prop) (o : List Nat), (∀ b, Imm b → Imm' b) ∧ (∀ b, Imm' b → Imm b ∨ b ∈ o0 ∨ (w.heap.size ≤ b ∧ b < w'.heap.size)) ∧
    Rs (gh0 w Imm' Im) V0 w' (res :: posts) (x :: xs.take posts.length) o ∧ o.Nodup ∧ ∀ b ∈ o, (b ∈ o0 ∨ w.heap.size ≤ b) ∧ b < w'.heap.size ∧ ¬ Imm' b
def FnP (P : Program) (f : FuncId) (args posts : List AV) (res : AV) : Prop :=
  ∀ (Imm Im : Nat → Prop) (w : World) (xs : List Value) (o0 : List Nat), (∀ b, Imm b ∨ Im b → b < w.heap.size) → Rs (gh0 w Imm Im) V0 w args xs o0 → o0.Nodup → (∀ b ∈ o0, b < w.heap.size ∧ ¬ (Imm b ∨ Im b)) →
    Calls P f xs.toArray w (AnsP xs posts o0 Imm Im w res)
def pinEnts (k : Nat) (xs : List Value) : List Ent := (List.range k).map fun i => (i, .v (xs.getD i undef))
section
variable {P : Program} {Q : Exit → Act → World → Prop} {g0 : Gh} {rnd : Option Nat}
theorem cellAt_box {w : World} {b : Nat} {ys : List Value} {T : TypeId} {i : Nat} (h : w.heap[b]? = some (.cells ys.toArray T (0, 0))) (hi : i < ys.length) :
    w.cell? ⟨b, i, none⟩ = some (cellAt w (.pointer (some ⟨b, 0, none⟩)) i) := by
  simp only [cellAt]
  rw [cell_of_row w b i _ T (0, 0) h]
  simp [hi]
theorem Es_argsP {g : Gh} {V : Loc → Value} {w : World} (hV : ∀ av x o, closed av = true → R g V0 w av x o → R g V w av x o) (hC : ∀ t i, V (.cell t i) = cellAt w (V (.slot t)) i) : ∀ (args : List AV) (xs : List Value) (k : Nat) (o : List Nat), closeds args = true → Rs g V0 w args xs o → (∀ i x, xs[i]? = some x → V (.slot (k + i)) = x) →
    Es g V w ((args.zipIdx k).map fun p => (p.2, p.1)) o
  | [], xs, k, o, _, h, _ => by simp only [Rs] at h; exact h.2
  | av :: args, xs, k, o, hc, h, hv => by
    simp only [Rs] at h
    obtain ⟨x, xs', o1, o2, rfl, rfl, h1, h2⟩ := h
    simp only [closeds, Bool.and_eq_true] at hc
    simp only [List.zipIdx_cons, List.map_cons]
    have h0 : V (.slot k) = x := by simpa using hv 0 x rfl
    refine ⟨o1, o2, rfl, ⟨?_, ?_⟩, Es_argsP hV hC args xs' (k + 1) o2 hc.2 h2 fun i y hy => ?_⟩
    · show R g V w av (V (.slot k)) o1
      rw [h0]; exact hV av x o1 hc.1 h1
    · cases av <;> try trivial
      case box T cs =>
        intro b hb i hi
        dsimp only at hb hi ⊢
        simp only [R] at h1
        obtain ⟨b', ys, os, hx, _, hh, hrs⟩ := h1
        rw [h0, hx] at hb
        cases hb
        rw [hC, h0, hx]
        exact cellAt_box hh (by rw [Rs_length hrs]; exact hi)
    · have := hv (i + 1) y (by simpa using hy)
      rwa [show k + 1 + i = k + (i + 1) by omega]
end
section
variable {P : Program} {ty : TypeId} {pos : String} {aft : Array Edge} {gd : Option (Nat × Bool)}
theorem op_nilCheck (N : List Ent) (d : Nat) (x : Operand) (t off : Nat) (h : dupOp N x = .ptr t off) (hdt : d ≠ t) :
    LOp P ⟨some d, .nilCheck x, ty, pos, aft, gd⟩ N [] [(d, .ptr t off)] [.slot d] := by
  refine LOp.value rfl (by simp [clr, hit, hdt]) rfl fun g V oN a w hp => ?_
  have hR := dupOp_R hp.val hp.esN x
  rw [h] at hR
  simp only [R] at hR
  obtain ⟨b, h1, h2, _⟩ := hR
  refine ⟨a.eval x, ?_, by simp only [R]; exact ⟨b, h1, h2, trivial⟩⟩
  simp [execOp, h2]
theorem Rs_parts {g : Gh} {V : Loc → Value} {w : World} : ∀ {cs : List AV} {xs : List Value} {o : List Nat} (i : Nat), Rs g V w cs xs o → i < cs.length →
    ∃ oa o1 ob, o = oa ++ (o1 ++ ob) ∧ Rs g V w (cs.take i) (xs.take i) oa ∧ R g V w (cs.getD i .any) (xs.getD i undef) o1 ∧ Rs g V w (cs.drop (i + 1)) (xs.drop (i + 1)) ob
  | [], _, _, i, _, hi => by simp at hi
  | c :: cs, xs, o, i, h, hi => by
    simp only [Rs] at h
    obtain ⟨x, xs', o1, o2, rfl, rfl, h1, h2⟩ := h
    cases i with
    | zero => exact ⟨[], o1, o2, rfl, ⟨rfl, rfl⟩, by simpa using h1, by simpa using h2⟩
    | succ i =>
      obtain ⟨oa, o3, ob, rfl, h3, h4, h5⟩ := Rs_parts i h2 (by simpa using hi)
      refine ⟨o1 ++ oa, o3, ob, by simp, ?_, by simpa using h4, by simpa using h5⟩
      simp only [List.take_succ_cons, Rs]
      exact ⟨x, _, o1, oa, rfl, rfl, h1, h3⟩
theorem Rs_join {g : Gh} {V : Loc → Value} {w : World} {cs : List AV} {xs : List Value} {oa o1 ob : List Nat} {av : AV} (i : Nat) (hi : i < cs.length) (hl : xs.length = cs.length)
    (h1 : Rs g V w (cs.take i) (xs.take i) oa) (h2 : R g V w av (xs.getD i undef) o1) (h3 : Rs g V w (cs.drop (i + 1)) (xs.drop (i + 1)) ob) : Rs g V w (cs.set i av) xs (oa ++ (o1 ++ ob)) := by
  rw [List.set_eq_take_append_cons_drop, if_pos hi]
  refine Rs_append.2 ⟨xs.take i, xs.getD i undef :: xs.drop (i + 1), oa, o1 ++ ob, ?_, rfl, h1, ?_⟩
  · have : xs.getD i undef = xs[i]'(by omega) := by simp [List.getD, show i < xs.length by omega]
    rw [this, List.getElem_cons_drop, List.take_append_drop]
  · simp only [Rs]; exact ⟨_, _, o1, ob, rfl, rfl, h2, h3⟩
end
end Go.Abs
end
section
/-
  Rows whose cells are rows in their turn, not written any more.
-/
namespace Go.Abs
theorem RIs_vals {g : Gh} {w : World} {s : Bool} : ∀ {vs xs : List Value}, RIs g w s (vs.map IC.v) xs ↔ xs = vs
  | [], xs => by simp [RIs]
  | v :: vs, xs => by
    simp only [List.map_cons, RIs, RI]
    constructor
    · rintro ⟨x, xs', rfl, rfl, h⟩; rw [RIs_vals.1 h]
    · rintro rfl; exact ⟨v, vs, rfl, rfl, RIs_vals.2 rfl⟩
theorem RIs_length {g : Gh} {w : World} {s : Bool} : ∀ {cs : List IC} {xs : List Value}, RIs g w s cs xs → xs.length = cs.length
  | [], xs, h => by simp only [RIs] at h; simp [h]
  | c :: cs, xs, h => by
    simp only [RIs] at h
    obtain ⟨x, xs', rfl, _, h⟩ := h
    simp [RIs_length h]
theorem RIs_append {g : Gh} {w : World} {s : Bool} : ∀ {cs ds : List IC} {xs ys : List Value}, RIs g w s cs xs → RIs g w s ds ys → RIs g w s (cs ++ ds) (xs ++ ys)
  | [], ds, xs, ys, h, h2 => by simp only [RIs] at h; subst h; exact h2
  | c :: cs, ds, xs, ys, h, h2 => by
    simp only [RIs] at h
    obtain ⟨x, xs', rfl, h1, h⟩ := h
    simp only [List.cons_append, RIs]
    exact ⟨x, _, rfl, h1, RIs_append h h2⟩
theorem RIs_get {g : Gh} {w : World} {s : Bool} : ∀ {cs : List IC} {xs : List Value} {k : Nat} {c : IC}, RIs g w s cs xs → cs[k]? = some c → ∃ x, xs[k]? = some x ∧ RI g w s c x
  | [], _, _, _, _, h => by simp at h
  | c :: cs, xs, 0, c', h, hc => by
    simp only [RIs] at h
    obtain ⟨x, xs', rfl, h1, h⟩ := h
    simp only [List.getElem?_cons_zero, Option.some.injEq] at hc
    subst hc
    exact ⟨x, rfl, h1⟩
  | c :: cs, xs, k + 1, c', h, hc => by
    simp only [RIs] at h
    obtain ⟨x, xs', rfl, h1, h⟩ := h
    obtain ⟨y, hy, hr⟩ := RIs_get h (by simpa using hc)
    exact ⟨y, by simpa using hy, hr⟩
theorem RIs_weak {g : Gh} {w : World} {s s' : Bool} (h : s = true → s' = true) {cs : List IC} {xs : List Value} (hr : RIs g w s cs xs) : RIs g w s' cs xs :=
  RIs_stab (fun b hb => by
    cases s with
    | true => rw [h rfl]; exact hb
    | false => cases s' with
      | true => exact .inl hb
      | false => exact hb) (fun _ _ => rfl) cs xs hr
def mdS : Bool → Md
  | true => .shr
  | false => .ro
inductive IA (s : Bool) : IC → AV → Prop
  | v (x : Value) : IA s (.v x) (.v x)
  | fl (z : Nat) (xs : List Value) {cs : List IC} (h : cs = xs.map IC.v) : IA s (.row z cs) (.fl (mdS s) z xs)
  | fr (z : Nat) (cs : List IC) : IA s (.row z cs) (.fr (mdS s) s z cs)
inductive IAs (s : Bool) : List IC → List AV → Prop
  | nil : IAs s [] []
  | cons {c : IC} {av : AV} {cs : List IC} {avs : List AV} (h : IA s c av) (hs : IAs s cs avs) : IAs s (c :: cs) (av :: avs)
theorem modeOk_mdS {g : Gh} {w : World} {s : Bool} {z n : Nat} {x : Value} {a : Option Addr} {vs : List Value} (h : vs ≠ [] → ∃ ad, a = some ad ∧ immB g s ad.block) : modeOk g w (mdS s) z x n a vs [] := by
  cases s
  · exact ⟨rfl, h⟩
  · exact ⟨rfl, h⟩
theorem IA_R {g : Gh} {V : Loc → Value} {w : World} {s : Bool} {c : IC} {av : AV} {x : Value} (h : IA s c av) (hr : RI g w s c x) : R g V w av x [] := by
  cases h with
  | v y => simp only [RI] at hr; simp [R, hr]
  | fl z xs h =>
    subst h
    simp only [RI] at hr
    obtain ⟨vs, a, n, c, h1, h2, h3, h4, h5, h6⟩ := hr
    obtain rfl := RIs_vals.1 h6
    simp only [R]
    exact ⟨a, n, c, h1, h2, h3, h4, modeOk_mdS h5⟩
  | fr z cs =>
    simp only [RI] at hr
    obtain ⟨vs, a, n, c, h1, h2, h3, h4, h5, h6⟩ := hr
    simp only [R]
    exact ⟨vs, a, n, c, h1, h2, h3, h4, modeOk_mdS h5, h6⟩
theorem IA_clr {s : Bool} {c : IC} {av : AV} (h : IA s c av) (W : List Loc) : clr W av = true ∧ noBox av = true := by
  cases h <;> exact ⟨rfl, rfl⟩
inductive AI (s : Bool) : AV → IC → Prop
  | v (x : Value) : AI s (.v x) (.v x)
  | ro (z : Nat) (xs : List Value) {cs : List IC} (h : cs = xs.map IC.v) : AI s (.fl .ro z xs) (.row z cs)
  | shr (z : Nat) (xs : List Value) {cs : List IC} (hs : s = true) (h : cs = xs.map IC.v) : AI s (.fl .shr z xs) (.row z cs)
  | fro (z : Nat) (cs : List IC) : AI s (.fr .ro false z cs) (.row z cs)
  | fsh (m : Md) (s' : Bool) (z : Nat) (cs : List IC) (hm : notOwn m = true) (hs : s = true) : AI s (.fr m s' z cs) (.row z cs)
  | nil (z : Nat) : AI s (.v (.slice none 0 0)) (.row z [])
inductive AIs (s : Bool) : List AV → List IC → Prop
  | nil : AIs s [] []
  | cons {c : IC} {av : AV} {cs : List IC} {avs : List AV} (h : AI s av c) (hs : AIs s avs cs) : AIs s (av :: avs) (c :: cs)
theorem AI_R {g : Gh} {V : Loc → Value} {w : World} {s : Bool} {c : IC} {av : AV} {x : Value} {o : List Nat} (h : AI s av c) (hr : R g V w av x o) : RI g w s c x := by
  cases h with
  | v y => simp only [R] at hr; simp [RI, hr.1]
  | ro z xs h =>
    subst h
    simp only [R, modeOk] at hr
    obtain ⟨a, n, c, h1, h2, h3, h4, _, h5⟩ := hr
    simp only [RI]
    exact ⟨xs, a, n, c, h1, h2, h3, h4, fun hne => let ⟨ad, e, hi⟩ := h5 hne; ⟨ad, e, by cases s <;> first | exact hi | exact .inl hi⟩, RIs_vals.2 rfl⟩
  | shr z xs hs h =>
    subst h; subst hs
    simp only [R, modeOk] at hr
    obtain ⟨a, n, c, h1, h2, h3, h4, _, h5⟩ := hr
    simp only [RI]
    exact ⟨xs, a, n, c, h1, h2, h3, h4, h5, RIs_vals.2 rfl⟩
  | fro z cs =>
    simp only [R, modeOk] at hr
    obtain ⟨vs, a, n, c, h1, h2, h3, h4, ⟨_, h5⟩, h6⟩ := hr
    simp only [RI]
    exact ⟨vs, a, n, c, h1, h2, h3, h4, fun hne => let ⟨ad, e, hi⟩ := h5 hne; ⟨ad, e, by cases s <;> first | exact hi | exact .inl hi⟩, RIs_weak (by simp) h6⟩
  | fsh m s' z cs hm hs =>
    subst hs
    simp only [R] at hr
    obtain ⟨vs, a, n, c, h1, h2, h3, h4, h5, h6⟩ := hr
    simp only [RI]
    refine ⟨vs, a, n, c, h1, h2, h3, h4, fun hne => ?_, RIs_weak (fun _ => rfl) h6⟩
    cases m with
    | own T => cases hm
    | ro => obtain ⟨ad, e, hi⟩ := h5.2 hne; exact ⟨ad, e, .inl hi⟩
    | shr => exact h5.2 hne
  | nil z =>
    simp only [R] at hr
    simp only [RI]
    exact ⟨[], none, 0, 0, ⟨hr.1, Nat.le_refl _⟩, by simp, by simp, fun h => absurd rfl h, fun h => absurd rfl h, by simp [RIs]⟩
theorem AIs_R {g : Gh} {V : Loc → Value} {w : World} {s : Bool} {cs : List IC} {avs : List AV} (h : AIs s avs cs) : ∀ {xs : List Value} {o : List Nat}, Rs g V w avs xs o → RIs g w s cs xs := by
  induction h with
  | nil => intro xs o h; simp only [Rs] at h; simp [RIs, h.1]
  | cons h hs ih =>
    intro xs o hr
    simp only [Rs] at hr
    obtain ⟨x, xs', o1, o2, rfl, rfl, h1, h2⟩ := hr
    simp only [RIs]
    exact ⟨x, xs', rfl, AI_R h h1, ih h2⟩
theorem fr_fl {g : Gh} {V : Loc → Value} {w : World} {m : Md} {s : Bool} {z : Nat} {cs : List IC} {x : Value} {o : List Nat} (h : R g V w (.fr m s z cs) x o) :
    ∃ vs, R g V w (.fl m z vs) x o ∧ RIs g w s cs vs := by
  simp only [R] at *
  obtain ⟨vs, a, n, c, h1, h2, h3, h4, h5, h6⟩ := h
  exact ⟨vs, ⟨a, n, c, h1, h2, h3, h4, h5⟩, h6⟩
theorem fl_fr {g : Gh} {V : Loc → Value} {w : World} {m : Md} {s : Bool} {z : Nat} {cs : List IC} {vs : List Value} {x : Value} {o : List Nat} (h : R g V w (.fl m z vs) x o) (h2 : RIs g w s cs vs) :
    R g V w (.fr m s z cs) x o := by
  simp only [R] at *
  obtain ⟨a, n, c, h1, h2', h3, h4, h5⟩ := h
  exact ⟨vs, a, n, c, h1, h2', h3, h4, h5, h2⟩
theorem sub_nil_fr (E : TypeId) (s : Bool) (z : Nat) : Sub (.v (.slice none 0 0)) (.fr (.own E) s z []) := fun g V w x o h =>
  fl_fr (vs := []) (sub_nil E z g V w x o h) (by simp [RIs])
section
variable {P : Program} {ty : TypeId} {pos : String} {aft : Array Edge} {gd : Option (Nat × Bool)}
theorem op_len_fr (N : List Ent) (d : Nat) {t t' e : TypeId} {x : Operand} {m : Md} {s : Bool} {z : Nat} {cs : List IC} (n : Nat) (hT : P.underlying t = some (.slice e)) (hx : rd N x = .fr m s z cs) (hz : 0 < z) (hn : cs.length = n * z) :
    LOp P ⟨some d, .call ⟨.builtin .len, #[x], #[t]⟩, t', pos, aft, gd⟩ N [] [(d, .v (.int .i64 (n : Int)))] [.slot d] := by
  refine LOp.v rfl fun g V oN ac w hp => ?_
  obtain ⟨o', _, hr⟩ := rd_R hp.val hp.esN x
  rw [hx] at hr
  obtain ⟨vs, hr, hi⟩ := fr_fl hr
  have hvl := RIs_length hi
  simp only [R] at hr
  obtain ⟨a, n', c, ⟨he, _⟩, hl, _⟩ := hr
  have : n' = n := Nat.eq_of_mul_eq_mul_right hz (by omega)
  subst this
  simp [execOp, resolve, invoke, builtin, Builtin.len_, he, run_underlying hT, goInt]
theorem op_ix_fr (N : List Ent) (d : Nat) {T e : TypeId} (x : Nat) (y : Operand) {kd : IntKind} {m : Md} {s : Bool} {cs : List IC} (nn : Int) (i z : Nat) (l : Loc) (hT : P.underlying T = some (.slice e)) (hz : (P.info? e).map (·.size) = some z) (h0 : 0 < z)
    (hx : rd N (.tmp x) = .fr m s z cs) (hl : locOf N (.tmp x) = l) (hy : rd N y = .v (.int kd nn)) (hnn : nn = (i : Int)) (hi : i * z + z ≤ cs.length) (hd : hit [.slot d] l = false) :
    LOp P ⟨some d, .indexAddr T (.tmp x) y, ty, pos, aft, gd⟩ N [] [(d, .eref l (i * z))] [.slot d] := by
  subst hnn
  refine LOp.value rfl (by simp [clr, hd]) rfl fun g V oN a w hp => ?_
  obtain ⟨o', _, hR⟩ := rd_R hp.val hp.esN (.tmp x)
  rw [hx] at hR
  obtain ⟨xs, hR, hic⟩ := fr_fl hR
  rw [← RIs_length hic] at hi
  simp only [R] at hR
  obtain ⟨ad, n, c, ⟨he, _⟩, hlen, _, hrd, _⟩ := hR
  have hne : xs ≠ [] := fun e => by subst e; simp at hi; omega
  obtain ⟨A, rfl, _⟩ := hrd hne
  have hin : i < n := by
    rw [hlen] at hi
    have : (i + 1) * z ≤ n * z := by rw [Nat.add_mul]; omega
    exact Nat.lt_of_succ_le (Nat.le_of_mul_le_mul_right this h0)
  have h3 := rd_v hp.val hp.esN hy
  have hV : V l = .slice (some A) n c := by
    rw [← hl, ← he]
    simp only [locOf]
    obtain ⟨o2, _, h2⟩ := opv_R hp.val hp.esN (.tmp x)
    simp only [opv] at h2
    cases hlk : look N x with
    | same l' => rw [hlk] at h2; simp only [R] at h2; exact h2.1.symm
    | _ => simp only [hp.val, Act.eval]
  refine ⟨.pointer (some (A.add (i * z))), ?_, by simp only [R]; exact ⟨A, n, c, hV, rfl, trivial⟩⟩
  simp [execOp, Instr.indexAt, Sem.run_bind, run_underlying hT, he, h3, asIntOf, run_sizeOf' hz, hin]
theorem op_load_fr (N : List Ent) (d : Nat) {T : TypeId} {td : TypeDesc} (x : Operand) {m : Md} {s : Bool} {z : Nat} {cs : List IC} (l : Loc) (k : Nat) (ic : IC) (av : AV) (hT : P.underlying T = some td) (ha : isAggD td = false)
    (hx : dupOp N x = .eref l k) (hl : locv N l = .fr m s z cs) (hv : cs[k]? = some ic) (hia : IA s ic av) :
    LOp P ⟨some d, .load T x, ty, pos, aft, gd⟩ N [] [(d, av)] [.slot d] := by
  refine LOp.value rfl (IA_clr hia _).1 (IA_clr hia []).2 fun g V oN a w hp => ?_
  have hR := dupOp_R hp.val hp.esN x
  rw [hx] at hR
  simp only [R] at hR
  obtain ⟨ad, n, c, h1, h2, _⟩ := hR
  obtain ⟨o', _, h3⟩ := locv_R hp.esN l
  rw [hl] at h3
  obtain ⟨vs, h3, hic⟩ := fr_fl h3
  obtain ⟨v, hv', hri⟩ := RIs_get hic hv
  simp only [R] at h3
  obtain ⟨A, n', c', ⟨h4, _⟩, _, _, hrd, _⟩ := h3
  rw [h1] at h4; cases h4
  obtain ⟨ad', e, hc⟩ := hrd (fun e => by subst e; simp at hv')
  cases e
  refine ⟨v, ?_, IA_R hia hri⟩
  simp [execOp, Instr.loadAt, h2, Instr.sureAddr, run_load1 hT ha (hc k v hv')]
theorem op_build1_fr (N : List Ent) (d : Nat) {T e : TypeId} (x : Operand) (z : Nat) (zv : Value) (s : Bool) (av : AV) (ics : List IC) (hT : P.underlying T = some (.slice e)) (hz : (P.info? e).map (·.size) = some z)
    (hzv : (P.info? e).bind (·.zero) = some zv) (h : dupOp N x = av) (hok : cellsOk N av = true) (hai : AIs s (vcells av) ics) (hl : ics.length = z) (h0 : 0 < z) (hsm : z ≤ 16777216) :
    LOp P ⟨some d, .buildSlice T 1 #[(0, x)], ty, pos, aft, gd⟩ N [] [(d, .fr (.own e) s z ics)] [.slot d] := by
  refine LOp.fresh rfl rfl fun g V oN a w hp => ?_
  have hR := dupOp_R hp.val hp.esN x
  rw [h] at hR
  obtain ⟨h1, hone⟩ := vcells_R hp.esN hok hR
  have hri := AIs_R hai h1
  have hcl : (a.eval x).cells.toList.length = z := by rw [RIs_length hri, hl]
  have hcs : (a.eval x).cells.size = z := by simpa using hcl
  have hfill : Instr.fill (fun i => some (i * z, z)) ((Array.range (1 * z)).map (zv.cells[· % zv.cells.size]!)) [(0, a.eval x)] = some (a.eval x).cells := by
    have hno : ¬ ((a.eval x).cells.size ≠ z ∨ 0 * z + (a.eval x).cells.size > ((Array.range (1 * z)).map (zv.cells[· % zv.cells.size]!)).size) := by
      rw [Array.size_map, Array.size_range, hcs]; omega
    unfold Instr.fill
    simp only []
    rw [if_neg (by rw [Bool.or_eq_true, decide_eq_true_iff, decide_eq_true_iff]; exact hno)]
    unfold Instr.fill
    congr 1
    have := fold_splice (a.eval x).cells.toList (0 * z) ((Array.range (1 * z)).map (zv.cells[· % zv.cells.size]!)) 0 (by simp [hcs])
    apply Array.toList_inj.1
    rw [← Array.foldl_toList, Array.toList_zipIdx]
    refine Eq.trans ?_ (this.trans ?_)
    · rfl
    · simp only [Nat.zero_mul, Nat.zero_add, List.take_zero, List.nil_append]
      rw [List.drop_eq_nil_of_le (by simp [hcs]), List.append_nil]
  have hr : (execOp a.eval ⟨some d, .buildSlice T 1 #[(0, x)], ty, pos, aft, gd⟩).run P w = .ok (.value (.slice (some ⟨w.heap.size, 0, none⟩) 1 1)) (w.alloc (.cells (a.eval x).cells e)) := by
    have hbig : ¬ 1 * z > 2 ^ 24 := by omega
    have hnz : ¬ 1 * z = 0 := by omega
    simp only [execOp, Instr.buildSlice, Sem.run_bind, run_underlying hT, Result.andThen_ok, run_sizeOf' hz, hbig, if_false, hnz, run_zero hzv]
    have e1 : ((#[(0, x)] : Array (Nat × Operand)).map fun (i, x) => (i, a.eval x)).toList = [(0, a.eval x)] := by simp
    simp only [Sem.run_pure, Result.andThen_ok]
    rw [e1, hfill]
    simp [newRow, newObj]
    rfl
  have hown := World.ownsRow_lit (base := 0) (e := e) (size := z) w (a.eval x).cells 1 (Nat.zero_le _) (by simp only [maxLen]; omega) (by omega)
  refine (Yl.val hr).mono ?_
  rintro v w2 ⟨rfl, rfl⟩
  refine ⟨Chg.alloc _ _ _, g, [w.heap.size], g.le_refl, fun b hb => .inl hb, fl_fr (own_fl hown hone) (RIs_stab (fun b h => h) (fun b hb => heap_alloc_old w _ b (hp.imm b hb)) ics _ hri), by simp, ?_⟩
  intro b hb
  simp at hb; subst hb
  exact ⟨Nat.le_refl _, by simp, fun hi => Nat.lt_irrefl _ (hp.imm _ (.inl hi))⟩
theorem op_app_fr {A : Type} (N : List Ent) (d t : Nat) {T e t' : TypeId} (x y : Operand) {z by_ : Nat} {my : Md} {s s1 s2 : Bool} {xs ys zs : List IC} {l m q : List A} (hE : ElemT P T e z by_) (hx : dupOp (N ++ [(t, .fr (.own e) s1 z xs)]) x = .same (.slot t)) (hy : rd N y = .fr my s2 z ys)
    (hn : xs.length = l.length * z) (hm : ys.length = m.length * z) (hq : appO by_ l m = some q) (hz : xs ++ ys = zs) (hs1 : s1 = true → s = true) (hs2 : s2 = true → s = true) :
    LOp P ⟨some d, .call ⟨.builtin .append, #[x, y], #[T, T]⟩, t', pos, aft, gd⟩ N [(t, .fr (.own e) s1 z xs)] [(t, .any), (d, .fr (.own e) s z zs)] [.slot d] := by
  subst hz
  unfold appO at hq
  split at hq
  case isFalse => cases hq
  rename_i hlim
  obtain ⟨i, zv, hT, hi, hz, hs, hzc, h0, rfl⟩ := hE.ex
  refine LOp.core fun g V oN oT a w hd hp => ?_
  have hT' := hp.esT
  simp only [Es] at hT'
  obtain ⟨ob, o2, rfl, ⟨hR, _⟩, rfl⟩ := hT'
  have hax := dupOp_R hp.val (Es_append.2 ⟨oN, _, rfl, hp.esN, hp.esT⟩) x
  rw [hx] at hax
  obtain ⟨us, hR, hix⟩ := fr_fl hR
  rw [← RIs_length hix] at hn
  simp only [R] at hax hR
  obtain ⟨a0, n0, c0, ⟨h3, _⟩, hl0, hone0, _, hown, hob⟩ := hR
  obtain ⟨o', _, hr⟩ := rd_R hp.val hp.esN y
  rw [hy] at hr
  obtain ⟨vs, hr, hiy⟩ := fr_fl hr
  rw [← RIs_length hiy] at hm
  simp only [R] at hr
  obtain ⟨A, m', c, ⟨he, _⟩, hl, hone, hrd, _⟩ := hr
  have em : m' = m.length := Nat.eq_of_mul_eq_mul_right h0 (by omega)
  subst em
  have en : n0 = l.length := Nat.eq_of_mul_eq_mul_right h0 (by omega)
  subst en
  obtain ⟨v', w', hrun, hown', hg, hblk⟩ := run_append_fl (P := P) (ty := t') (c := c) hT hi hz hs hzc h0 hown hl hrd hone (by simp only [maxLen]; omega) (by simpa using hlim.1)
  have hrun' : (execOp a.eval ⟨some d, .call ⟨.builtin .append, #[x, y], #[T, T]⟩, t', pos, aft, gd⟩).run P w = .ok (.value v') w' := by
    have h4 : a.eval x = V (.slot t) := hax.1
    simp [execOp, resolve, invoke, builtin, he, h4, hrun]
  refine (Yl.val hrun').mono ?_
  rintro v w2 ⟨rfl, rfl⟩
  have hlt : d < g.n := hd d rfl
  have hchg : Chg ob w w2 := by rw [hob]; exact Chg.of_grown hg
  have himm : ∀ b, g.imm b → w2.heap[b]? = w.heap[b]? := fun b hb => hchg.block b (hp.imm b hb) fun hb' => (hp.own b (by simp [hb'])).2 hb
  refine ⟨g, setV V d v, v.ownBlock.toList, g.le_refl, fun b hb => .inl hb, fun b hb => Nat.lt_of_lt_of_le (hp.imm b (.inl hb)) hchg.size, by simpa using hchg, fun l hl => setV_hit hl, fun u => setV_val hp.val hp.size hlt u, ?_, by cases v.ownBlock <;> simp, ?_⟩
  · refine ⟨[], v.ownBlock.toList, rfl, ⟨by simp [R], trivial⟩, v.ownBlock.toList, [], by simp, ⟨?_, trivial⟩, rfl⟩
    show R g _ _ _ (setV V d v (.slot d)) _
    rw [setV_slot]
    refine fl_fr (own_fl hown' fun u hu => ?_) (RIs_stab (fun b h => h) himm _ _ (RIs_append (RIs_weak hs1 hix) (RIs_weak hs2 hiy)))
    rcases List.mem_append.1 hu with h | h
    · exact hone0 u h
    · exact hone u h
  · intro b hb'
    have hvb : v.ownBlock = some b := by cases hv : v.ownBlock <;> simp [hv] at hb' ⊢; exact hb'.symm
    have hlt2 := (hown'.lt b hvb).2
    rcases hblk with h | h
    · have hin : b ∈ ob := by rw [hob, ← h, hvb]; simp
      exact ⟨.inl (by simp [hin]), hlt2, (hp.own b (by simp [hin])).2⟩
    · rw [hvb] at h
      cases h
      refine ⟨.inr (Nat.le_refl _), hlt2, fun hi => Nat.lt_irrefl _ (hp.imm _ hi)⟩
end
section
variable {A B : Type} {z : Nat}
theorem gflat_len {enc : A → List B} (he : ∀ x, (enc x).length = z) (l : List A) : ((l.map enc).flatten).length = l.length * z := by
  induction l with
  | nil => simp
  | cons x l ih => simp only [List.map_cons, List.flatten_cons, List.length_append, he, ih, List.length_cons, Nat.add_mul]; omega
theorem gflat_lt {enc : A → List B} (he : ∀ x, (enc x).length = z) {l : List A} {i : Nat} (h : i < l.length) : i * z + z ≤ ((l.map enc).flatten).length := by
  rw [gflat_len he]
  have : (i + 1) * z ≤ l.length * z := Nat.mul_le_mul_right _ h
  rw [Nat.add_mul] at this; omega
theorem gflat_drop {enc : A → List B} (he : ∀ x, (enc x).length = z) : ∀ (l : List A) (i : Nat), ((l.map enc).flatten).drop (i * z) = ((l.drop i).map enc).flatten
  | [], i => by simp
  | x :: l, 0 => by simp
  | x :: l, i + 1 => by
    simp only [List.map_cons, List.flatten_cons, List.drop_succ_cons]
    rw [Nat.add_mul, Nat.one_mul, Nat.add_comm, ← List.drop_drop, ← he x, List.drop_left, he x]
    exact gflat_drop he l i
theorem gflat_get {enc : A → List B} (he : ∀ x, (enc x).length = z) {l : List A} {i : Nat} {x : A} (h : getO l i = some x) : (((l.map enc).flatten).drop (i * z)).take z = enc x := by
  rw [gflat_drop he]
  obtain ⟨hi, rfl⟩ := List.getElem?_eq_some_iff.1 h
  rw [List.drop_eq_getElem_cons hi]
  simp only [List.map_cons, List.flatten_cons]
  rw [← he l[i], List.take_left]
theorem gflat_cell {enc : A → List B} (he : ∀ x, (enc x).length = z) {l : List A} {i j : Nat} {x : A} {v : B} (h : getO l i = some x) (hv : (enc x)[j]? = some v) : ((l.map enc).flatten)[i * z + j]? = some v := by
  have h1 := gflat_get he h
  have hj : j < z := by rw [← he x]; exact (List.getElem?_eq_some_iff.1 hv).1
  rw [← h1, List.getElem?_take, if_pos hj, List.getElem?_drop] at hv
  exact hv
theorem gflat_app {enc : A → List B} {l m q : List A} (h : l ++ m = q) : (l.map enc).flatten ++ (m.map enc).flatten = (q.map enc).flatten := by subst h; simp
end
section
variable {P : Program} {Q : Exit → Act → World → Prop} {g0 : Gh} {rnd : Option Nat}
end
end Go.Abs
end
section
/-
  What came in, opened: a value of any type of numbers, truth values, texts, rows and structs of such, as the logic of places knows it.
-/
namespace Go.Abs
open Go.WideShapes
def wfI (k : IntKind) (n : Int) : Prop := (Lit.int k n).wf = true
def wfL {A : Type} (p : A → Prop) (l : List A) : Prop := l.length ≤ maxLen ∧ ∀ x ∈ l, p x
def inW (W : World) : Gh := gh0 W (fun _ => False) (fun b => b < W.heap.size)
def Came {H : Type} (enc : TypeId × Value → H) (P : Program) (W : World) (sp : Nat → Bool) (hd : Bool) (t : TypeId) {A : Type} (ie : A → List IC) (wf : A → Prop) : Prop :=
  ∀ (fuel : Nat) (cs : List Value) (y : DataW H × List MemPlace), DataW.trod enc P W 0 sp hd fuel t cs = some y → ∃ x : A, RIs (inW W) W true (ie x) cs ∧ (∀ u ∈ cs, u.oneCell' = true) ∧ wf x
section
variable {H : Type} {enc : TypeId × Value → H} {P : Program} {W : World} {sp : Nat → Bool} {hd : Bool} {t : TypeId}
theorem RIs_one {g : Gh} {w : World} {s : Bool} {c : IC} {x : Value} : RIs g w s [c] [x] ↔ RI g w s c x := by
  simp only [RIs]
  constructor
  · rintro ⟨x', xs, h, h1, rfl⟩; cases h; exact h1
  · intro h; exact ⟨x, [], rfl, h, rfl⟩
theorem came_int {k : IntKind} (ht : P.underlying t = some (.int k)) : Came enc P W sp hd t (fun n : Int => [IC.v (.int k n)]) (wfI k) := by
  intro fuel cs y h
  obtain ⟨n, rfl, _, hw⟩ := DataW.trod_int ht h
  exact ⟨n, RIs_one.2 (by simp only [RI]), by simp [Value.oneCell'], hw⟩
theorem RIs_rows {g : Gh} {w : World} {s : Bool} {A : Type} {ie : A → List IC} {z : Nat} (hz : ∀ x, (ie x).length = z) : ∀ (l : List A) (vs : List Value), vs.length = l.length * z → (∀ i, ∀ h : i < l.length, RIs g w s (ie l[i]) ((vs.drop (i * z)).take z)) → RIs g w s (List.flatten (List.map ie l)) vs
  | [], vs, hl, _ => by
    have : vs = [] := List.eq_nil_of_length_eq_zero (by simpa using hl)
    subst this
    simp [RIs]
  | x :: l, vs, hl, h => by
    have h0 := h 0 (by simp)
    simp only [List.getElem_cons_zero, Nat.zero_mul, List.drop_zero] at h0
    rw [List.map_cons, List.flatten_cons, ← List.take_append_drop z vs]
    refine RIs_append h0 (RIs_rows hz l _ ?_ fun i hi => ?_)
    · rw [List.length_drop, hl, List.length_cons, Nat.add_mul]; omega
    · have := h (i + 1) (by simpa using hi)
      simp only [List.getElem_cons_succ] at this
      rw [List.drop_drop]
      rwa [show z + i * z = (i + 1) * z by rw [Nat.add_mul]; omega]
theorem came_slice {e : TypeId} {A : Type} {ie : A → List IC} {wf : A → Prop} {z : Nat} (ht : P.underlying t = some (.slice e)) (hc : P.cellsOf e = z) (h0 : 0 < z) (hz : ∀ x, (ie x).length = z)
    (he : Came enc P W sp hd e ie wf) : Came enc P W sp hd t (fun l : List A => [IC.row z (List.flatten (List.map ie l))]) (wfL wf) := by
  intro fuel cs y h
  rcases DataW.trod_slice ht h with ⟨rfl, _⟩ | ⟨a, len, cap, elems, rest, n, _, rfl, _, hb, hl, hm, hlen, hel, _, _⟩
  · refine ⟨[], RIs_one.2 ?_, by simp [Value.oneCell'], by simp [wfL]⟩
    simp only [RI]
    exact ⟨[], none, 0, 0, ⟨rfl, Nat.le_refl _⟩, by simp, by simp, fun h => absurd rfl h, fun h => absurd rfl h, by simp [RIs]⟩
  · have each : ∀ i, i < len → ∃ (x : A) (ys : List Value), ys.length = z ∧ (∀ j, j < z → W.cell? (a.add (i * z + j)) = ys[j]?) ∧ RIs (inW W) W true (ie x) ys ∧ (∀ u ∈ ys, u.oneCell' = true) ∧ wf x := by
      intro i hi
      have h1 := hel i hi
      rw [List.getElem?_eq_getElem (by omega), hc] at h1
      obtain ⟨ys, hcs, hy⟩ := Option.bind_eq_some_iff.1 h1
      obtain ⟨_, hyl, hcell⟩ := World.cells?_some hcs
      obtain ⟨x, h2, h3, h4⟩ := he _ _ _ hy
      exact ⟨x, ys, hyl, fun j hj => by rw [← hcell j hj, Addr.add_add], h2, h3, h4⟩
    have build : ∀ k, k ≤ len → ∃ (l : List A) (vs : List Value), l.length = k ∧ vs.length = k * z ∧ (∀ j, j < k * z → W.cell? (a.add j) = vs[j]?) ∧ (∀ i, ∀ h : i < l.length, RIs (inW W) W true (ie l[i]) ((vs.drop (i * z)).take z)) ∧ (∀ u ∈ vs, u.oneCell' = true) ∧ ∀ x ∈ l, wf x := by
      intro k
      induction k with
      | zero => intro _; exact ⟨[], [], rfl, by simp, by simp, fun i h => by simp at h, by simp, by simp⟩
      | succ k ih =>
        intro hk
        obtain ⟨l, vs, h1, h2, h3, h4, h5, h6⟩ := ih (by omega)
        obtain ⟨x, ys, e1, e2, e3, e4, e5⟩ := each k (by omega)
        refine ⟨l ++ [x], vs ++ ys, by simp [h1], by rw [List.length_append, h2, e1, Nat.add_mul]; omega, ?_, ?_, ?_, ?_⟩
        · intro j hj
          by_cases hjk : j < k * z
          · rw [List.getElem?_append_left (by omega)]; exact h3 j hjk
          · rw [List.getElem?_append_right (by omega), h2, ← e2 (j - k * z) (by rw [Nat.add_mul] at hj; omega)]
            congr 2; omega
        · intro i hi
          by_cases hik : i < l.length
          · rw [List.getElem_append_left hik]
            have hle : (i + 1) * z ≤ k * z := Nat.mul_le_mul_right z (by omega)
            rw [Nat.add_mul] at hle
            rw [List.drop_append_of_le_length (by omega), List.take_append_of_le_length (by rw [List.length_drop]; omega)]
            exact h4 i hik
          · have : i = l.length := by simp at hi; omega
            subst this
            rw [List.getElem_concat_length rfl, h1, List.drop_append_of_le_length (by omega), List.drop_eq_nil_of_le (by omega), List.nil_append, List.take_of_length_le (by omega)]
            exact e3
        · intro u hu
          rcases List.mem_append.1 hu with h | h
          · exact h5 u h
          · exact e4 u h
        · intro u hu
          rcases List.mem_append.1 hu with h | h
          · exact h6 u h
          · rw [List.mem_singleton.1 h]; exact e5
    obtain ⟨l, vs, h1, h2, h3, h4, h5, h6⟩ := build len (Nat.le_refl _)
    refine ⟨l, RIs_one.2 ?_, by simp [Value.oneCell'], by omega, h6⟩
    simp only [RI]
    refine ⟨vs, some a, len, cap, ⟨rfl, hl⟩, h2, h5, fun _ => ⟨a, rfl, fun j u hu => ?_⟩, fun hne => ⟨a, rfl, .inr ?_⟩, RIs_rows hz l vs (by rw [h1, h2]) h4⟩
    · have hj := (List.getElem?_eq_some_iff.1 hu).1
      rw [h3 j (by omega)]; exact hu
    · have hpos : 0 < vs.length := List.length_pos_iff.2 hne
      have h0' := h3 0 (by omega)
      rw [List.getElem?_eq_getElem hpos] at h0'
      have := World.block_lt_of_cell? W _ h0'
      rwa [add_block] at this
theorem flat1 {A B : Type} (f : A → B) : ∀ l : List A, List.flatten (List.map (fun x => [f x]) l) = List.map f l
  | [] => rfl
  | x :: l => by simp [flat1 f l]
theorem came_row1 {e : TypeId} {A : Type} {f : A → Value} {wf : A → Prop} (ht : P.underlying t = some (.slice e)) (hc : P.cellsOf e = 1) (he : Came enc P W sp hd e (fun x => [IC.v (f x)]) wf) :
    Came enc P W sp hd t (fun l : List A => [IC.row 1 (List.map IC.v (List.map f l))]) (wfL wf) := by
  intro fuel cs y h
  obtain ⟨l, h1, h2, h3⟩ := came_slice ht hc (by omega) (fun _ => rfl) he fuel cs y h
  refine ⟨l, ?_, h2, h3⟩
  dsimp only at h1 ⊢
  rw [flat1 (fun x => IC.v (f x))] at h1
  rw [List.map_map]
  exact h1
theorem came_sl {A : Option Addr} {len cap : Nat} {ic : IC} {av : AV} (h : RIs (inW W) W true [ic] (Value.slice A len cap).cells.toList) (hi : IA true ic av) : R (inW W) V0 W av (.slice A len cap) [] :=
  IA_R hi (RIs_one.1 h)
theorem in_nil : Rs (inW W) V0 W [] [] [] := by simp [Rs]
theorem in_cons {c : AV} {cs : List AV} {x : Value} {xs : List Value} (h : R (inW W) V0 W c x []) (hs : Rs (inW W) V0 W cs xs []) : Rs (inW W) V0 W (c :: cs) (x :: xs) [] := by
  simp only [Rs]; exact ⟨x, xs, [], [], rfl, rfl, h, hs⟩
end
end Go.Abs
end
section
/-
  What is appended otherwise: a text's bytes; lengths of nil.
-/
namespace Go.Abs
def Apps (P : Program) (T U ty e : TypeId) (z by_ : Nat) (yv : Value) (m : Nat) (ys : List Value) : Prop :=
  ∀ (w : World) (v : Value) (n : Nat) (xs : List Value), w.ownsRow 0 e z v n xs → n + m ≤ maxLen → (n + m) * by_ ≤ 140737488355328 →
    ∃ v' w', (Builtin.append_ #[T, U] ty #[v, yv]).run P w = .ok v' w' ∧ w'.ownsRow 0 e z v' (n + m) (xs ++ ys) ∧ w.grownBy w' v.ownBlock ∧ (v'.ownBlock = v.ownBlock ∨ v'.ownBlock = some w.heap.size)
section
variable {P : Program} {ty : TypeId} {pos : String} {aft : Array Edge} {gd : Option (Nat × Bool)}
theorem op_appends_cell (N : List Ent) (d t i : Nat) {T U e t' T' : TypeId} (x y : Operand) {z by_ : Nat} {yv : Value} {cs : List AV} {xs ys : List Value} (n m : Nat) (hE : ElemT P T e z by_) (hx : dupOp N x = .same (.cell t i)) (hc : cs.getD i .any = .fl (.own e) z xs) (hic : i < cs.length)
    (hy : rd N y = .v yv) (hap : Apps P T U t' e z by_ yv m ys) (hn : xs.length = n * z) (h1y : ∀ u ∈ ys, u.oneCell' = true) (hb : (n + m) * by_ ≤ 140737488355328) (h63 : n + m ≤ maxLen) (hdt : d ≠ t) (hcl : clrs [.slot d] (cs.set i .any) = true) :
    LOp P ⟨some d, .call ⟨.builtin .append, #[x, y], #[T, U]⟩, t', pos, aft, gd⟩ N [(t, .box T' cs)] [(t, .box T' (cs.set i .any)), (d, .fl (.own e) z (xs ++ ys))] [.slot d] := by
  obtain ⟨ti, zv, hT, hi, hz, hs, hzc, h0, rfl⟩ := hE.ex
  refine LOp.core fun g V oN oT a w hd hp => ?_
  have hT' := hp.esT
  simp only [Es] at hT'
  obtain ⟨ob, o2, rfl, hER, rfl⟩ := hT'
  obtain ⟨hR, htie⟩ := hER
  have hax := dupOp_R hp.val hp.esN x
  rw [hx] at hax
  simp only [R] at hax hR
  obtain ⟨b, cur, os, hpt, rfl, hh, hrs⟩ := hR
  dsimp only at htie
  obtain ⟨o1, o3, hperm, hRi, hrest⟩ := Rs_setAny i hrs hic
  rw [hc] at hRi
  have hlen := Rs_length hrs
  have hcell := htie b hpt i hic
  rw [cell_of_row w b i _ T' (0, 0) hh] at hcell
  have hil : i < cur.length := by omega
  have hVc : V (.cell t i) = cur.getD i undef := by
    simp only [List.getElem?_toArray, List.getElem?_eq_getElem hil, Option.some.injEq] at hcell
    rw [← hcell]; simp [hil]
  obtain ⟨u0, hu0⟩ : ∃ u, u = cur.getD i undef := ⟨_, rfl⟩
  rw [← hu0] at hVc hRi
  simp only [R] at hRi
  obtain ⟨a0, n0, c0, ⟨h3, _⟩, hl0, hone0, _, hown, hob⟩ := hRi
  have he := rd_v hp.val hp.esN hy
  have hone := h1y
  have en : n0 = n := Nat.eq_of_mul_eq_mul_right h0 (by omega)
  subst en
  obtain ⟨v', w', hrun, hown', hg, hblk⟩ := hap w _ _ _ hown h63 (by simpa using hb)
  have hrun' : (execOp a.eval ⟨some d, .call ⟨.builtin .append, #[x, y], #[T, U]⟩, t', pos, aft, gd⟩).run P w = .ok (.value v') w' := by
    have h4 : a.eval x = u0 := by rw [hax.1, hVc]
    simp [execOp, resolve, invoke, builtin, he, h4, hrun]
  refine (Yl.val hrun').mono ?_
  rintro v w2 ⟨rfl, rfl⟩
  have hlt : d < g.n := hd d rfl
  have hchg : Chg o1 w w2 := by rw [hob]; exact Chg.of_grown hg
  have hin1 : ∀ c, c ∈ o1 → c ∈ b :: os := fun c hc' => by have := hperm.mem_iff.2 (List.mem_append.2 (.inl hc')); simp [this]
  have hin3 : ∀ c, c ∈ o3 → c ∈ b :: os := fun c hc' => by have := hperm.mem_iff.2 (List.mem_append.2 (.inr hc')); simp [this]
  have hinb : ∀ c, c ∈ b :: o3 → c ∈ b :: os := by
    intro c hc'
    rcases List.mem_cons.1 hc' with h | h
    · simp [h]
    · exact hin3 c h
  have hnd2 : (b :: os).Nodup := by have := (List.nodup_append.1 hp.nodup).2.1; simpa using this
  have hnd3 : (b :: (o1 ++ o3)).Nodup := ((hperm.cons b).nodup_iff).1 hnd2
  have hlts : ∀ c, c ∈ b :: os → c < w.heap.size ∧ ¬ g.imm c := fun c hc' => hp.own c (by simp at hc' ⊢; exact .inr hc')
  have hkeep : ∀ c, c ∈ b :: o3 ∨ g.imm c → w2.heap[c]? = w.heap[c]? := by
    intro c hc'
    rcases hc' with hc' | hc'
    · refine hchg.block c (hlts c (hinb c hc')).1 fun h1 => ?_
      simp only [List.nodup_cons, List.mem_append, List.nodup_append] at hnd3
      rcases List.mem_cons.1 hc' with rfl | h3
      · exact hnd3.1 (.inl h1)
      · exact hnd3.2.2.2 c h1 c h3 rfl
    · exact hchg.block c (hp.imm c hc') fun h1 => (hlts c (hin1 c h1)).2 hc'
  have hdtl : ∀ l, hit [.slot d] l = false → setV V d v l = V l := fun l hl => setV_hit hl
  refine ⟨g, setV V d v, (b :: o3) ++ v.ownBlock.toList, g.le_refl, fun b hb => .inl hb, fun b hb => Nat.lt_of_lt_of_le (hp.imm b (.inl hb)) hchg.size, ?_, hdtl, fun u => setV_val hp.val hp.size hlt u, ?_, ?_, ?_⟩
  · exact hchg.mono fun c hc' => by simpa using hin1 c hc'
  · have hVt : setV V d v (.slot t) = V (.slot t) := by simp only [setV]; rw [if_neg fun e => hdt e.symm]
    have hVtc : ∀ j, setV V d v (.cell t j) = V (.cell t j) := fun j => rfl
    refine ⟨b :: o3, v.ownBlock.toList, rfl, ⟨?_, ?_⟩, v.ownBlock.toList, [], by simp, ⟨?_, trivial⟩, rfl⟩
    · show R g _ _ (.box T' _) (setV V d v (.slot t)) _
      rw [hVt]
      simp only [R]
      refine ⟨b, cur, o3, hpt, rfl, by rw [hkeep b (.inl (by simp))]; exact hh, ?_⟩
      exact Rs_stab (W := [.slot d]) (fun _ h => h) (fun _ h => h) hdtl _ _ _ hcl (fun c hc' => hkeep c (hc'.imp (fun h => by simp [h]) id)) hrest
    · intro b' hb' j hj
      rw [hVt] at hb'
      rw [hVtc]
      rw [World.cell?_of_block (w := w) (by
        rw [hpt] at hb'; cases hb'
        exact hkeep b (.inl (by simp)))]
      exact htie b' hb' j (by simpa using hj)
    · show R g _ _ _ (setV V d v (.slot d)) _
      rw [setV_slot]
      refine own_fl hown' fun u hu => ?_
      rcases List.mem_append.1 hu with h | h
      · exact hone0 u h
      · exact hone u h
  · refine List.nodup_append.2 ⟨?_, by cases v.ownBlock <;> simp, ?_⟩
    · have : (o1 ++ (b :: o3)).Nodup := (List.perm_middle.nodup_iff).2 hnd3
      exact (List.nodup_append.1 this).2.1
    · intro c hc' c2 hc2 e
      subst e
      have hvb : v.ownBlock = some c := by cases hv : v.ownBlock <;> simp [hv] at hc2 ⊢; exact hc2.symm
      rcases hblk with h | h
      · have hin : c ∈ o1 := by rw [hob, ← h, hvb]; simp
        simp only [List.nodup_cons, List.mem_append, List.nodup_append] at hnd3
        rcases List.mem_cons.1 hc' with rfl | h3
        · exact hnd3.1 (.inl hin)
        · exact hnd3.2.2.2 c hin c h3 rfl
      · rw [hvb] at h
        cases h
        have := (hlts w.heap.size (hinb _ hc')).1
        omega
  · intro c hc'
    rcases List.mem_append.1 hc' with hc' | hc'
    · have h4 : c ∈ b :: os := hinb c hc'
      exact ⟨.inl (by simpa using h4), Nat.lt_of_lt_of_le (hlts c h4).1 hchg.size, (hlts c h4).2⟩
    · have hvb : v.ownBlock = some c := by cases hv : v.ownBlock <;> simp [hv] at hc' ⊢; exact hc'.symm
      have hlt2 := (hown'.lt c hvb).2
      rcases hblk with h | h
      · have hin : c ∈ o1 := by rw [hob, ← h, hvb]; simp
        exact ⟨.inl (by simpa using hin1 c hin), hlt2, (hlts c (hin1 c hin)).2⟩
      · rw [hvb] at h
        cases h
        exact ⟨.inr (Nat.le_refl _), hlt2, fun hi => Nat.lt_irrefl _ (hp.imm _ hi)⟩
theorem apps_str {t u ty e : TypeId} {i : TypeInfo} {s : ByteArray} (ht : P.underlying t = some (.slice e)) (hu : P.underlying u = some .string) (hi : P.info? e = some i) (hz : i.zero = some (.int .u8 0)) (hsize : i.size = 1) (hby : i.bytes = 1) :
    Apps P t u ty e 1 1 (.string s) s.size (Lib.strCells s) := by
  intro w v n xs hown h63 hbytes
  have hbase : 0 ≤ w.heap.size := Nat.zero_le _
  have hsmall : n + s.size ≤ 9223372036854775807 := by simp only [maxLen] at h63; omega
  have hxl : xs.length = n := by simpa using hown.1
  have hlen : (xs ++ Lib.strCells s).length = (n + s.size) * 1 := by rw [List.length_append, hxl, Lib.strCells_length, Nat.mul_one]
  have grown : ∀ (old : Nat), old < n + s.size → ∀ (row : Option Nat),
      (w.drew.alloc (.cells (xs.toArray ++ (Lib.strCells s).toArray ++ Builtin.zeroCells (Value.int .u8 0).cells (grownCap w (n + s.size) old e - (n + s.size))) e)).ownsRow 0 e 1
        (.slice (some ⟨w.heap.size, 0, none⟩) (n + s.size) (grownCap w (n + s.size) old e)) (n + s.size) (xs ++ Lib.strCells s) ∧
      w.grownBy (w.drew.alloc (.cells (xs.toArray ++ (Lib.strCells s).toArray ++ Builtin.zeroCells (Value.int .u8 0).cells (grownCap w (n + s.size) old e - (n + s.size))) e)) row := by
    intro old ho row
    have hge := grownCap_ge w (n + s.size) old e
    have hcm : grownCap w (n + s.size) old e ≤ maxLen := grownCap_le_maxLen w (n + s.size) old e h63
    refine ⟨⟨hlen, .inr ⟨w.heap.size, _, _, rfl, hbase, heap_alloc_new w.drew _, hge, hcm, ?_, ?_⟩⟩, ⟨rfl, rfl, rfl, by simp, fun k hk _ => heap_alloc_old w.drew _ k hk⟩⟩
    · have hz1 : (Value.int IntKind.u8 0).cells.size = 1 := rfl
      simp only [Array.size_append, List.size_toArray, size_zeroCells, hz1, hxl, Lib.strCells_length]
      omega
    · simp only [Array.toList_append, List.append_assoc]
      rw [← List.append_assoc, ← hlen]
      exact List.take_left
  rcases hown.2 with ⟨rfl, rfl⟩ | ⟨g, cap, cur, rfl, hbg, hg, hnc, hcm, hcs, htake⟩
  · have hx : xs = [] := List.eq_nil_of_length_eq_zero hxl
    subst hx
    by_cases hm : s.size = 0
    · have hn : Lib.strCells s = [] := List.eq_nil_of_length_eq_zero (by rw [Lib.strCells_length]; exact hm)
      refine ⟨.slice none 0 0, w, ?_, by rw [hm, hn]; exact World.ownsRow_nil w 0 e 1, ⟨rfl, rfl, rfl, Nat.le_refl _, fun _ _ _ => rfl⟩, .inl rfl⟩
      have hf := Lib.run_firstCells_string (P := P) w 1 s
      rw [hm] at hf
      simp [Builtin.append_, run_underlying ht, run_underlying hu, sizeOf, typeInfo, hi, hsize, Builtin.lenOf, hm, hf]
    · have hr := run_append_nil_string (P := P) w t u ty e i (.int .u8 0) ht hu hi hz s (by omega) (by omega) (by rw [hby]; omega)
      have hgr := grown 0 (by omega) (Value.ownBlock (.slice none 0 0))
      simp only [Nat.zero_add, List.nil_append, Array.empty_append] at hgr ⊢
      have e1 : (s.data.map fun b => Value.int .u8 b.toNat) = (Lib.strCells s).toArray := by
        apply Array.ext'
        simp [Lib.strCells]
      rw [e1] at hr
      exact ⟨_, _, hr, hgr.1, hgr.2, .inr rfl⟩
  · by_cases hroom : n + s.size ≤ cap
    · have hcs' : cur.size = cap := by simpa using hcs
      have hr := Lib.run_append_room_string (P := P) w t u ty e i ht hu hi hsize g n cap cur hg s hroom (by omega)
      refine ⟨_, _, hr, ⟨hlen, .inr ⟨g, cap, _, rfl, hbg, setRow_heap w g cur _ e _ hg, hroom, hcm, ?_, ?_⟩⟩, ⟨rfl, rfl, rfl, by simp, fun k _ hk => setRow_other w g k _ (fun e => hk (by simp [Value.ownBlock, e]))⟩, .inl rfl⟩
      · simp only [List.size_toArray, List.length_append, List.length_take, List.length_drop, Array.length_toList, Lib.strCells_length]
        omega
      · have ht' : cur.toList.take n = xs := by simpa using htake
        rw [ht', ← hlen]
        exact List.take_left
    · have holds : ∀ j u, xs[j]? = some u → w.cell? ((⟨g, 0, none⟩ : Addr).add j) = some u := hown.cells (g := g) rfl
      have hr := Lib.run_append_grow_string (P := P) w t u ty e i (.int .u8 0) ht hu hi hz ⟨g, 0, none⟩ n cap xs (by rw [hsize]; simpa using hxl) holds s (by omega) (by omega) (by rw [hby]; exact growslice_fits (by omega) (by omega))
      have hgr := grown cap (by omega) (Value.ownBlock (.slice (some ⟨g, 0, none⟩) n cap))
      exact ⟨_, _, hr, hgr.1, hgr.2, .inr rfl⟩
theorem sbytes_vals (s : ByteArray) : List.map (Value.int .u8) (sbytes s) = Lib.strCells s := by
  simp [sbytes, Lib.strCells]
theorem sbytes_len (s : ByteArray) : (sbytes s).length = s.size := by simp [sbytes]
theorem ElemT.str {t u ty e : TypeId} {s : ByteArray} (hE : ElemT P t e 1 1) (hz : (P.info? e).bind (·.zero) = some (.int .u8 0)) (hu : P.underlying u = some .string) : Apps P t u ty e 1 1 (.string s) s.size (Lib.strCells s) := by
  obtain ⟨i, zv, hT, hi, _, hs, _, _, hb⟩ := hE.ex
  rw [hi] at hz
  exact apps_str hT hu hi hz hs hb
theorem op_apps_cell (N : List Ent) (d t i : Nat) {T U e t' T' : TypeId} (x y : Operand) {s : ByteArray} {l q : List Int} {cs cs' : List AV} {xs zs : List Value} (hE : ElemT P T e 1 1) (hz : (P.info? e).bind (·.zero) = some (.int .u8 0)) (hu : P.underlying U = some .string) (hx : dupOp N x = .same (.cell t i)) (hc : cs.getD i .any = .fl (.own e) 1 xs) (hic : i < cs.length) (hy : rd N y = .v (.string s))
    (hl : l.map (Value.int .u8) = xs) (hq : appO 1 l (sbytes s) = some q) (hzs : q.map (Value.int .u8) = zs) (hdt : d ≠ t) (hcs : cs.set i .any = cs') (hcl : clrs [.slot d] cs' = true) :
    LOp P ⟨some d, .call ⟨.builtin .append, #[x, y], #[T, U]⟩, t', pos, aft, gd⟩ N [(t, .box T' cs)] [(t, .box T' cs'), (d, .fl (.own e) 1 zs)] [.slot d] := by
  subst hzs hl hcs
  unfold appO at hq
  split at hq
  · rename_i h
    cases hq
    rw [List.map_append, sbytes_vals]
    simp only [sbytes_len, Nat.mul_one] at h
    exact op_appends_cell N d t i x y l.length s.size hE hx hc hic hy (hE.str hz hu) (by simp) (Lib.strCells_oneCell s) (by omega) (by simp only [maxLen]; omega) hdt hcl
  · cases hq
end
end Go.Abs
end
section
/-
  A variable is stored into itself.
-/
namespace Go.Abs
inductive Selfs (t : Nat) : Nat → List AV → List AV → Prop
  | nil (i : Nat) : Selfs t i [] []
  | same {i : Nat} {ds cs : List AV} (c : AV) (h : Selfs t (i + 1) ds cs) : Selfs t i (.same (.cell t i) :: ds) (c :: cs)
  | eq {i : Nat} {ds cs : List AV} (c : AV) (h : Selfs t (i + 1) ds cs) : Selfs t i (c :: ds) (c :: cs)
section
variable {P : Program} {ty : TypeId} {pos : String} {aft : Array Edge} {gd : Option (Nat × Bool)}
end
end Go.Abs
end
