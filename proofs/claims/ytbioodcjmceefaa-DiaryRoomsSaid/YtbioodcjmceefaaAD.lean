/-
  The rules of code; loops after a function of Lean; functions.
-/
import Derived.Test.YtbioodcjmceefaaAC
namespace Go.Abs

/-- A loop's outcome, by a step told in Lean: on, or out. -/
def loopF {S O : Type} (step : S → Option (S ⊕ O)) : Nat → S → Option O
  | 0, _ => none
  | n + 1, s => match step s with
    | none => none
    | some (.inr o) => some o
    | some (.inl s') => loopF step n s'

section
variable {P : Program} {Q : Exit → Act → World → Prop} {g0 : Gh}

def HT (P : Program) (Q : Exit → Act → World → Prop) (g0 : Gh) (c : Code) (es : List Ent) : Prop := ∀ (g : Gh) (a : Act) (w : World), g0.le g → Sat g es a w → c.wp P Q a w
def PT (Q : Exit → Act → World → Prop) (g0 : Gh) (e : Exit) (es : List Ent) : Prop := ∀ (g : Gh) (a : Act) (w : World), g0.le g → Sat g es a w → Q e a w

theorem ht_seq {x y : Code} {es : List Ent} (h : HT P (Exit.then (y.wp P Q) Q) g0 x es) : HT P Q g0 (.seq x y) es := fun g a w hg hs => wp_seq (h g a w hg hs)
theorem pt_then {y : Code} {es : List Ent} (h : HT P Q g0 y es) : PT (Exit.then (y.wp P Q) Q) g0 .normal es := h
theorem ht_skip {es : List Ent} (h : PT Q g0 .normal es) : HT P Q g0 .skip es := fun g a w hg hs => wp_skip (h g a w hg hs)
theorem ht_ret {es : List Ent} (h : PT Q g0 .ret es) : HT P Q g0 .ret es := fun g a w hg hs => wp_ret (h g a w hg hs)
theorem ht_exit {id : Nat} {es : List Ent} (h : PT Q g0 (.exit id) es) : HT P Q g0 (.exit id) es := fun g a w hg hs => wp_exit (h g a w hg hs)
theorem ht_block {id : Nat} {c : Code} {es : List Ent} (h : HT P (Exit.inBlock id Q) g0 c es) : HT P Q g0 (.block id c) es := fun g a w hg hs => wp_block (h g a w hg hs)
theorem ht_cond {c : Operand} {x y : Code} {es : List Ent} (b : Bool) (hc : rd es c = .v (.bool b)) (ht : b = true → HT P Q g0 x es) (hf : b = false → HT P Q g0 y es) : HT P Q g0 (.cond c x y) es := by
  intro g a w hg hs
  have he : a.eval c = .bool b := by
    obtain ⟨V, o, hst, hes⟩ := hs
    exact rd_v hst.val hes hc
  exact wp_cond_split he (fun h => ht h g a w hg hs) (fun h => hf h g a w hg hs)

def OpG (P : Program) (ops : Array Oper) (o : Oper) (N T G : List Ent) (W : List Loc) : Prop := ∀ i : Nat, ops[i]? = some o → LOpG P ops i N T G W
def StepsM (P : Program) (ops : Array Oper) (E : Nat → Ent) : List Oper → List Sp → Prop
  | [], [] => True
  | o :: os, s :: r => OpG P ops o (s.N.map E) (s.T.map E) (s.G.map E) s.W ∧ StepsM P ops E os r
  | _, _ => False
theorem StepsM_L {ops : Array Oper} {E : Nat → Ent} : ∀ (os : List Oper) (sps : List Sp) (k : Nat), (∀ j o, os[j]? = some o → ops[k + j]? = some o) → StepsM P ops E os sps → StepsL P ops E k sps
  | [], [], _, _, _ => trivial
  | [], _ :: _, _, _, h => h.elim
  | _ :: _, [], _, _, h => h.elim
  | o :: os, s :: r, k, hk, h => ⟨h.1 k (hk 0 o rfl), StepsM_L os r (k + 1) (fun j o' hj => by rw [show k + 1 + j = k + (j + 1) by omega]; exact hk (j + 1) o' (by simpa using hj)) h.2⟩
theorem StepsM_to {l : List Oper} {E : Nat → Ent} {sps : List Sp} (h : StepsM P l.toArray E l sps) : StepsL P l.toArray E 0 sps :=
  StepsM_L l sps 0 (fun j o hj => by simpa using hj) h
theorem st_plain {ops : Array Oper} {o : Oper} {N T G : List Ent} {W : List Loc} (hg : o.guard = none) (h : LOp P o N T G W) : OpG P ops o N T G W := fun _ ho => .plain ho hg h
theorem st_run {ops : Array Oper} {o : Oper} {N T G : List Ent} {W : List Loc} (j d : Nat) (want : Bool) {oj : Oper} (hg : o.guard = some (j, want)) (hj : ops[j]? = some oj) (hd : oj.dst = some d) (hN : (d, AV.v (.bool want)) ∈ N) (h : LOp P o N T G W) : OpG P ops o N T G W :=
  fun _ ho => .run j d want oj ho hg hj hd hN h
theorem st_skip {ops : Array Oper} {o : Oper} {N : List Ent} (j d dd : Nat) (want : Bool) {oj : Oper} (hg : o.guard = some (j, want)) (hj : ops[j]? = some oj) (hd : oj.dst = some d) (hdd : o.dst = some dd) (hN : (d, AV.v (.bool (!want))) ∈ N) : OpG P ops o N [] [(dd, .v undef)] [.slot dd] :=
  fun _ ho => .skip j d dd want oj ho hg hj hd hdd hN
theorem st_skipU {ops : Array Oper} {o : Oper} {N : List Ent} (j d dd : Nat) (want : Bool) {oj : Oper} (hg : o.guard = some (j, want)) (hj : ops[j]? = some oj) (hd : oj.dst = some d) (hdd : o.dst = some dd) (hN : (d, AV.v undef) ∈ N) : OpG P ops o N [] [(dd, .v undef)] [.slot dd] :=
  fun _ ho => .skipU j d dd want oj ho hg hj hd hdd hN

theorem ht_seqR {id : Nat} {l : List Oper} {n : Nat} {El es es' : List Ent} {init fin : List Nat} {sps : List Sp} (hn : g0.n = n) (hc : seqOk n l El init sps fin = true) (h1 : init.map (tagE El) = es) (h2 : fin.map (tagE El) = es')
    (hst : StepsM P l.toArray (tagE El) l sps) (hQ : PT Q g0 .normal es') : HT P Q g0 (.region id l.toArray false) es := by
  intro g a w hg hs
  subst h1 h2
  exact region_seq (by rw [hg.n]; exact hn) hc (StepsM_to hst) hs fun g' a' w' hle hs' => hQ g' a' w' (hg.trans hle) hs'
theorem ht_anyR {id : Nat} {l : List Oper} {n : Nat} {El es es' : List Ent} {init fin : List Nat} {sps : List Sp} (hm : P.follows .mixedOrders = true) (hn : g0.n = n) (hc : anyOk n l El init sps fin = true) (h1 : init.map (tagE El) = es) (h2 : fin.map (tagE El) = es')
    (hst : StepsM P l.toArray (tagE El) l sps) (hQ : PT Q g0 .normal es') : HT P Q g0 (.region id l.toArray true) es := by
  intro g a w hg hs
  subst h1 h2
  exact region_any hm (by rw [hg.n]; exact hn) hc (StepsM_to hst) hs fun g' a' w' hle hs' => hQ g' a' w' (hg.trans hle) hs'

theorem map_tagE (es : List Ent) : (List.range es.length).map (tagE es) = es := by
  apply List.ext_getElem?
  intro i
  simp only [List.getElem?_map]
  by_cases h : i < es.length
  · rw [List.getElem?_range h]
    simp [tagE, h]
  · rw [List.getElem?_eq_none (by simpa using Nat.le_of_not_lt h), List.getElem?_eq_none (Nat.le_of_not_lt h)]; rfl

/-- Of the entries some are kept. -/
theorem Sat.pick {g : Gh} {es es' : List Ent} {a : Act} {w : World} (idx : List Nat) (hok : (nodupN idx && idx.all fun i => Nat.blt i es.length) = true) (he : idx.map (tagE es) = es') (h : Sat g es a w) : Sat g es' a w := by
  rw [Bool.and_eq_true] at hok
  subst he
  have h' : Sat g ((List.range es.length).map (tagE es)) a w := by rw [map_tagE]; exact h
  exact h'.ofSub List.nodup_range (nodupN_iff hok.1) fun e hm => List.mem_range.2 (nblt.1 (List.all_eq_true.1 hok.2 e hm))
theorem ht_pick {c : Code} {es es' : List Ent} (idx : List Nat) (hok : (nodupN idx && idx.all fun i => Nat.blt i es.length) = true) (he : idx.map (tagE es) = es') (h : HT P Q g0 c es') : HT P Q g0 c es :=
  fun g a w hg hs => h g a w hg (hs.pick idx hok he)
theorem pt_pick {e : Exit} {es es' : List Ent} (idx : List Nat) (hok : (nodupN idx && idx.all fun i => Nat.blt i es.length) = true) (he : idx.map (tagE es) = es') (h : PT Q g0 e es') : PT Q g0 e es :=
  fun g a w hg hs => h g a w hg (hs.pick idx hok he)

theorem wp_loopN {c : Code} (J : Nat → Act → World → Prop) (round : ∀ n a w, J n a w → c.wp P (Exit.then (fun a' w' => ∃ m, m < n ∧ J m a' w') Q) a w) (n : Nat) (a : Act) (w : World) (h : J n a w) : (Code.loop c).wp P Q a w := by
  intro b k cs
  have key : ∀ n a w, J n a w → ∃ e a' w', Q e a' w' ∧ Arrives P (lone (b.at a (.code c :: .inLoop c :: k)) cs w) b k cs e a' w' := by
    intro n
    induction n using Nat.strongRecOn with
    | _ n ih =>
      intro a w hI
      obtain ⟨e, a₁, w₁, hq, harr⟩ := round n a w hI b (.inLoop c :: k) cs
      cases e with
      | normal =>
        obtain ⟨m, hm, hI₁⟩ := hq
        obtain ⟨e₂, a₂, w₂, hq₂, harr₂⟩ := ih m hm a₁ w₁ hI₁
        exact ⟨e₂, a₂, w₂, hq₂, .of_steps (Steps.trans harr (.one step_inLoop)) harr₂⟩
      | exit id => exact ⟨_, a₁, w₁, hq, .pass (x := .inLoop c) rfl (fun _ _ => .inl (by simp)) harr⟩
      | goto l => exact ⟨_, a₁, w₁, hq, .pass (x := .inLoop c) rfl (fun _ _ => .inl (by simp)) harr⟩
      | ret => exact ⟨_, a₁, w₁, hq, .pass (x := .inLoop c) rfl (fun _ _ => .inl (by simp)) harr⟩
      | panic ch => exact ⟨_, a₁, w₁, hq, .pass (x := .inLoop c) rfl (fun _ _ => .inl (by simp)) harr⟩
      | outgrown => exact ⟨_, a₁, w₁, hq, .pass (x := .inLoop c) rfl (fun _ _ => .inl (by simp)) harr⟩
  obtain ⟨e, a', w', hq, harr⟩ := key n a w h
  exact ⟨e, a', w', hq, .of_steps (.one step_loop) harr⟩

/-- A loop, after its step told in Lean. -/
theorem ht_loop {S O : Type} {step : S → Option (S ⊕ O)} {c : Code} (I : S → List Ent) (fuel : Nat) (s : S) (out : O) (h : loopF step fuel s = some out)
    (round : ∀ (s : S) (r : S ⊕ O), step s = some r → (∀ o, r = .inr o → o = out) → HT P (Exit.then (fun a w => ∃ s' g, r = .inl s' ∧ g0.le g ∧ Sat g (I s') a w) Q) g0 c (I s)) : HT P Q g0 (.loop c) (I s) := by
  intro g a w hg hs
  refine wp_loopN (fun n a w => ∃ s g, loopF step n s = some out ∧ g0.le g ∧ Sat g (I s) a w) ?_ fuel a w ⟨s, g, h, hg, hs⟩
  rintro n a w ⟨s, g, hl, hg, hs⟩
  cases n with
  | zero => simp [loopF] at hl
  | succ n =>
    simp only [loopF] at hl
    cases hst : step s with
    | none => simp [hst] at hl
    | some r =>
      have hr := round s r hst (fun o ho => by subst ho; simpa [hst] using hl) g a w hg hs
      refine wp_mono hr ?_
      intro e a' w' hq
      cases e with
      | normal =>
        obtain ⟨s', g', rfl, hg', hs'⟩ := hq
        simp only [hst] at hl
        exact ⟨n, Nat.lt_succ_self n, s', g', hl, hg', hs'⟩
      | exit id => exact hq
      | goto l => exact hq
      | ret => exact hq
      | panic ch => exact hq
      | outgrown => exact hq

theorem pt_next {S O : Type} {r : S ⊕ O} {I : S → List Ent} {es : List Ent} (s' : S) (hr : r = .inl s') (he : I s' = es) : PT (Exit.then (fun a w => ∃ s' g, r = .inl s' ∧ g0.le g ∧ Sat g (I s') a w) Q) g0 .normal es := by
  intro g a w hg hs
  subst he
  exact ⟨s', g, hr, hg, hs⟩

def argEnts (args : List AV) : List Ent := args.zipIdx.map fun p => (p.2, p.1)

theorem Es_args {g : Gh} {V : Loc → Value} {w : World} (hV : ∀ av x o, closed av = true → R g V0 w av x o → R g V w av x o) : ∀ (args : List AV) (xs : List Value) (k : Nat), closeds args = true → args.all noBox = true → Rs g V0 w args xs [] → (∀ i x, xs[i]? = some x → V (.slot (k + i)) = x) →
    Es g V w ((args.zipIdx k).map fun p => (p.2, p.1)) []
  | [], xs, k, _, _, _, _ => rfl
  | av :: args, xs, k, hc, hb, h, hv => by
    simp only [Rs] at h
    obtain ⟨x, xs', o1, o2, rfl, ho, h1, h2⟩ := h
    obtain ⟨rfl, rfl⟩ := List.append_eq_nil_iff.1 ho.symm
    simp only [closeds, Bool.and_eq_true] at hc
    simp only [List.all_cons, Bool.and_eq_true] at hb
    simp only [List.zipIdx_cons, List.map_cons]
    have h0 : V (.slot k) = x := by simpa using hv 0 x rfl
    refine ⟨[], [], rfl, ⟨?_, ?_⟩, Es_args hV args xs' (k + 1) hc.2 hb.2 h2 fun i y hy => ?_⟩
    · show R g V w av (V (.slot k)) []
      rw [h0]; exact hV av x [] hc.1 h1
    · cases av <;> first | trivial | (simp [noBox] at hb)
    · have := hv (i + 1) y (by simpa using hy)
      rwa [show k + 1 + i = k + (i + 1) by omega]

/-- A function keeps its word, if its body does. -/
theorem fn_ok {f : FuncId} {fn : Func} {c : Code} {args : List AV} {res : AV} (hf : P.funcs[f]? = some fn) (hb : fn.body = some c) (hk : args.length ≤ fn.ntmps) (hcl : closeds args = true) (hnb : args.all noBox = true)
    (h : ∀ g0 : Gh, g0.n = fn.ntmps → g0.io = [] → HT P (FnQ P fn g0.Imm g0.Im g0.w0 res) g0 c (argEnts args)) : FnOK P f args res := by
  intro Imm Im w xs himm hR
  have hlen := Rs_length hR
  refine calls_of_wp hf hb ?_
  have hg := h ⟨fn.ntmps, w, [], Imm, Im⟩ rfl rfl ⟨fn.ntmps, w, [], Imm, Im⟩ { tmps := xs.toArray ++ Array.replicate (fn.ntmps - xs.toArray.size) undef, defers := [] } w (Gh.le_refl _)
  refine hg ⟨fun l => match l with | .slot t => (xs.toArray ++ Array.replicate (fn.ntmps - xs.toArray.size) undef).getD t undef | .cell _ _ => undef, [], ⟨fun _ => rfl, ?_, rfl, List.nodup_nil, by simp, himm, Chg.refl _ _⟩, ?_⟩
  · simp; omega
  · unfold argEnts
    refine Es_args (g := ⟨fn.ntmps, w, [], Imm, Im⟩) (fun av x o hc hr => R_closed (fun _ h => h) av x o hc (.inl fun _ h => h) hr) args xs 0 hcl hnb ?_ ?_
    · exact Rs_closed (g := gh0 w Imm Im) (g' := ⟨fn.ntmps, w, [], Imm, Im⟩) (V := V0) (V' := V0) (fun _ h => h) args xs [] hcl (.inl fun _ h => h) hR
    · intro i x hx
      have hi := (List.getElem?_eq_some_iff.1 hx).1
      simp only [Nat.zero_add, Array.getD_eq_getD_getElem?]
      rw [Array.getElem?_append_left (by simpa using hi)]
      simp [hx]

theorem pt_ret {fn : Func} {Imm : Nat → Prop} {es : List Ent} {avs : List AV} {res : AV} (hio : g0.io = []) (hI : g0.Imm = Imm) (hret : RetL P fn.results.toList es avs) (hcl : closeds avs = true) (hres : resAV avs = res) : PT (FnQ P fn Imm g0.Im g0.w0 res) g0 .ret es := by
  subst hres
  exact fun g a w hg hs => (ret_ok hio hI hg hret hcl hs).1
theorem pt_end {fn : Func} {Imm : Nat → Prop} {es : List Ent} {avs : List AV} {res : AV} (hio : g0.io = []) (hI : g0.Imm = Imm) (hret : RetL P fn.results.toList es avs) (hcl : closeds avs = true) (hres : resAV avs = res) : PT (FnQ P fn Imm g0.Im g0.w0 res) g0 .normal es := by
  subst hres
  exact fun g a w hg hs => (ret_ok hio hI hg hret hcl hs).2

mutual
/-- All rows of its own, frozen. -/
def frz : AV → AV
  | .any => .any
  | .v x => .v x
  | .fl (.own _) z xs => .fl .ro z xs
  | .fl m z xs => .fl m z xs
  | .agg cs => .agg (frzs cs)
  | .tup cs => .tup (frzs cs)
  | .box T cs => .box T (frzs cs)
  | .same l => .same l
  | .ptr t i => .ptr t i
  | .eref l k => .eref l k
  | .cut l k => .cut l k
  | .arr T vs => .arr T vs
  | .glob gl => .glob gl
  | .obox p T cs => .obox p T (frzs cs)
  | .clo f ts => .clo f ts
  | .fr (.own _) s z xs => .fr .ro s z xs
  | .fr m s z xs => .fr m s z xs
def frzs : List AV → List AV
  | [] => []
  | c :: cs => frz c :: frzs cs
end
theorem frzs_length : ∀ (cs : List AV), (frzs cs).length = cs.length
  | [] => by simp [frzs]
  | c :: cs => by simp [frzs, frzs_length cs]
theorem perm4 {a b c d a' c' : List Nat} (h1 : a.Perm (a' ++ b)) (h2 : c.Perm (c' ++ d)) : (a ++ c).Perm ((a' ++ c') ++ (b ++ d)) := by
  rw [List.perm_iff_count] at *
  intro x
  have := h1 x
  have := h2 x
  simp only [List.count_append] at *
  omega
mutual
theorem R_frz {g : Gh} {V : Loc → Value} {w : World} : ∀ (av : AV) (x : Value) (o : List Nat), R g V w av x o → ∃ o' o2 : List Nat, o.Perm (o' ++ o2) ∧ ∀ g' : Gh, (∀ b, g.Imm b → g'.Imm b) → (∀ b, g.Im b → g'.Im b) → (∀ b ∈ o2, g'.Imm b) → R g' V w (frz av) x o'
  | .any, x, o, h => ⟨o, [], by simp, fun g' _ _ _ => by simp only [frz, R] at *; exact h⟩
  | .v y, x, o, h => ⟨o, [], by simp, fun g' _ _ _ => by simp only [frz, R] at *; exact h⟩
  | .fl (.own T) z xs, x, o, h => ⟨[], o, by simp, fun g' hI hM h2 => by
      simp only [frz, R, modeOk] at *
      obtain ⟨a, n, c, h1, h3, h4, h5, h6, h7⟩ := h
      refine ⟨a, n, c, h1, h3, h4, h5, trivial, fun hne => ?_⟩
      obtain ⟨ad, rfl, _⟩ := h5 hne
      exact ⟨ad, rfl, h2 _ (by rw [h7, h1.1]; simp [Value.ownBlock])⟩⟩
  | .fl .ro z xs, x, o, h => ⟨o, [], by simp, fun g' hI hM _ => R_stab (W := []) hI hM (fun _ _ => rfl) (.fl .ro z xs) x o (clr_nil _) (fun _ _ => rfl) h⟩
  | .fl .shr z xs, x, o, h => ⟨o, [], by simp, fun g' hI hM _ => R_stab (W := []) hI hM (fun _ _ => rfl) (.fl .shr z xs) x o (clr_nil _) (fun _ _ => rfl) h⟩
  | .agg cs, x, o, h => by
    simp only [R] at h
    obtain ⟨xs, rfl, h⟩ := h
    obtain ⟨o', o2, hp, hr⟩ := Rs_frz cs xs o h
    exact ⟨o', o2, hp, fun g' hI hM h2 => by simp only [frz, R]; exact ⟨xs, rfl, hr g' hI hM h2⟩⟩
  | .tup cs, x, o, h => by
    simp only [R] at h
    obtain ⟨xs, rfl, h⟩ := h
    obtain ⟨o', o2, hp, hr⟩ := Rs_frz cs xs o h
    exact ⟨o', o2, hp, fun g' hI hM h2 => by simp only [frz, R]; exact ⟨xs, rfl, hr g' hI hM h2⟩⟩
  | .box T cs, x, o, h => by
    simp only [R] at h
    obtain ⟨b, xs, os, rfl, rfl, hh, h⟩ := h
    obtain ⟨o', o2, hp, hr⟩ := Rs_frz cs xs os h
    exact ⟨b :: o', o2, by simpa using hp.cons b, fun g' hI hM h2 => by simp only [frz, R]; exact ⟨b, xs, o', rfl, rfl, hh, hr g' hI hM h2⟩⟩
  | .same l, x, o, h => ⟨o, [], by simp, fun g' _ _ _ => by simp only [frz, R] at *; exact h⟩
  | .ptr t i, x, o, h => ⟨o, [], by simp, fun g' _ _ _ => by simp only [frz, R] at *; exact h⟩
  | .eref l k, x, o, h => ⟨o, [], by simp, fun g' _ _ _ => by simp only [frz, R] at *; exact h⟩
  | .cut l k, x, o, h => ⟨o, [], by simp, fun g' _ _ _ => by simp only [frz, R] at *; exact h⟩
  | .arr T vs, x, o, h => ⟨o, [], by simp, fun g' _ _ _ => by simp only [frz, R] at *; exact h⟩
  | .glob gl, x, o, h => ⟨o, [], by simp, fun g' hI hM _ => by simp only [frz, R] at *; exact ⟨fun p hp => let ⟨h1, h2⟩ := h.1 p hp; ⟨h1.imp (hI _) (hM _), h2⟩, h.2⟩⟩
  | .obox true T cs, x, o, h => by
    simp only [R] at h
    obtain ⟨b, xs, os, rfl, rfl, hh, h⟩ := h.1 trivial
    obtain ⟨o', o2, hp, hr⟩ := Rs_frz cs xs os h
    exact ⟨b :: o', o2, by simpa using hp.cons b, fun g' hI hM h2 => by simp only [frz, R]; exact ⟨fun _ => ⟨b, xs, o', rfl, rfl, hh, hr g' hI hM h2⟩, fun h => by cases h⟩⟩
  | .obox false T cs, x, o, h => by
    simp only [R] at h
    obtain ⟨rfl, rfl⟩ := h.2 trivial
    exact ⟨[], [], by simp, fun g' _ _ _ => by simp [frz, R]⟩
  | .clo f ts, x, o, h => ⟨o, [], by simp, fun g' _ _ _ => by simp only [frz, R] at *; exact h⟩
  | .fr (.own T) s z cs, x, o, h => ⟨[], o, by simp, fun g' hI hM h2 => by
      simp only [frz, R, modeOk] at *
      obtain ⟨vs, a, n, c, h1, h3, h4, h5, ⟨h6, h7⟩, h8⟩ := h
      refine ⟨vs, a, n, c, h1, h3, h4, h5, ⟨trivial, fun hne => ?_⟩, RIs_stab (fun b h => immB_mono hI hM h) (fun _ _ => rfl) cs vs h8⟩
      obtain ⟨ad, rfl, _⟩ := h5 hne
      exact ⟨ad, rfl, h2 _ (by rw [h7, h1.1]; simp [Value.ownBlock])⟩⟩
  | .fr .ro s z xs, x, o, h => ⟨o, [], by simp, fun g' hI hM _ => R_stab (W := []) hI hM (fun _ _ => rfl) (.fr .ro s z xs) x o (clr_nil _) (fun _ _ => rfl) h⟩
  | .fr .shr s z xs, x, o, h => ⟨o, [], by simp, fun g' hI hM _ => R_stab (W := []) hI hM (fun _ _ => rfl) (.fr .shr s z xs) x o (clr_nil _) (fun _ _ => rfl) h⟩
theorem Rs_frz {g : Gh} {V : Loc → Value} {w : World} : ∀ (cs : List AV) (xs : List Value) (o : List Nat), Rs g V w cs xs o → ∃ o' o2 : List Nat, o.Perm (o' ++ o2) ∧ ∀ g' : Gh, (∀ b, g.Imm b → g'.Imm b) → (∀ b, g.Im b → g'.Im b) → (∀ b ∈ o2, g'.Imm b) → Rs g' V w (frzs cs) xs o'
  | [], xs, o, h => ⟨o, [], by simp, fun g' _ _ _ => by simp only [frzs, Rs] at *; exact h⟩
  | c :: cs, xs, o, h => by
    simp only [Rs] at h
    obtain ⟨x, xs', o1, o2, rfl, rfl, h1, h2⟩ := h
    obtain ⟨p1, p2, hp, hr⟩ := R_frz c x o1 h1
    obtain ⟨q1, q2, hq, hs⟩ := Rs_frz cs xs' o2 h2
    refine ⟨p1 ++ q1, p2 ++ q2, perm4 hp hq, fun g' hI hM h3 => ?_⟩
    simp only [frzs, Rs]
    exact ⟨x, xs', p1, q1, rfl, rfl, hr g' hI hM (fun b hb => h3 b (by simp [hb])), hs g' hI hM (fun b hb => h3 b (by simp [hb]))⟩
end

theorem Es_frz {g : Gh} {V : Loc → Value} {w : World} : ∀ (es : List Ent) (i : Nat) (o : List Nat), Es g V w es o → ∃ o' o2 : List Nat, o.Perm (o' ++ o2) ∧ ∀ g' : Gh, (∀ b, g.Imm b → g'.Imm b) → (∀ b, g.Im b → g'.Im b) → (∀ b ∈ o2, g'.Imm b) →
    Es g' V w (es.modify i fun e => (e.1, frz e.2)) o'
  | [], i, o, h => ⟨o, [], by simp, fun g' _ _ _ => by simp only [List.modify_nil]; exact h⟩
  | e :: es, 0, o, h => by
    obtain ⟨o1, o2, rfl, ⟨h1, ht⟩, h2⟩ := h
    obtain ⟨p1, p2, hp, hr⟩ := R_frz e.2 _ o1 h1
    refine ⟨p1 ++ o2, p2, ?_, fun g' hI hM h3 => ?_⟩
    · rw [List.perm_iff_count] at *
      intro x
      have := hp x
      simp only [List.count_append] at *
      omega
    · simp only [List.modify_zero_cons]
      refine ⟨p1, o2, rfl, ⟨hr g' hI hM h3, ?_⟩, Es_stab (W := []) hI hM (fun _ _ => rfl) es o2 (fun e _ => by simp only [clrEnt, hit, List.any_nil, List.all_nil, Bool.not_false, Bool.true_and, Bool.and_true, Bool.or_true]; exact clr_nil e.2) (fun _ _ => rfl) h2⟩
      obtain ⟨t, av⟩ := e
      cases av <;> try trivial
      case fl m z xs => cases m <;> trivial
      case fr m s z xs => cases m <;> trivial
      case box T cs =>
        intro b hb j hj
        exact ht b hb j (by simpa [frzs_length] using hj)
  | e :: es, i + 1, o, h => by
    obtain ⟨o1, o2, rfl, h1, h2⟩ := h
    obtain ⟨p1, p2, hp, hr⟩ := Es_frz es i o2 h2
    refine ⟨o1 ++ p1, p2, by rw [List.append_assoc]; exact hp.append_left o1, fun g' hI hM h3 => ?_⟩
    simp only [List.modify_succ_cons]
    exact ⟨o1, p1, rfl, ER_stab (W := []) hI hM (fun _ _ => rfl) e o1 (by simp only [clrEnt, hit, List.any_nil, List.all_nil, Bool.not_false, Bool.true_and, Bool.and_true, Bool.or_true]; exact clr_nil e.2) (fun _ _ => rfl) h1, hr g' hI hM h3⟩

/-- What an entry owns is frozen from here on. -/
theorem sat_frz {g : Gh} {es : List Ent} {a : Act} {w : World} (i : Nat) (_hio : g.io = []) (h : Sat g es a w) : ∃ g', g.le g' ∧ Sat g' (es.modify i fun e => (e.1, frz e.2)) a w := by
  obtain ⟨V, o, hst, hes⟩ := h
  obtain ⟨o', o2, hp, hr⟩ := Es_frz es i o hes
  have hsub : ∀ b ∈ o2, b ∈ o := fun b hb => hp.mem_iff.2 (by simp [hb])
  have hsub' : ∀ b ∈ o', b ∈ o := fun b hb => hp.mem_iff.2 (by simp [hb])
  have hnd := hp.nodup_iff.1 hst.nodup
  refine ⟨{ g with Imm := fun b => g.Imm b ∨ b ∈ o2 }, ⟨rfl, rfl, rfl, rfl, fun b hb => .inl hb, fun b hb => hb.imp id fun hb => ?_⟩, V, o', ⟨hst.val, hst.size, hst.defers, (List.nodup_append.1 hnd).1, fun b hb => ?_, fun b hb => ?_, hst.chg⟩, hr _ (fun b hb => .inl hb) (fun b hb => hb) (fun b hb => .inr hb)⟩
  · exact (hst.own b (hsub b hb)).2.1
  · have := hst.own b (hsub' b hb)
    refine ⟨this.1, this.2.1, ?_⟩
    rintro ((h1 | h1) | h1)
    · exact this.2.2 (.inl h1)
    · exact (List.nodup_append.1 hnd).2.2 b hb b h1 rfl
    · exact this.2.2 (.inr h1)
  · rcases hb with (h1 | h1) | h1
    · exact hst.imm b (.inl h1)
    · exact (hst.own b (hsub b h1)).1
    · exact hst.imm b (.inr h1)
theorem ht_frz {c : Code} {es es' : List Ent} (i : Nat) (hio : g0.io = []) (he : (es.modify i fun e => (e.1, frz e.2)) = es') (h : HT P Q g0 c es') : HT P Q g0 c es := by
  intro g a w hg hs
  subst he
  obtain ⟨g', hle, hs'⟩ := sat_frz i (by rw [hg.io]; exact hio) hs
  exact h g' a w (hg.trans hle) hs'
end
end Go.Abs
