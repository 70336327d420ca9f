/-
  The logic of places: texts AL AM AO AP AQ.
-/
import Derived.ChangeArms
import Derived.WideShapes
import Derived.DataReads
import Derived.Below
import Derived.Lib.AppendStr
import Derived.Test.YthceldoojddpiaaDoorAD
section
/-
  Calls that are given variables and rows of the caller's own: what is known of them behind the call.
-/
namespace Go.Abs
def AnsP (xs : List Value) (posts : List AV) (o0 : List Nat) (Imm Im : Nat → Prop) (w : World) (res : AV) (e : Ending) (w' : World) : Prop :=
  ∃ x, e = .returned x ∧ Chg o0 w w' ∧ ∃ (Imm' : Nat → Prop) (o : List Nat), (∀ b, Imm b → Imm' b) ∧ (∀ b, Imm' b → Imm b ∨ b ∈ o0 ∨ (w.heap.size ≤ b ∧ b < w'.heap.size)) ∧
    Rs (gh0 w Imm' Im) V0 w' (res :: posts) (x :: xs.take posts.length) o ∧ o.Nodup ∧ ∀ b ∈ o, (b ∈ o0 ∨ w.heap.size ≤ b) ∧ b < w'.heap.size ∧ ¬ Imm' b
def FnP (P : Program) (f : FuncId) (args posts : List AV) (res : AV) : Prop :=
  ∀ (Imm Im : Nat → Prop) (w : World) (xs : List Value) (o0 : List Nat), (∀ b, Imm b ∨ Im b → b < w.heap.size) → Rs (gh0 w Imm Im) V0 w args xs o0 → o0.Nodup → (∀ b ∈ o0, b < w.heap.size ∧ ¬ (Imm b ∨ Im b)) →
    Calls P f xs.toArray w (AnsP xs posts o0 Imm Im w res)
def FnQP (P : Program) (fn : Func) (xs : List Value) (posts : List AV) (o0 : List Nat) (Imm Im : Nat → Prop) (w : World) (res : AV) : Exit → Act → World → Prop := bodyPost P fn (AnsP xs posts o0 Imm Im w res)
def pinEnts (k : Nat) (xs : List Value) : List Ent := (List.range k).map fun i => (i, .v (xs.getD i undef))
section
variable {P : Program} {Q : Exit → Act → World → Prop} {g0 : Gh} {rnd : Option Nat}
theorem cellAt_box {w : World} {b : Nat} {ys : List Value} {T : TypeId} {i : Nat} (h : w.heap[b]? = some (.cells ys.toArray T (0, 0))) (hi : i < ys.length) :
    w.cell? ⟨b, i, none⟩ = some (cellAt w (.pointer (some ⟨b, 0, none⟩)) i) := by
  simp only [cellAt]
  rw [cell_of_row w b i _ T (0, 0) h]
  simp [hi]
theorem Es_argsP {g : Gh} {V : Loc → Value} {w : World} (hV : ∀ av x o, closed av = true → R g V0 w av x o → R g V w av x o) (hC : ∀ t i, V (.cell t i) = cellAt w (V (.slot t)) i) : ∀ (args : List AV) (xs : List Value) (k : Nat) (o : List Nat), closeds args = true → Rs g V0 w args xs o → (∀ i x, xs[i]? = some x → V (.slot (k + i)) = x) →
    Es g V w ((args.zipIdx k).map fun p => (p.2, p.1)) o
  | [], xs, k, o, _, h, _ => by simp only [Rs] at h; exact h.2
  | av :: args, xs, k, o, hc, h, hv => by
    simp only [Rs] at h
    obtain ⟨x, xs', o1, o2, rfl, rfl, h1, h2⟩ := h
    simp only [closeds, Bool.and_eq_true] at hc
    simp only [List.zipIdx_cons, List.map_cons]
    have h0 : V (.slot k) = x := by simpa using hv 0 x rfl
    refine ⟨o1, o2, rfl, ⟨?_, ?_⟩, Es_argsP hV hC args xs' (k + 1) o2 hc.2 h2 fun i y hy => ?_⟩
    · show R g V w av (V (.slot k)) o1
      rw [h0]; exact hV av x o1 hc.1 h1
    · cases av <;> try trivial
      case box T cs =>
        intro b hb i hi
        dsimp only at hb hi ⊢
        simp only [R] at h1
        obtain ⟨b', ys, os, hx, _, hh, hrs⟩ := h1
        rw [h0, hx] at hb
        cases hb
        rw [hC, h0, hx]
        exact cellAt_box hh (by rw [Rs_length hrs]; exact hi)
    · have := hv (i + 1) y (by simpa using hy)
      rwa [show k + 1 + i = k + (i + 1) by omega]
theorem Es_pins {g : Gh} {V : Loc → Value} {w : World} {xs : List Value} : ∀ (l : List Nat), (∀ i ∈ l, V (.slot i) = xs.getD i undef) → Es g V w (l.map fun i => (i, .v (xs.getD i undef))) []
  | [], _ => rfl
  | i :: l, h => ⟨[], [], rfl, ⟨by simp only [R]; exact ⟨h i (by simp), trivial⟩, trivial⟩, Es_pins l fun j hj => h j (by simp [hj])⟩
theorem fn_okP {f : FuncId} {fn : Func} {c : Code} {args posts : List AV} {res : AV} (hf : P.funcs[f]? = some fn) (hb : fn.body = some c) (hk : args.length ≤ fn.ntmps) (hcl : closeds args = true) (hpl : posts.length ≤ args.length)
    (h : ∀ (xs : List Value), posts.length ≤ xs.length → ∀ g0 : Gh, g0.n = fn.ntmps → g0.ds = [] → HT none P (FnQP P fn xs posts g0.io g0.Imm g0.Im g0.w0 res) g0 c (argEnts args ++ pinEnts posts.length xs)) : FnP P f args posts res := by
  intro Imm Im w xs o0 himm hR hnd ho0
  have hlen := Rs_length hR
  refine calls_of_wp hf hb ((wpIn_wide (n := 0)).1 ?_)
  have hg := h xs (by omega) ⟨fn.ntmps, w, o0, Imm, Im, []⟩ rfl rfl ⟨fn.ntmps, w, o0, Imm, Im, []⟩ { tmps := xs.toArray ++ Array.replicate (fn.ntmps - xs.toArray.size) undef, defers := [] } w (Gh.le_refl _)
  let V : Loc → Value := fun l => match l with | .slot t => (xs.toArray ++ Array.replicate (fn.ntmps - xs.toArray.size) undef).getD t undef | .cell t i => cellAt w ((xs.toArray ++ Array.replicate (fn.ntmps - xs.toArray.size) undef).getD t undef) i
  have hslot : ∀ i x, xs[i]? = some x → V (.slot i) = x := by
    intro i x hx
    have hi := (List.getElem?_eq_some_iff.1 hx).1
    simp only [V, Array.getD_eq_getD_getElem?]
    rw [Array.getElem?_append_left (by simpa using hi)]
    simp [hx]
  refine hg ⟨V, o0, ⟨fun _ => rfl, ?_, rfl, List.nodup_nil, by simp, hnd, fun b hb => ⟨(ho0 b hb).1, .inr hb, (ho0 b hb).2⟩, himm, Chg.refl _ _⟩, Es_append.2 ⟨o0, [], by simp, ?_, Es_pins _ ?_⟩⟩
  · simp; omega
  · unfold argEnts
    refine Es_argsP (g := ⟨fn.ntmps, w, o0, Imm, Im, []⟩) (fun av x o hc hr => R_closed (fun _ h => h) av x o hc (.inl fun _ h => h) hr) (fun _ _ => rfl) args xs 0 o0 hcl ?_ ?_
    · exact Rs_closed (g := gh0 w Imm Im) (g' := ⟨fn.ntmps, w, o0, Imm, Im, []⟩) (V := V0) (V' := V0) (fun _ h => h) args xs o0 hcl (.inl fun _ h => h) hR
    · intro i x hx; rw [Nat.zero_add]; exact hslot i x hx
  · intro i hi
    rw [List.mem_range] at hi
    have hi' : i < xs.length := by omega
    rw [hslot i xs[i] (List.getElem?_eq_getElem hi')]
    simp [List.getD, hi']
theorem pins_get {g : Gh} {V : Loc → Value} {w : World} {xs : List Value} : ∀ (l : List Nat) {o : List Nat}, Es g V w (l.map fun i => (i, .v (xs.getD i undef))) o → (∀ i ∈ l, V (.slot i) = xs.getD i undef) ∧ o = []
  | [], o, h => ⟨by simp, h⟩
  | i :: l, o, h => by
    obtain ⟨o1, o2, rfl, ⟨h1, _⟩, h2⟩ := h
    simp only [R] at h1
    obtain ⟨h3, rfl⟩ := pins_get l h2
    refine ⟨?_, by rw [h1.2]; rfl⟩
    intro j hj
    rcases List.mem_cons.1 hj with rfl | hj
    · exact h1.1
    · exact h3 j hj
theorem Es_posts {g : Gh} {V : Loc → Value} {w : World} : ∀ (posts : List AV) (k : Nat) {o : List Nat}, Es g V w ((posts.zipIdx k).map fun p => (p.2, p.1)) o → Rs g V w posts ((List.range' k posts.length).map fun i => V (.slot i)) o
  | [], k, o, h => ⟨rfl, h⟩
  | av :: posts, k, o, h => by
    simp only [List.zipIdx_cons, List.map_cons] at h
    obtain ⟨o1, o2, rfl, ⟨h1, _⟩, h2⟩ := h
    simp only [List.length_cons, List.range'_succ, List.map_cons, Rs]
    exact ⟨_, _, o1, o2, rfl, rfl, h1, Es_posts posts (k + 1) h2⟩
theorem ret_okP {fn : Func} {g0 g : Gh} {xs : List Value} {es : List Ent} {avs posts : List AV} {a : Act} {w : World} {Imm : Nat → Prop} (hds : g0.ds = []) (hI0 : g0.Imm = Imm) (hle : g0.le g) (hret : RetL P fn.results.toList es avs) (hcl : closeds avs = true) (hclp : closeds posts = true) (hpl : posts.length ≤ xs.length) (hs : Sat g (es ++ (argEnts posts ++ pinEnts posts.length xs)) a w) :
    FnQP P fn xs posts g0.io Imm g0.Im g0.w0 (resAV avs) .ret a w ∧ FnQP P fn xs posts g0.io Imm g0.Im g0.w0 (resAV avs) .normal a w := by
  have key : a.defers = [] ∧ ∃ v, (results fn a.tmps).run P w = .ok v w ∧ AnsP xs posts g0.io Imm g0.Im g0.w0 (resAV avs) (.returned v) w := by
    obtain ⟨V, o, hst, hes⟩ := hs
    obtain ⟨oA, oB, rfl, hA, hB⟩ := Es_append.1 hes
    obtain ⟨oP, oQ, rfl, hP, hQ⟩ := Es_append.1 hB
    obtain ⟨hpin, rfl⟩ := pins_get _ hQ
    have hPs := Es_posts posts 0 hP
    have hvals : ((List.range' 0 posts.length).map fun i => V (.slot i)) = xs.take posts.length := by
      apply List.ext_getElem?
      intro i
      simp only [List.getElem?_map, List.getElem?_take]
      by_cases hi : i < posts.length
      · rw [List.getElem?_range' hi, if_pos hi, List.getElem?_eq_getElem (by omega : i < xs.length)]
        simp only [Option.map_some]
        have := hpin i (by simp [hi])
        rw [show 0 + 1 * i = i by omega, this]
        simp [List.getD, show i < xs.length by omega]
      · rw [if_neg hi, List.getElem?_eq_none (by simpa using hi)]; rfl
    rw [hvals] at hPs
    obtain ⟨ys, o', o'', hR, hperm, hrun⟩ := run_ret hst.val hret hA
    have hndA := (List.nodup_append.1 hst.nodup).1
    have hnd : o'.Nodup := (List.nodup_append.1 (hperm.nodup_iff.1 hndA)).1
    have hsub : ∀ b ∈ o' ++ oP, b ∈ oA ++ (oP ++ []) := fun b hb => by
      rcases List.mem_append.1 hb with h | h
      · have := hperm.mem_iff.2 (List.mem_append.2 (.inl h)); simp [this]
      · simp [h]
    have hnd2 : (o' ++ oP).Nodup := by
      have hn := List.nodup_append.1 hst.nodup
      refine List.nodup_append.2 ⟨hnd, by simpa using hn.2.1, fun b hb c hc => hn.2.2 b (hperm.mem_iff.2 (by simp [hb])) c (by simp [hc])⟩
    refine ⟨by rw [hst.defers, hle.ds, hds]; rfl, (if h : ys.length = 1 then ys.getD 0 undef else .tuple ys.toArray), ?_, ?_⟩
    · have hres : results fn a.tmps = (do let vs ← fn.results.mapM (retOne a.tmps); pure (if h : vs.size = 1 then vs[0] else .tuple vs)) := by
        unfold results
        congr 1
      rw [hres, Array.mapM_eq_mapM_toList]
      simp only [Sem.run_bind, Sem.run_map, hrun, Result.andThen_ok]
      by_cases h : ys.length = 1
      · simp [h]
      · simp [h]
    · refine ⟨_, rfl, by have := hst.chg; rw [hle.w0, hle.io] at this; exact this, g.Imm, o' ++ oP, by rw [← hI0]; exact hle.Imm, ?_, ?_, hnd2, ?_⟩
      · intro b hb
        rcases hle.new b hb with h | h | h
        · exact .inl (hI0 ▸ h)
        · exact .inr (.inr ⟨h, hst.imm b (.inl hb)⟩)
        · exact .inr (.inl h)
      · have hlen := Rs_length hR
        have hM : ∀ b, g.Im b → (gh0 g0.w0 g.Imm g0.Im).Im b := fun b hb => by rw [hle.Im] at hb; exact hb
        have hR' := Rs_closed (g := g) (g' := gh0 g0.w0 g.Imm g0.Im) (V' := V0) (fun _ h => h) avs ys o' hcl (.inl hM) hR
        have hP' := Rs_closed (g := g) (g' := gh0 g0.w0 g.Imm g0.Im) (V' := V0) (fun _ h => h) posts _ oP hclp (.inl hM) hPs
        simp only [Rs]
        refine ⟨_, _, o', oP, rfl, rfl, ?_, hP'⟩
        unfold resAV
        split
        · rename_i av
          simp only [Rs] at hR'
          obtain ⟨x, xs', o1, o2, rfl, rfl, h1, rfl, rfl⟩ := hR'
          simpa using h1
        · rename_i hne
          have : ys.length ≠ 1 := by
            intro h1
            rw [hlen] at h1
            match avs, h1 with
            | [av], _ => exact hne av rfl
          simp only [this, dite_false, R]
          exact ⟨ys, rfl, hR'⟩
      · intro b hb
        have := hst.own b (hsub b hb)
        rw [hle.w0, hle.io] at this
        exact ⟨this.2.1.symm, this.1, fun h => this.2.2 (.inl h)⟩
  exact ⟨key, key⟩
theorem pt_retP {fn : Func} {xs : List Value} {Imm : Nat → Prop} {es fs : List Ent} {avs posts : List AV} {res : AV} (hds : g0.ds = []) (hI : g0.Imm = Imm) (hfs : es ++ (argEnts posts ++ pinEnts posts.length xs) = fs) (hret : RetL P fn.results.toList es avs) (hcl : closeds avs = true) (hclp : closeds posts = true) (hpl : posts.length ≤ xs.length) (hres : resAV avs = res) : PT (FnQP P fn xs posts g0.io Imm g0.Im g0.w0 res) g0 .ret fs := by
  subst hres; subst hfs
  exact fun g a w hg hs => (ret_okP hds hI hg hret hcl hclp hpl hs).1
end
section
variable {P : Program} {ty : TypeId} {pos : String} {aft : Array Edge} {gd : Option (Nat × Bool)}
def isArg (NT : List Ent) (x : Operand) (t : Nat) : Bool :=
  match x with
  | .tmp u => Nat.beq u t || (match dupOp NT x with | .same (.slot s) => Nat.beq s t | .ptr s 0 => Nat.beq s t | _ => false)
  | _ => false
def isArgs (NT : List Ent) : List Operand → List Ent → Bool
  | [], [] => true
  | x :: xs, e :: es => isArg NT x e.1 && isArgs NT xs es
  | _, _ => false
theorem isArg_eval {g : Gh} {V : Loc → Value} {w : World} {NT : List Ent} {o : List Nat} {a : Act} (hv : ∀ t, V (.slot t) = a.tmps.getD t undef) (h : Es g V w NT o) {x : Operand} {t : Nat} (hx : isArg NT x t = true) : a.eval x = V (.slot t) := by
  cases x with
  | tmp u =>
    simp only [isArg, Bool.or_eq_true] at hx
    rcases hx with hx | hx
    · rw [Nat.eq_of_beq_eq_true hx, hv]; rfl
    · have hr := dupOp_R hv h (.tmp u)
      cases hd : dupOp NT (.tmp u) <;> simp only [hd] at hx hr <;> try (cases hx; done)
      case same l =>
        cases l with
        | slot s =>
          simp only [R] at hr
          have := Nat.eq_of_beq_eq_true hx
          rw [← this]; exact hr.1
        | cell s i => cases hx
      case ptr s off =>
        cases off with
        | zero =>
          simp only [R] at hr
          obtain ⟨b, h1, h2, _⟩ := hr
          have := Nat.eq_of_beq_eq_true hx
          rw [← this, h1]; exact h2
        | succ n => cases hx
  | _ => cases hx
theorem isArgs_eval {g : Gh} {V : Loc → Value} {w : World} {NT : List Ent} {o : List Nat} {a : Act} (hv : ∀ t, V (.slot t) = a.tmps.getD t undef) (h : Es g V w NT o) : ∀ {xs : List Operand} {T : List Ent}, isArgs NT xs T = true → xs.map a.eval = T.map fun e => V (.slot e.1)
  | [], [], _ => rfl
  | x :: xs, e :: es, hx => by
    simp only [isArgs, Bool.and_eq_true] at hx
    simp only [List.map_cons]
    rw [isArg_eval hv h hx.1, isArgs_eval hv h hx.2]
  | [], _ :: _, hx => by cases hx
  | _ :: _, [], hx => by cases hx
theorem Es_Rs {g : Gh} {V : Loc → Value} {w : World} : ∀ {T : List Ent} {o : List Nat}, Es g V w T o → Rs g V w (T.map (·.2)) (T.map fun e => V (.slot e.1)) o
  | [], o, h => ⟨rfl, h⟩
  | e :: T, o, h => by
    obtain ⟨o1, o2, rfl, ⟨h1, _⟩, h2⟩ := h
    simp only [List.map_cons, Rs]
    exact ⟨_, _, o1, o2, rfl, rfl, h1, Es_Rs h2⟩
def zipP : List Ent → List AV → List Ent
  | e :: T, p :: ps => (e.1, p) :: zipP T ps
  | _, _ => []
def boxW : List Ent → List Loc
  | [] => []
  | (t, .box _ cs) :: es => (List.range cs.length).map (Loc.cell t) ++ boxW es
  | _ :: es => boxW es
theorem boxW_mem : ∀ {es : List Ent} {t : Nat} {T : TypeId} {cs : List AV} {i : Nat}, (t, AV.box T cs) ∈ es → i < cs.length → Loc.cell t i ∈ boxW es
  | [], _, _, _, _, h, _ => by cases h
  | (s, av) :: es, t, T, cs, i, h, hi => by
    rcases List.mem_cons.1 h with h | h
    · cases h
      simp only [boxW, List.mem_append, List.mem_map, List.mem_range]
      exact .inl ⟨i, hi, rfl⟩
    · have ih := boxW_mem h hi
      cases av <;> simp only [boxW, List.mem_append] <;> first | exact ih | exact .inr ih
theorem zipP_Es {g : Gh} {V V' : Loc → Value} {w : World} : ∀ {T : List Ent} {ps : List AV} {o : List Nat}, ps.length ≤ T.length → Rs g V' w ps ((T.map fun e => V' (.slot e.1)).take ps.length) o →
    (∀ t T' cs, (t, AV.box T' cs) ∈ zipP T ps → ∀ b xs, V' (.slot t) = .pointer (some ⟨b, 0, none⟩) → w.heap[b]? = some (.cells xs T' (0, 0)) → xs.size = cs.length → ∀ i, i < cs.length → w.cell? ⟨b, i, none⟩ = some (V' (.cell t i))) → Es g V' w (zipP T ps) o
  | [], ps, o, hl, h, _ => by
    cases ps with
    | nil => exact h.2
    | cons p ps => simp at hl
  | e :: T, [], o, hl, h, _ => by simp only [List.length_nil, List.take_zero, Rs] at h; exact h.2
  | e :: T, p :: ps, o, hl, h, ht => by
    simp only [List.map_cons, List.length_cons, List.take_succ_cons, Rs] at h
    obtain ⟨x, xs', o1, o2, he, rfl, h1, h2⟩ := h
    obtain ⟨rfl, rfl⟩ := List.cons.inj he
    refine ⟨o1, o2, rfl, ⟨h1, ?_⟩, zipP_Es (V := V) (by simpa using hl) h2 fun t T' cs hm => ht t T' cs (by simp [zipP, hm])⟩
    cases p <;> try trivial
    case box T' cs =>
      intro b hb i hi
      dsimp only at hb hi ⊢
      simp only [R] at h1
      obtain ⟨b', ys, os, hx, _, hh, hrs⟩ := h1
      rw [hb] at hx; cases hx
      exact ht e.1 T' cs (by simp [zipP]) b _ hb hh (by simpa using Rs_length hrs) i hi
theorem op_nilCheck (N : List Ent) (d : Nat) (x : Operand) (t off : Nat) (h : dupOp N x = .ptr t off) (hdt : d ≠ t) :
    LOp P ⟨some d, .nilCheck x, ty, pos, aft, gd⟩ N [] [(d, .ptr t off)] [.slot d] := by
  refine LOp.value rfl (by simp [clr, hit, hdt]) rfl fun g V oN a w hp => ?_
  have hR := dupOp_R hp.val hp.esN x
  rw [h] at hR
  simp only [R] at hR
  obtain ⟨b, h1, h2, _⟩ := hR
  refine ⟨a.eval x, ?_, by simp only [R]; exact ⟨b, h1, h2, trivial⟩⟩
  simp [execOp, h2]
end
end Go.Abs
end
section
/-
  Rows whose cells are rows in their turn, not written any more.
-/
namespace Go.Abs
def mdS : Bool → Md
  | true => .shr
  | false => .ro
inductive IA (s : Bool) : IC → AV → Prop
  | v (x : Value) : IA s (.v x) (.v x)
  | fl (z : Nat) (xs : List Value) {cs : List IC} (h : cs = xs.map IC.v) : IA s (.row z cs) (.fl (mdS s) z xs)
  | fr (z : Nat) (cs : List IC) : IA s (.row z cs) (.fr (mdS s) s z cs)
inductive IAs (s : Bool) : List IC → List AV → Prop
  | nil : IAs s [] []
  | cons {c : IC} {av : AV} {cs : List IC} {avs : List AV} (h : IA s c av) (hs : IAs s cs avs) : IAs s (c :: cs) (av :: avs)
inductive AI (s : Bool) : AV → IC → Prop
  | v (x : Value) : AI s (.v x) (.v x)
  | ro (z : Nat) (xs : List Value) {cs : List IC} (h : cs = xs.map IC.v) : AI s (.fl .ro z xs) (.row z cs)
  | shr (z : Nat) (xs : List Value) {cs : List IC} (hs : s = true) (h : cs = xs.map IC.v) : AI s (.fl .shr z xs) (.row z cs)
  | fro (z : Nat) (cs : List IC) : AI s (.fr .ro false z cs) (.row z cs)
  | fsh (m : Md) (s' : Bool) (z : Nat) (cs : List IC) (hm : notOwn m = true) (hs : s = true) : AI s (.fr m s' z cs) (.row z cs)
  | nil (z : Nat) : AI s (.v (.slice none 0 0)) (.row z [])
inductive AIs (s : Bool) : List AV → List IC → Prop
  | nil : AIs s [] []
  | cons {c : IC} {av : AV} {cs : List IC} {avs : List AV} (h : AI s av c) (hs : AIs s avs cs) : AIs s (av :: avs) (c :: cs)
section
variable {P : Program} {ty : TypeId} {pos : String} {aft : Array Edge} {gd : Option (Nat × Bool)}
end
section
variable {A B : Type} {z : Nat}
end
section
variable {P : Program} {Q : Exit → Act → World → Prop} {g0 : Gh} {rnd : Option Nat}
theorem ht_frzE {c : Code} {es es' : List Ent} (i : Nat) (ht : g0.ds = []) (he : (es.modify i fun e => (e.1, frz e.2)) = es') (h : HT rnd P Q g0 c es') : HT rnd P Q g0 c es := by
  intro g a w hg hs
  exact pt_frzE (Q := fun e a w => c.wpIn (FW rnd) 0 P Q a w) (e := .normal) i ht he (fun g a w hg hs => h g a w hg hs) g a w hg hs
end
end Go.Abs
end
section
/-
  What came in, opened: a value of any type of numbers, truth values, texts, rows and structs of such, as the logic of places knows it.
-/
namespace Go.Abs
open Go.WideShapes
def wfI (k : IntKind) (n : Int) : Prop := (Lit.int k n).wf = true
def wfL {A : Type} (p : A → Prop) (l : List A) : Prop := l.length ≤ maxLen ∧ ∀ x ∈ l, p x
def inW (W : World) : Gh := gh0 W (fun _ => False) (fun b => b < W.heap.size)
section
variable {H : Type} {enc : TypeId × Value → H} {P : Program} {W : World} {sp : Nat → Bool} {hd : Bool} {t : TypeId}
theorem in_v (x : Value) : R (inW W) V0 W (.v x) x [] := by simp [R]
theorem in_nil : Rs (inW W) V0 W [] [] [] := by simp [Rs]
theorem in_cons {c : AV} {cs : List AV} {x : Value} {xs : List Value} (h : R (inW W) V0 W c x []) (hs : Rs (inW W) V0 W cs xs []) : Rs (inW W) V0 W (c :: cs) (x :: xs) [] := by
  simp only [Rs]; exact ⟨x, xs, [], [], rfl, rfl, h, hs⟩
end
end Go.Abs
end
section
/-
  What is appended otherwise: a text's bytes; lengths of nil.
-/
namespace Go.Abs
section
variable {P : Program} {ty : TypeId} {pos : String} {aft : Array Edge} {gd : Option (Nat × Bool)}
end
end Go.Abs
end
section
/-
  A variable is stored into itself.
-/
namespace Go.Abs
inductive Selfs (t : Nat) : Nat → List AV → List AV → Prop
  | nil (i : Nat) : Selfs t i [] []
  | same {i : Nat} {ds cs : List AV} (c : AV) (h : Selfs t (i + 1) ds cs) : Selfs t i (.same (.cell t i) :: ds) (c :: cs)
  | eq {i : Nat} {ds cs : List AV} (c : AV) (h : Selfs t (i + 1) ds cs) : Selfs t i (c :: ds) (c :: cs)
theorem Selfs_Rs {g : Gh} {V : Loc → Value} {w : World} {t : Nat} : ∀ {i : Nat} {ds cs : List AV} {xs ys : List Value} {o : List Nat}, Selfs t i ds cs → Rs g V w ds ys [] → Rs g V w cs xs o → (∀ j x, xs[j]? = some x → V (.cell t (i + j)) = x) → ∃ o', o'.Sublist o ∧ Rs g V w cs ys o'
  | i, _, _, xs, ys, o, .nil _, h1, h2, _ => ⟨o, List.Sublist.refl _, by simp only [Rs] at *; exact ⟨h1.1, h2.2⟩⟩
  | i, _, _, xs, ys, o, .same c h, h1, h2, hv => by
    simp only [Rs] at h1 h2
    obtain ⟨y, ys', p1, p2, rfl, hp, a1, a2⟩ := h1
    obtain ⟨x, xs', o1, o2, rfl, rfl, b1, b2⟩ := h2
    obtain ⟨rfl, rfl⟩ := List.append_eq_nil_iff.1 hp.symm
    obtain ⟨o', s1, s2⟩ := Selfs_Rs h a2 b2 (fun j x hx => by
      have := hv (j + 1) x (by simpa using hx)
      rwa [show i + (j + 1) = i + 1 + j by omega] at this)
    simp only [R] at a1
    have e : y = x := by rw [a1.1]; exact hv 0 x (by simp)
    subst e
    exact ⟨o1 ++ o', s1.append_left o1, by simp only [Rs]; exact ⟨y, ys', o1, o', rfl, rfl, b1, s2⟩⟩
  | i, _, _, xs, ys, o, .eq c h, h1, h2, hv => by
    simp only [Rs] at h1 h2
    obtain ⟨y, ys', p1, p2, rfl, hp, a1, a2⟩ := h1
    obtain ⟨x, xs', o1, o2, rfl, rfl, b1, b2⟩ := h2
    obtain ⟨rfl, rfl⟩ := List.append_eq_nil_iff.1 hp.symm
    obtain ⟨o', s1, s2⟩ := Selfs_Rs h a2 b2 (fun j x hx => by
      have := hv (j + 1) x (by simpa using hx)
      rwa [show i + (j + 1) = i + 1 + j by omega] at this)
    exact ⟨o', s1.trans (List.sublist_append_right o1 o2), by simp only [Rs]; exact ⟨y, ys', [], o', rfl, rfl, a1, s2⟩⟩
section
variable {P : Program} {ty : TypeId} {pos : String} {aft : Array Edge} {gd : Option (Nat × Bool)}
theorem op_store_self (N : List Ent) {T : TypeId} (ax vx : Operand) {T' : TypeId} {cs ds : List AV} (u t s : Nat) (hs : (P.info? T).map (·.size) = some s)
    (hx : dupOp (N ++ [(u, .agg ds), (t, .box T' cs)]) ax = .ptr t 0) (hv : dupOp (N ++ [(u, .agg ds), (t, .box T' cs)]) vx = .agg ds) (hok : cellsOk (N ++ [(u, .agg ds), (t, .box T' cs)]) (.agg ds) = true) (hd : ds.length = s) (hl : cs.length = s)
    (hse : Selfs t 0 ds cs) (hcl : clrs (cellsW t 0 s) cs = true) :
    LOp P ⟨none, .store T ax vx, ty, pos, aft, gd⟩ N [(u, .agg ds), (t, .box T' cs)] [(t, .box T' cs)] (cellsW t 0 s) := by
  refine LOp.core fun g V oN oT a w hdd hp => ?_
  have hB' : Es g V w [(u, .agg ds), (t, .box T' cs)] oT := hp.esT
  have hB := hB'
  simp only [Es] at hB
  obtain ⟨ou, oq, rfl, hU, ob, o2, rfl, hER, rfl⟩ := hB
  obtain ⟨hR1, htie⟩ := hER
  simp only [R] at hR1
  obtain ⟨b, xs, os, h3, rfl, hh, hrs⟩ := hR1
  dsimp only at htie h3
  have hNT := Es_append.2 ⟨oN, _, rfl, hp.esN, hB'⟩
  have hax := dupOp_R hp.val hNT ax
  rw [hx] at hax
  simp only [R] at hax
  obtain ⟨b2, h4, h5, _⟩ := hax
  rw [h3] at h4; cases h4
  have hval := dupOp_R hp.val hNT vx
  rw [hv] at hval
  obtain ⟨hvc, hone⟩ := vcells_R hNT hok hval
  simp only [vcells] at hvc
  have hl1 := Rs_length hvc
  have hl2 := Rs_length hrs
  have hVx : ∀ j x, xs[j]? = some x → V (.cell t (0 + j)) = x := by
    intro j x hx
    have hj := (List.getElem?_eq_some_iff.1 hx).1
    have hcell := htie b h3 j (by omega)
    rw [cell_of_row w b j _ T' (0, 0) hh] at hcell
    simp only [List.getElem?_toArray, hx, Option.some.injEq] at hcell
    rw [Nat.zero_add]; exact hcell.symm
  obtain ⟨os', hsub, hnew0⟩ := Selfs_Rs hse hvc hrs hVx
  obtain ⟨ys, hys⟩ : ∃ ys, ys = (a.eval vx).cells.toList := ⟨_, rfl⟩
  rw [← hys] at hvc hone hl1 hnew0
  have hrun : (execOp a.eval ⟨none, .store T ax vx, ty, pos, aft, gd⟩).run P w = .ok .skip (w.setRow b ys.toArray) := by
    have := run_storeRow (P := P) (w := w) (T := T) (off := 0) hs hh (v := a.eval vx) (by rw [← hd, ← hl1, hys]; simp) (by rw [← hys]; exact hone) (by omega)
    have e : (xs.take 0 ++ (a.eval vx).cells.toList ++ xs.drop (0 + s)).toArray = ys.toArray := by
      rw [← hys, Nat.zero_add, List.drop_eq_nil_of_le (by omega)]; simp
    rw [e] at this
    simp [execOp, Instr.storeAt, h5, Instr.sureAddr, this]
  refine (Yl.skip hrun).mono ?_
  rintro y w' ⟨rfl, rfl⟩
  have hnd := hp.nodup
  have hndT : (b :: os).Nodup := by have := (List.nodup_append.1 (List.nodup_append.1 hnd).2.1).2.1; simpa using this
  have hlt : ∀ c, c ∈ b :: os → c < w.heap.size ∧ ¬ g.imm c := fun c hc => hp.own c (by simp at hc ⊢; exact .inr (.inr hc))
  have hbi := (hlt b (by simp)).2
  have hbo : b ∉ os := (List.nodup_cons.1 hndT).1
  have hchg : Chg [b] w (w.setRow b ys.toArray) := setRow_chg _ _ _
  have hblk : ∀ c, c ≠ b → (w.setRow b ys.toArray).heap[c]? = w.heap[c]? := fun c hc => setRow_other w b c _ hc
  have hvl : ys.length = s := by omega
  have hV' : ∀ l, hit (cellsW t 0 s) l = false → setC V t 0 ys l = V l := fun l hl => setC_hit (by rw [hvl]; exact hl)
  have hnew := Rs_stab (W := cellsW t 0 s) (g := g) (g' := g) (V' := setC V t 0 ys) (w' := w.setRow b ys.toArray) (fun _ h => h) (fun _ h => h) hV' cs ys os' hcl (fun c hcc => hblk c (by
    rcases hcc with hcc | hcc
    · rintro rfl; exact hbo (hsub.subset hcc)
    · rintro rfl; exact hbi hcc)) hnew0
  refine ⟨g, setC V t 0 ys, b :: os', g.le_refl, fun c hc => .inl hc, fun c hc => ?_, hchg.mono (by simp), hV', ?_, ?_, ?_, ?_⟩
  · exact Nat.lt_of_lt_of_le (hp.imm c (.inl hc)) hchg.size
  · intro u; simp only [setC, Act.put]; exact hp.val u
  · refine ⟨b :: os', [], by simp, ⟨?_, ?_⟩, rfl⟩
    · show R _ _ _ (.box T' _) (setC V t 0 _ (.slot t)) _
      simp only [R, setC]
      exact ⟨b, ys, os', h3, rfl, setRow_heap w b _ _ T' _ hh, hnew⟩
    · intro b' hb' i hi
      simp only [setC] at hb'
      rw [h3] at hb'; cases hb'
      have hhn := setRow_heap w b xs.toArray ys.toArray T' _ hh
      rw [cell_of_row _ b i _ T' (0, 0) hhn]
      have h6 : i < ys.length := by omega
      simp only [List.getElem?_toArray, setC, true_and]
      rw [if_pos ⟨Nat.zero_le _, by omega⟩, List.getElem?_eq_getElem h6]
      simp [List.getD_eq_getElem?_getD, List.getElem?_eq_getElem h6]
  · exact List.Nodup.sublist (hsub.cons_cons b) hndT
  · intro c hc
    have hc' : c ∈ b :: os := by
      rcases List.mem_cons.1 hc with h | h
      · simp [h]
      · exact List.mem_cons_of_mem _ (hsub.subset h)
    exact ⟨.inl (by simp at hc' ⊢; exact .inr hc'), Nat.lt_of_lt_of_le (hlt c hc').1 hchg.size, (hlt c hc').2⟩
end
end Go.Abs
end
