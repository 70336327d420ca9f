/-
  The logic of places: texts AL AM AO AP AQ.
-/
import Derived.ChangeArms
import Derived.WideShapes
import Derived.DataReads
import Derived.Below
import Derived.Lib.AppendStr
import Derived.Test.YtbioodcjmceefaaAD
section
/-
  Calls that are given variables and rows of the caller's own: what is known of them behind the call.
-/
namespace Go.Abs
def AnsP (xs : List Value) (posts : List AV) (o0 : List Nat) (Imm Im : Nat → Prop) (w : World) (res : AV) (e : Ending) (w' : World) : Prop :=
  ∃ x, e = .returned x ∧ Chg o0 w w' ∧ ∃ (Imm' : Nat → Prop) (o : List Nat), (∀ b, Imm b → Imm' b) ∧ (∀ b, Imm' b → Imm b ∨ b ∈ o0 ∨ (w.heap.size ≤ b ∧ b < w'.heap.size)) ∧
    Rs (gh0 w Imm' Im) V0 w' (res :: posts) (x :: xs.take posts.length) o ∧ o.Nodup ∧ ∀ b ∈ o, (b ∈ o0 ∨ w.heap.size ≤ b) ∧ b < w'.heap.size ∧ ¬ Imm' b
def FnP (P : Program) (f : FuncId) (args posts : List AV) (res : AV) : Prop :=
  ∀ (Imm Im : Nat → Prop) (w : World) (xs : List Value) (o0 : List Nat), (∀ b, Imm b ∨ Im b → b < w.heap.size) → Rs (gh0 w Imm Im) V0 w args xs o0 → o0.Nodup → (∀ b ∈ o0, b < w.heap.size ∧ ¬ (Imm b ∨ Im b)) →
    Calls P f xs.toArray w (AnsP xs posts o0 Imm Im w res)
def FnQP (P : Program) (fn : Func) (xs : List Value) (posts : List AV) (o0 : List Nat) (Imm Im : Nat → Prop) (w : World) (res : AV) : Exit → Act → World → Prop := bodyPost P fn (AnsP xs posts o0 Imm Im w res)
def pinEnts (k : Nat) (xs : List Value) : List Ent := (List.range k).map fun i => (i, .v (xs.getD i undef))
section
variable {P : Program} {Q : Exit → Act → World → Prop} {g0 : Gh} {rnd : Option Nat}
theorem cellAt_box {w : World} {b : Nat} {ys : List Value} {T : TypeId} {i : Nat} (h : w.heap[b]? = some (.cells ys.toArray T (0, 0))) (hi : i < ys.length) :
    w.cell? ⟨b, i, none⟩ = some (cellAt w (.pointer (some ⟨b, 0, none⟩)) i) := by
  simp only [cellAt]
  rw [cell_of_row w b i _ T (0, 0) h]
  simp [hi]
theorem Es_argsP {g : Gh} {V : Loc → Value} {w : World} (hV : ∀ av x o, closed av = true → R g V0 w av x o → R g V w av x o) (hC : ∀ t i, V (.cell t i) = cellAt w (V (.slot t)) i) : ∀ (args : List AV) (xs : List Value) (k : Nat) (o : List Nat), closeds args = true → Rs g V0 w args xs o → (∀ i x, xs[i]? = some x → V (.slot (k + i)) = x) →
    Es g V w ((args.zipIdx k).map fun p => (p.2, p.1)) o
  | [], xs, k, o, _, h, _ => by simp only [Rs] at h; exact h.2
  | av :: args, xs, k, o, hc, h, hv => by
    simp only [Rs] at h
    obtain ⟨x, xs', o1, o2, rfl, rfl, h1, h2⟩ := h
    simp only [closeds, Bool.and_eq_true] at hc
    simp only [List.zipIdx_cons, List.map_cons]
    have h0 : V (.slot k) = x := by simpa using hv 0 x rfl
    refine ⟨o1, o2, rfl, ⟨?_, ?_⟩, Es_argsP hV hC args xs' (k + 1) o2 hc.2 h2 fun i y hy => ?_⟩
    · show R g V w av (V (.slot k)) o1
      rw [h0]; exact hV av x o1 hc.1 h1
    · cases av <;> try trivial
      case box T cs =>
        intro b hb i hi
        dsimp only at hb hi ⊢
        simp only [R] at h1
        obtain ⟨b', ys, os, hx, _, hh, hrs⟩ := h1
        rw [h0, hx] at hb
        cases hb
        rw [hC, h0, hx]
        exact cellAt_box hh (by rw [Rs_length hrs]; exact hi)
    · have := hv (i + 1) y (by simpa using hy)
      rwa [show k + 1 + i = k + (i + 1) by omega]
theorem Es_pins {g : Gh} {V : Loc → Value} {w : World} {xs : List Value} : ∀ (l : List Nat), (∀ i ∈ l, V (.slot i) = xs.getD i undef) → Es g V w (l.map fun i => (i, .v (xs.getD i undef))) []
  | [], _ => rfl
  | i :: l, h => ⟨[], [], rfl, ⟨by simp only [R]; exact ⟨h i (by simp), trivial⟩, trivial⟩, Es_pins l fun j hj => h j (by simp [hj])⟩
theorem fn_okP {f : FuncId} {fn : Func} {c : Code} {args posts : List AV} {res : AV} (hf : P.funcs[f]? = some fn) (hb : fn.body = some c) (hk : args.length ≤ fn.ntmps) (hcl : closeds args = true) (hpl : posts.length ≤ args.length)
    (h : ∀ (xs : List Value), posts.length ≤ xs.length → ∀ g0 : Gh, g0.n = fn.ntmps → g0.ds = [] → HT none P (FnQP P fn xs posts g0.io g0.Imm g0.Im g0.w0 res) g0 c (argEnts args ++ pinEnts posts.length xs)) : FnP P f args posts res := by
  intro Imm Im w xs o0 himm hR hnd ho0
  have hlen := Rs_length hR
  refine calls_of_wp hf hb ((wpIn_wide (n := 0)).1 ?_)
  have hg := h xs (by omega) ⟨fn.ntmps, w, o0, Imm, Im, []⟩ rfl rfl ⟨fn.ntmps, w, o0, Imm, Im, []⟩ { tmps := xs.toArray ++ Array.replicate (fn.ntmps - xs.toArray.size) undef, defers := [] } w (Gh.le_refl _)
  let V : Loc → Value := fun l => match l with | .slot t => (xs.toArray ++ Array.replicate (fn.ntmps - xs.toArray.size) undef).getD t undef | .cell t i => cellAt w ((xs.toArray ++ Array.replicate (fn.ntmps - xs.toArray.size) undef).getD t undef) i
  have hslot : ∀ i x, xs[i]? = some x → V (.slot i) = x := by
    intro i x hx
    have hi := (List.getElem?_eq_some_iff.1 hx).1
    simp only [V, Array.getD_eq_getD_getElem?]
    rw [Array.getElem?_append_left (by simpa using hi)]
    simp [hx]
  refine hg ⟨V, o0, ⟨fun _ => rfl, ?_, rfl, List.nodup_nil, by simp, hnd, fun b hb => ⟨(ho0 b hb).1, .inr hb, (ho0 b hb).2⟩, himm, Chg.refl _ _⟩, Es_append.2 ⟨o0, [], by simp, ?_, Es_pins _ ?_⟩⟩
  · simp; omega
  · unfold argEnts
    refine Es_argsP (g := ⟨fn.ntmps, w, o0, Imm, Im, []⟩) (fun av x o hc hr => R_closed (fun _ h => h) av x o hc (.inl fun _ h => h) hr) (fun _ _ => rfl) args xs 0 o0 hcl ?_ ?_
    · exact Rs_closed (g := gh0 w Imm Im) (g' := ⟨fn.ntmps, w, o0, Imm, Im, []⟩) (V := V0) (V' := V0) (fun _ h => h) args xs o0 hcl (.inl fun _ h => h) hR
    · intro i x hx; rw [Nat.zero_add]; exact hslot i x hx
  · intro i hi
    rw [List.mem_range] at hi
    have hi' : i < xs.length := by omega
    rw [hslot i xs[i] (List.getElem?_eq_getElem hi')]
    simp [List.getD, hi']
theorem pins_get {g : Gh} {V : Loc → Value} {w : World} {xs : List Value} : ∀ (l : List Nat) {o : List Nat}, Es g V w (l.map fun i => (i, .v (xs.getD i undef))) o → (∀ i ∈ l, V (.slot i) = xs.getD i undef) ∧ o = []
  | [], o, h => ⟨by simp, h⟩
  | i :: l, o, h => by
    obtain ⟨o1, o2, rfl, ⟨h1, _⟩, h2⟩ := h
    simp only [R] at h1
    obtain ⟨h3, rfl⟩ := pins_get l h2
    refine ⟨?_, by rw [h1.2]; rfl⟩
    intro j hj
    rcases List.mem_cons.1 hj with rfl | hj
    · exact h1.1
    · exact h3 j hj
theorem Es_posts {g : Gh} {V : Loc → Value} {w : World} : ∀ (posts : List AV) (k : Nat) {o : List Nat}, Es g V w ((posts.zipIdx k).map fun p => (p.2, p.1)) o → Rs g V w posts ((List.range' k posts.length).map fun i => V (.slot i)) o
  | [], k, o, h => ⟨rfl, h⟩
  | av :: posts, k, o, h => by
    simp only [List.zipIdx_cons, List.map_cons] at h
    obtain ⟨o1, o2, rfl, ⟨h1, _⟩, h2⟩ := h
    simp only [List.length_cons, List.range'_succ, List.map_cons, Rs]
    exact ⟨_, _, o1, o2, rfl, rfl, h1, Es_posts posts (k + 1) h2⟩
theorem ret_okP {fn : Func} {g0 g : Gh} {xs : List Value} {es : List Ent} {avs posts : List AV} {a : Act} {w : World} {Imm : Nat → Prop} (hds : g0.ds = []) (hI0 : g0.Imm = Imm) (hle : g0.le g) (hret : RetL P fn.results.toList es avs) (hcl : closeds avs = true) (hclp : closeds posts = true) (hpl : posts.length ≤ xs.length) (hs : Sat g (es ++ (argEnts posts ++ pinEnts posts.length xs)) a w) :
    FnQP P fn xs posts g0.io Imm g0.Im g0.w0 (resAV avs) .ret a w ∧ FnQP P fn xs posts g0.io Imm g0.Im g0.w0 (resAV avs) .normal a w := by
  have key : a.defers = [] ∧ ∃ v, (results fn a.tmps).run P w = .ok v w ∧ AnsP xs posts g0.io Imm g0.Im g0.w0 (resAV avs) (.returned v) w := by
    obtain ⟨V, o, hst, hes⟩ := hs
    obtain ⟨oA, oB, rfl, hA, hB⟩ := Es_append.1 hes
    obtain ⟨oP, oQ, rfl, hP, hQ⟩ := Es_append.1 hB
    obtain ⟨hpin, rfl⟩ := pins_get _ hQ
    have hPs := Es_posts posts 0 hP
    have hvals : ((List.range' 0 posts.length).map fun i => V (.slot i)) = xs.take posts.length := by
      apply List.ext_getElem?
      intro i
      simp only [List.getElem?_map, List.getElem?_take]
      by_cases hi : i < posts.length
      · rw [List.getElem?_range' hi, if_pos hi, List.getElem?_eq_getElem (by omega : i < xs.length)]
        simp only [Option.map_some]
        have := hpin i (by simp [hi])
        rw [show 0 + 1 * i = i by omega, this]
        simp [List.getD, show i < xs.length by omega]
      · rw [if_neg hi, List.getElem?_eq_none (by simpa using hi)]; rfl
    rw [hvals] at hPs
    obtain ⟨ys, o', o'', hR, hperm, hrun⟩ := run_ret hst.val hret hA
    have hndA := (List.nodup_append.1 hst.nodup).1
    have hnd : o'.Nodup := (List.nodup_append.1 (hperm.nodup_iff.1 hndA)).1
    have hsub : ∀ b ∈ o' ++ oP, b ∈ oA ++ (oP ++ []) := fun b hb => by
      rcases List.mem_append.1 hb with h | h
      · have := hperm.mem_iff.2 (List.mem_append.2 (.inl h)); simp [this]
      · simp [h]
    have hnd2 : (o' ++ oP).Nodup := by
      have hn := List.nodup_append.1 hst.nodup
      refine List.nodup_append.2 ⟨hnd, by simpa using hn.2.1, fun b hb c hc => hn.2.2 b (hperm.mem_iff.2 (by simp [hb])) c (by simp [hc])⟩
    refine ⟨by rw [hst.defers, hle.ds, hds]; rfl, (if h : ys.length = 1 then ys.getD 0 undef else .tuple ys.toArray), ?_, ?_⟩
    · have hres : results fn a.tmps = (do let vs ← fn.results.mapM (retOne a.tmps); pure (if h : vs.size = 1 then vs[0] else .tuple vs)) := by
        unfold results
        congr 1
      rw [hres, Array.mapM_eq_mapM_toList]
      simp only [Sem.run_bind, Sem.run_map, hrun, Result.andThen_ok]
      by_cases h : ys.length = 1
      · simp [h]
      · simp [h]
    · refine ⟨_, rfl, by have := hst.chg; rw [hle.w0, hle.io] at this; exact this, g.Imm, o' ++ oP, by rw [← hI0]; exact hle.Imm, ?_, ?_, hnd2, ?_⟩
      · intro b hb
        rcases hle.new b hb with h | h | h
        · exact .inl (hI0 ▸ h)
        · exact .inr (.inr ⟨h, hst.imm b (.inl hb)⟩)
        · exact .inr (.inl h)
      · have hlen := Rs_length hR
        have hM : ∀ b, g.Im b → (gh0 g0.w0 g.Imm g0.Im).Im b := fun b hb => by rw [hle.Im] at hb; exact hb
        have hR' := Rs_closed (g := g) (g' := gh0 g0.w0 g.Imm g0.Im) (V' := V0) (fun _ h => h) avs ys o' hcl (.inl hM) hR
        have hP' := Rs_closed (g := g) (g' := gh0 g0.w0 g.Imm g0.Im) (V' := V0) (fun _ h => h) posts _ oP hclp (.inl hM) hPs
        simp only [Rs]
        refine ⟨_, _, o', oP, rfl, rfl, ?_, hP'⟩
        unfold resAV
        split
        · rename_i av
          simp only [Rs] at hR'
          obtain ⟨x, xs', o1, o2, rfl, rfl, h1, rfl, rfl⟩ := hR'
          simpa using h1
        · rename_i hne
          have : ys.length ≠ 1 := by
            intro h1
            rw [hlen] at h1
            match avs, h1 with
            | [av], _ => exact hne av rfl
          simp only [this, dite_false, R]
          exact ⟨ys, rfl, hR'⟩
      · intro b hb
        have := hst.own b (hsub b hb)
        rw [hle.w0, hle.io] at this
        exact ⟨this.2.1.symm, this.1, fun h => this.2.2 (.inl h)⟩
  exact ⟨key, key⟩
theorem pt_retP {fn : Func} {xs : List Value} {Imm : Nat → Prop} {es fs : List Ent} {avs posts : List AV} {res : AV} (hds : g0.ds = []) (hI : g0.Imm = Imm) (hfs : es ++ (argEnts posts ++ pinEnts posts.length xs) = fs) (hret : RetL P fn.results.toList es avs) (hcl : closeds avs = true) (hclp : closeds posts = true) (hpl : posts.length ≤ xs.length) (hres : resAV avs = res) : PT (FnQP P fn xs posts g0.io Imm g0.Im g0.w0 res) g0 .ret fs := by
  subst hres; subst hfs
  exact fun g a w hg hs => (ret_okP hds hI hg hret hcl hclp hpl hs).1
theorem pt_endP {fn : Func} {xs : List Value} {Imm : Nat → Prop} {es fs : List Ent} {avs posts : List AV} {res : AV} (hds : g0.ds = []) (hI : g0.Imm = Imm) (hfs : es ++ (argEnts posts ++ pinEnts posts.length xs) = fs) (hret : RetL P fn.results.toList es avs) (hcl : closeds avs = true) (hclp : closeds posts = true) (hpl : posts.length ≤ xs.length) (hres : resAV avs = res) : PT (FnQP P fn xs posts g0.io Imm g0.Im g0.w0 res) g0 .normal fs := by
  subst hres; subst hfs
  exact fun g a w hg hs => (ret_okP hds hI hg hret hcl hclp hpl hs).2
end
section
variable {P : Program} {ty : TypeId} {pos : String} {aft : Array Edge} {gd : Option (Nat × Bool)}
def isArg (NT : List Ent) (x : Operand) (t : Nat) : Bool :=
  match x with
  | .tmp u => Nat.beq u t || (match dupOp NT x with | .same (.slot s) => Nat.beq s t | .ptr s 0 => Nat.beq s t | _ => false)
  | _ => false
def isArgs (NT : List Ent) : List Operand → List Ent → Bool
  | [], [] => true
  | x :: xs, e :: es => isArg NT x e.1 && isArgs NT xs es
  | _, _ => false
theorem isArg_eval {g : Gh} {V : Loc → Value} {w : World} {NT : List Ent} {o : List Nat} {a : Act} (hv : ∀ t, V (.slot t) = a.tmps.getD t undef) (h : Es g V w NT o) {x : Operand} {t : Nat} (hx : isArg NT x t = true) : a.eval x = V (.slot t) := by
  cases x with
  | tmp u =>
    simp only [isArg, Bool.or_eq_true] at hx
    rcases hx with hx | hx
    · rw [Nat.eq_of_beq_eq_true hx, hv]; rfl
    · have hr := dupOp_R hv h (.tmp u)
      cases hd : dupOp NT (.tmp u) <;> simp only [hd] at hx hr <;> try (cases hx; done)
      case same l =>
        cases l with
        | slot s =>
          simp only [R] at hr
          have := Nat.eq_of_beq_eq_true hx
          rw [← this]; exact hr.1
        | cell s i => cases hx
      case ptr s off =>
        cases off with
        | zero =>
          simp only [R] at hr
          obtain ⟨b, h1, h2, _⟩ := hr
          have := Nat.eq_of_beq_eq_true hx
          rw [← this, h1]; exact h2
        | succ n => cases hx
  | _ => cases hx
theorem isArgs_eval {g : Gh} {V : Loc → Value} {w : World} {NT : List Ent} {o : List Nat} {a : Act} (hv : ∀ t, V (.slot t) = a.tmps.getD t undef) (h : Es g V w NT o) : ∀ {xs : List Operand} {T : List Ent}, isArgs NT xs T = true → xs.map a.eval = T.map fun e => V (.slot e.1)
  | [], [], _ => rfl
  | x :: xs, e :: es, hx => by
    simp only [isArgs, Bool.and_eq_true] at hx
    simp only [List.map_cons]
    rw [isArg_eval hv h hx.1, isArgs_eval hv h hx.2]
  | [], _ :: _, hx => by cases hx
  | _ :: _, [], hx => by cases hx
theorem Es_Rs {g : Gh} {V : Loc → Value} {w : World} : ∀ {T : List Ent} {o : List Nat}, Es g V w T o → Rs g V w (T.map (·.2)) (T.map fun e => V (.slot e.1)) o
  | [], o, h => ⟨rfl, h⟩
  | e :: T, o, h => by
    obtain ⟨o1, o2, rfl, ⟨h1, _⟩, h2⟩ := h
    simp only [List.map_cons, Rs]
    exact ⟨_, _, o1, o2, rfl, rfl, h1, Es_Rs h2⟩
def zipP : List Ent → List AV → List Ent
  | e :: T, p :: ps => (e.1, p) :: zipP T ps
  | _, _ => []
def boxW : List Ent → List Loc
  | [] => []
  | (t, .box _ cs) :: es => (List.range cs.length).map (Loc.cell t) ++ boxW es
  | _ :: es => boxW es
theorem boxW_mem : ∀ {es : List Ent} {t : Nat} {T : TypeId} {cs : List AV} {i : Nat}, (t, AV.box T cs) ∈ es → i < cs.length → Loc.cell t i ∈ boxW es
  | [], _, _, _, _, h, _ => by cases h
  | (s, av) :: es, t, T, cs, i, h, hi => by
    rcases List.mem_cons.1 h with h | h
    · cases h
      simp only [boxW, List.mem_append, List.mem_map, List.mem_range]
      exact .inl ⟨i, hi, rfl⟩
    · have ih := boxW_mem h hi
      cases av <;> simp only [boxW, List.mem_append] <;> first | exact ih | exact .inr ih
theorem zipP_Es {g : Gh} {V V' : Loc → Value} {w : World} : ∀ {T : List Ent} {ps : List AV} {o : List Nat}, ps.length ≤ T.length → Rs g V' w ps ((T.map fun e => V' (.slot e.1)).take ps.length) o →
    (∀ t T' cs, (t, AV.box T' cs) ∈ zipP T ps → ∀ b xs, V' (.slot t) = .pointer (some ⟨b, 0, none⟩) → w.heap[b]? = some (.cells xs T' (0, 0)) → xs.size = cs.length → ∀ i, i < cs.length → w.cell? ⟨b, i, none⟩ = some (V' (.cell t i))) → Es g V' w (zipP T ps) o
  | [], ps, o, hl, h, _ => by
    cases ps with
    | nil => exact h.2
    | cons p ps => simp at hl
  | e :: T, [], o, hl, h, _ => by simp only [List.length_nil, List.take_zero, Rs] at h; exact h.2
  | e :: T, p :: ps, o, hl, h, ht => by
    simp only [List.map_cons, List.length_cons, List.take_succ_cons, Rs] at h
    obtain ⟨x, xs', o1, o2, he, rfl, h1, h2⟩ := h
    obtain ⟨rfl, rfl⟩ := List.cons.inj he
    refine ⟨o1, o2, rfl, ⟨h1, ?_⟩, zipP_Es (V := V) (by simpa using hl) h2 fun t T' cs hm => ht t T' cs (by simp [zipP, hm])⟩
    cases p <;> try trivial
    case box T' cs =>
      intro b hb i hi
      dsimp only at hb hi ⊢
      simp only [R] at h1
      obtain ⟨b', ys, os, hx, _, hh, hrs⟩ := h1
      rw [hb] at hx; cases hx
      exact ht e.1 T' cs (by simp [zipP]) b _ hb hh (by simpa using Rs_length hrs) i hi
theorem op_callP (N T G : List Ent) (W : List Loc) (d : Nat) (f : FuncId) {cal : Operand} (xs ys : List Operand) {args : Array Operand} {ats : Array TypeId} (avs posts : List AV) (res : AV) (hcal : rd N cal = .v (.func (.func f) #[] #[])) (hrun : ∀ args w, (callFunc f args).run P w = .ok (.enter f args) w)
    (hargs : (xs ++ ys).toArray = args) (hx : isArgs (N ++ T) xs T = true) (hav : ys.map (argv N) = avs) (hf : FnP P f (T.map (·.2) ++ avs) posts res) (hpl : posts.length ≤ T.length) (hcl : closed res = true) (hclT : closeds (T.map (·.2)) = true) (hclp : closeds posts = true)
    (hsh : noShr res = true) (hshp : noShrs posts = true) (hdt : T.all (fun e => !Nat.beq e.1 d) = true) (hG : zipP T posts ++ [(d, res)] = G) (hW : Loc.slot d :: boxW (zipP T posts) = W) :
    LOp P ⟨some d, .call ⟨.value cal, args, ats⟩, ty, pos, aft, gd⟩ N T G W := by
  subst hG hW hargs
  refine LOp.core fun g V oN oT a w hd hp => ?_
  have hcv := rd_v hp.val hp.esN hcal
  have hr : (execOp a.eval ⟨some d, .call ⟨.value cal, (xs ++ ys).toArray, ats⟩, ty, pos, aft, gd⟩).run P w = .ok (.enter f ((xs ++ ys).toArray.map a.eval)) w := by
    simp [execOp, resolve, hcv, Deferred.ofValue, invoke, hrun]
  have hxe := isArgs_eval hp.val (Es_append.2 ⟨oN, oT, rfl, hp.esN, hp.esT⟩) hx
  have hR : Rs (gh0 w g.Imm (fun b => g.Im b ∨ b ∈ oN)) V0 w (T.map (·.2) ++ avs) ((xs ++ ys).map a.eval) oT := by
    rw [List.map_append, hxe]
    refine Rs_append.2 ⟨_, _, oT, [], rfl, by simp, ?_, ?_⟩
    · exact Rs_closed (g := g) (g' := gh0 w g.Imm (fun b => g.Im b ∨ b ∈ oN)) (fun _ h => h) _ _ oT hclT (.inl fun b hb => .inl hb) (Es_Rs hp.esT)
    · rw [← hav]
      exact argvs_R (g := g) (g' := gh0 w g.Imm (fun b => g.Im b ∨ b ∈ oN)) rfl (fun b hb => hb) hp.val hp.esN _
  have hnd := hp.nodup
  have hob : ∀ b ∈ oT, b < w.heap.size ∧ ¬ (g.Imm b ∨ g.Im b ∨ b ∈ oN) := by
    intro b hb
    have h1 := hp.own b (by simp [hb])
    refine ⟨h1.1, ?_⟩
    rintro (h | h | h)
    · exact h1.2 (.inl h)
    · exact h1.2 (.inr h)
    · exact (List.nodup_append.1 hnd).2.2 b h b hb rfl
  have hc := hf g.Imm (fun b => g.Im b ∨ b ∈ oN) w _ oT (fun b hb => by
    rcases hb with hb | hb | hb
    · exact hp.imm b (.inl hb)
    · exact hp.imm b (.inr hb)
    · exact (hp.own b (by simp [hb])).1) hR (List.nodup_append.1 hnd).2.1 hob
  have ea : ((xs ++ ys).map a.eval).toArray = (xs ++ ys).toArray.map a.eval := by simp
  rw [ea] at hc
  have hlt : d < g.n := hd d rfl
  refine Yl.call hr (hc.mono ?_)
  rintro e' w' ⟨y, rfl, hchg, Imm', o, hI, hnew, hRr, hndo, hfr⟩
  have htake : ((xs ++ ys).map a.eval).take posts.length = (T.map fun e => V (.slot e.1)).take posts.length := by
    rw [List.map_append, hxe, List.take_append_of_le_length (by simp [hpl])]
  simp only [htake, Rs] at hRr
  obtain ⟨y', vals, o1, o2, hyv, rfl, hR1, hR2⟩ := hRr
  obtain ⟨rfl, rfl⟩ := List.cons.inj hyv
  let V1 : Loc → Value := fun l => match l with
    | .slot u => if u = d then y else V (.slot u)
    | .cell u i => if u = d then cellAt w' y i else if Loc.cell u i ∈ boxW (zipP T posts) then cellAt w' (V (.slot u)) i else V (.cell u i)
  have hV1 : ∀ l, hit (.slot d :: boxW (zipP T posts)) l = false → V1 l = V l := by
    intro l hl
    simp only [hit, List.any_cons, Bool.or_eq_false_iff] at hl
    cases l with
    | slot u =>
      have : u ≠ d := fun e => by subst e; simp at hl
      simp [V1, this]
    | cell u i =>
      have h1 : u ≠ d := fun e => by subst e; simp at hl
      have h2 : Loc.cell u i ∉ boxW (zipP T posts) := fun hm => by
        have := List.any_eq_false.1 hl.2 _ hm
        simp at this
      simp [V1, h1, h2]
  have hTd : ∀ e ∈ T, e.1 ≠ d := fun e he hed => by
    have := List.all_eq_true.1 hdt e he
    rw [hed, Nat.beq_refl] at this; cases this
  have hslotT : (T.map fun e => V1 (.slot e.1)) = T.map fun e => V (.slot e.1) := List.map_congr_left fun e he => by simp [V1, hTd e he]
  have hzT : ∀ {T : List Ent} {ps : List AV} {t : Nat} {av : AV}, (t, av) ∈ zipP T ps → ∃ e ∈ T, e.1 = t := by
    intro T
    induction T with
    | nil => intro ps t av h; cases ps <;> cases h
    | cons e T ih =>
      intro ps t av h
      cases ps with
      | nil => cases h
      | cons p ps =>
        rcases List.mem_cons.1 h with h | h
        · cases h; exact ⟨e, by simp, rfl⟩
        · obtain ⟨e', h1, h2⟩ := ih h; exact ⟨e', by simp [h1], h2⟩
  refine ⟨y, rfl, { g with Imm := fun b => Imm' b }, V1, o2 ++ o1, ⟨rfl, rfl, rfl, rfl, rfl, hI, fun b hb => ?_⟩, fun b hb => ?_, fun b hb => ?_, hchg, hV1, ?_, ?_, ?_, fun b hb => ?_⟩
  · rcases hnew b hb with h | h | h
    · exact .inl h
    · exact .inr (hp.own2 b (by simp [h]))
    · exact .inr (.inl (Nat.le_trans hp.base h.1))
  · rcases hnew b hb with h | h | h
    · exact .inl h
    · exact .inr (.inl h)
    · exact .inr (.inr h.1)
  · rcases hnew b hb with h | h | h
    · exact Nat.lt_of_lt_of_le (hp.imm b (.inl h)) hchg.size
    · exact Nat.lt_of_lt_of_le (hob b h).1 hchg.size
    · exact h.2
  · intro t
    rw [put_getD a d t y (by rw [hp.size]; exact hlt)]
    simp only [V1]
    split
    · rfl
    · exact hp.val t
  · refine Es_append.2 ⟨o2, o1, rfl, ?_, o1, [], by simp, ⟨?_, ?_⟩, rfl⟩
    · refine zipP_Es (V := V) hpl ?_ ?_
      · rw [hslotT]
        exact Rs_closed (g := gh0 w Imm' (fun b => g.Im b ∨ b ∈ oN)) (g' := { g with Imm := fun b => Imm' b }) (fun _ h => h) _ _ o2 hclp (.inr hshp) hR2
      · intro t T' cs hm b zs hb hh hsz i hi
        obtain ⟨e, he, rfl⟩ := hzT hm
        have htd := hTd e he
        have hb' : V (.slot e.1) = .pointer (some ⟨b, 0, none⟩) := by simpa [V1, htd] using hb
        have hmem := boxW_mem hm hi
        simp only [V1, htd, if_false, hmem, if_true, hb']
        obtain ⟨zl⟩ := zs
        exact cellAt_box hh (by simpa using (show i < zl.length by simp at hsz; omega))
    · show R _ _ _ res (V1 (.slot d)) o1
      rw [show V1 (.slot d) = y by simp [V1]]
      exact R_closed (g := gh0 w Imm' (fun b => g.Im b ∨ b ∈ oN)) (g' := { g with Imm := fun b => Imm' b }) (fun _ h => h) res y o1 hcl (.inr hsh) hR1
    · cases res <;> try trivial
      case box T' cs =>
        intro b hb i hi
        dsimp only at hb hi ⊢
        rw [show V1 (.slot d) = y by simp [V1]] at hb
        simp only [R] at hR1
        obtain ⟨b', zs, os, hx', _, hh, hrs⟩ := hR1
        rw [hb] at hx'; cases hx'
        simp only [V1, if_true, hb]
        exact cellAt_box hh (by rw [Rs_length hrs]; exact hi)
  · exact List.perm_append_comm.nodup_iff.1 hndo
  · obtain ⟨h1, h2, h3⟩ := hfr b (by rcases List.mem_append.1 hb with h | h <;> simp [h])
    refine ⟨h1, h2, ?_⟩
    rintro (h | h)
    · exact h3 h
    · rcases h1 with h1 | h1
      · exact (hob b h1).2 (.inr (.inl h))
      · exact absurd (hp.imm b (.inr h)) (by omega)
theorem op_nilCheck (N : List Ent) (d : Nat) (x : Operand) (t off : Nat) (h : dupOp N x = .ptr t off) (hdt : d ≠ t) :
    LOp P ⟨some d, .nilCheck x, ty, pos, aft, gd⟩ N [] [(d, .ptr t off)] [.slot d] := by
  refine LOp.value rfl (by simp [clr, hit, hdt]) rfl fun g V oN a w hp => ?_
  have hR := dupOp_R hp.val hp.esN x
  rw [h] at hR
  simp only [R] at hR
  obtain ⟨b, h1, h2, _⟩ := hR
  refine ⟨a.eval x, ?_, by simp only [R]; exact ⟨b, h1, h2, trivial⟩⟩
  simp [execOp, h2]
theorem Rs_parts {g : Gh} {V : Loc → Value} {w : World} : ∀ {cs : List AV} {xs : List Value} {o : List Nat} (i : Nat), Rs g V w cs xs o → i < cs.length →
    ∃ oa o1 ob, o = oa ++ (o1 ++ ob) ∧ Rs g V w (cs.take i) (xs.take i) oa ∧ R g V w (cs.getD i .any) (xs.getD i undef) o1 ∧ Rs g V w (cs.drop (i + 1)) (xs.drop (i + 1)) ob
  | [], _, _, i, _, hi => by simp at hi
  | c :: cs, xs, o, i, h, hi => by
    simp only [Rs] at h
    obtain ⟨x, xs', o1, o2, rfl, rfl, h1, h2⟩ := h
    cases i with
    | zero => exact ⟨[], o1, o2, rfl, ⟨rfl, rfl⟩, by simpa using h1, by simpa using h2⟩
    | succ i =>
      obtain ⟨oa, o3, ob, rfl, h3, h4, h5⟩ := Rs_parts i h2 (by simpa using hi)
      refine ⟨o1 ++ oa, o3, ob, by simp, ?_, by simpa using h4, by simpa using h5⟩
      simp only [List.take_succ_cons, Rs]
      exact ⟨x, _, o1, oa, rfl, rfl, h1, h3⟩
theorem Rs_join {g : Gh} {V : Loc → Value} {w : World} {cs : List AV} {xs : List Value} {oa o1 ob : List Nat} {av : AV} (i : Nat) (hi : i < cs.length) (hl : xs.length = cs.length)
    (h1 : Rs g V w (cs.take i) (xs.take i) oa) (h2 : R g V w av (xs.getD i undef) o1) (h3 : Rs g V w (cs.drop (i + 1)) (xs.drop (i + 1)) ob) : Rs g V w (cs.set i av) xs (oa ++ (o1 ++ ob)) := by
  rw [List.set_eq_take_append_cons_drop, if_pos hi]
  refine Rs_append.2 ⟨xs.take i, xs.getD i undef :: xs.drop (i + 1), oa, o1 ++ ob, ?_, rfl, h1, ?_⟩
  · have : xs.getD i undef = xs[i]'(by omega) := by simp [List.getD, show i < xs.length by omega]
    rw [this, List.getElem_cons_drop, List.take_append_drop]
  · simp only [Rs]; exact ⟨_, _, o1, ob, rfl, rfl, h2, h3⟩
end
end Go.Abs
end
section
/-
  Rows whose cells are rows in their turn, not written any more.
-/
namespace Go.Abs
theorem RIs_vals {g : Gh} {w : World} {s : Bool} : ∀ {vs xs : List Value}, RIs g w s (vs.map IC.v) xs ↔ xs = vs
  | [], xs => by simp [RIs]
  | v :: vs, xs => by
    simp only [List.map_cons, RIs, RI]
    constructor
    · rintro ⟨x, xs', rfl, rfl, h⟩; rw [RIs_vals.1 h]
    · rintro rfl; exact ⟨v, vs, rfl, rfl, RIs_vals.2 rfl⟩
theorem RIs_length {g : Gh} {w : World} {s : Bool} : ∀ {cs : List IC} {xs : List Value}, RIs g w s cs xs → xs.length = cs.length
  | [], xs, h => by simp only [RIs] at h; simp [h]
  | c :: cs, xs, h => by
    simp only [RIs] at h
    obtain ⟨x, xs', rfl, _, h⟩ := h
    simp [RIs_length h]
theorem RIs_append {g : Gh} {w : World} {s : Bool} : ∀ {cs ds : List IC} {xs ys : List Value}, RIs g w s cs xs → RIs g w s ds ys → RIs g w s (cs ++ ds) (xs ++ ys)
  | [], ds, xs, ys, h, h2 => by simp only [RIs] at h; subst h; exact h2
  | c :: cs, ds, xs, ys, h, h2 => by
    simp only [RIs] at h
    obtain ⟨x, xs', rfl, h1, h⟩ := h
    simp only [List.cons_append, RIs]
    exact ⟨x, _, rfl, h1, RIs_append h h2⟩
theorem RIs_drop {g : Gh} {w : World} {s : Bool} : ∀ (k : Nat) {cs : List IC} {xs : List Value}, RIs g w s cs xs → RIs g w s (cs.drop k) (xs.drop k)
  | 0, _, _, h => h
  | k + 1, [], xs, h => by simp only [RIs] at h; subst h; simp [RIs]
  | k + 1, c :: cs, xs, h => by
    simp only [RIs] at h
    obtain ⟨x, xs', rfl, _, h⟩ := h
    exact RIs_drop k h
theorem RIs_take {g : Gh} {w : World} {s : Bool} : ∀ (k : Nat) {cs : List IC} {xs : List Value}, RIs g w s cs xs → RIs g w s (cs.take k) (xs.take k)
  | 0, _, _, _ => by simp [RIs]
  | k + 1, [], xs, h => by simp only [RIs] at h; subst h; simp [RIs]
  | k + 1, c :: cs, xs, h => by
    simp only [RIs] at h
    obtain ⟨x, xs', rfl, h1, h⟩ := h
    simp only [List.take_succ_cons, RIs]
    exact ⟨x, _, rfl, h1, RIs_take k h⟩
theorem RIs_get {g : Gh} {w : World} {s : Bool} : ∀ {cs : List IC} {xs : List Value} {k : Nat} {c : IC}, RIs g w s cs xs → cs[k]? = some c → ∃ x, xs[k]? = some x ∧ RI g w s c x
  | [], _, _, _, _, h => by simp at h
  | c :: cs, xs, 0, c', h, hc => by
    simp only [RIs] at h
    obtain ⟨x, xs', rfl, h1, h⟩ := h
    simp only [List.getElem?_cons_zero, Option.some.injEq] at hc
    subst hc
    exact ⟨x, rfl, h1⟩
  | c :: cs, xs, k + 1, c', h, hc => by
    simp only [RIs] at h
    obtain ⟨x, xs', rfl, h1, h⟩ := h
    obtain ⟨y, hy, hr⟩ := RIs_get h (by simpa using hc)
    exact ⟨y, by simpa using hy, hr⟩
theorem RIs_weak {g : Gh} {w : World} {s s' : Bool} (h : s = true → s' = true) {cs : List IC} {xs : List Value} (hr : RIs g w s cs xs) : RIs g w s' cs xs :=
  RIs_stab (fun b hb => by
    cases s with
    | true => rw [h rfl]; exact hb
    | false => cases s' with
      | true => exact .inl hb
      | false => exact hb) (fun _ _ => rfl) cs xs hr
def mdS : Bool → Md
  | true => .shr
  | false => .ro
inductive IA (s : Bool) : IC → AV → Prop
  | v (x : Value) : IA s (.v x) (.v x)
  | fl (z : Nat) (xs : List Value) {cs : List IC} (h : cs = xs.map IC.v) : IA s (.row z cs) (.fl (mdS s) z xs)
  | fr (z : Nat) (cs : List IC) : IA s (.row z cs) (.fr (mdS s) s z cs)
inductive IAs (s : Bool) : List IC → List AV → Prop
  | nil : IAs s [] []
  | cons {c : IC} {av : AV} {cs : List IC} {avs : List AV} (h : IA s c av) (hs : IAs s cs avs) : IAs s (c :: cs) (av :: avs)
theorem modeOk_mdS {g : Gh} {w : World} {s : Bool} {z n : Nat} {x : Value} {a : Option Addr} {vs : List Value} (h : vs ≠ [] → ∃ ad, a = some ad ∧ immB g s ad.block) : modeOk g w (mdS s) z x n a vs [] := by
  cases s
  · exact ⟨rfl, h⟩
  · exact ⟨rfl, h⟩
theorem IA_R {g : Gh} {V : Loc → Value} {w : World} {s : Bool} {c : IC} {av : AV} {x : Value} (h : IA s c av) (hr : RI g w s c x) : R g V w av x [] := by
  cases h with
  | v y => simp only [RI] at hr; simp [R, hr]
  | fl z xs h =>
    subst h
    simp only [RI] at hr
    obtain ⟨vs, a, n, c, h1, h2, h3, h4, h5, h6⟩ := hr
    obtain rfl := RIs_vals.1 h6
    simp only [R]
    exact ⟨a, n, c, h1, h2, h3, h4, modeOk_mdS h5⟩
  | fr z cs =>
    simp only [RI] at hr
    obtain ⟨vs, a, n, c, h1, h2, h3, h4, h5, h6⟩ := hr
    simp only [R]
    exact ⟨vs, a, n, c, h1, h2, h3, h4, modeOk_mdS h5, h6⟩
theorem IAs_R {g : Gh} {V : Loc → Value} {w : World} {s : Bool} {cs : List IC} {avs : List AV} (h : IAs s cs avs) : ∀ {xs : List Value}, RIs g w s cs xs → Rs g V w avs xs [] := by
  induction h with
  | nil => intro xs h; simp only [RIs] at h; simp [Rs, h]
  | cons h hs ih =>
    intro xs hr
    simp only [RIs] at hr
    obtain ⟨x, xs', rfl, h1, h2⟩ := hr
    simp only [Rs]
    exact ⟨x, xs', [], [], rfl, rfl, IA_R h h1, ih h2⟩
theorem IA_clr {s : Bool} {c : IC} {av : AV} (h : IA s c av) (W : List Loc) : clr W av = true ∧ noBox av = true := by
  cases h <;> exact ⟨rfl, rfl⟩
theorem IAs_clr {s : Bool} {cs : List IC} {avs : List AV} (h : IAs s cs avs) (W : List Loc) : clrs W avs = true := by
  induction h with
  | nil => rfl
  | cons h _ ih => simp [clrs, ih, (IA_clr h W).1]
inductive AI (s : Bool) : AV → IC → Prop
  | v (x : Value) : AI s (.v x) (.v x)
  | ro (z : Nat) (xs : List Value) {cs : List IC} (h : cs = xs.map IC.v) : AI s (.fl .ro z xs) (.row z cs)
  | shr (z : Nat) (xs : List Value) {cs : List IC} (hs : s = true) (h : cs = xs.map IC.v) : AI s (.fl .shr z xs) (.row z cs)
  | fro (z : Nat) (cs : List IC) : AI s (.fr .ro false z cs) (.row z cs)
  | fsh (m : Md) (s' : Bool) (z : Nat) (cs : List IC) (hm : notOwn m = true) (hs : s = true) : AI s (.fr m s' z cs) (.row z cs)
  | nil (z : Nat) : AI s (.v (.slice none 0 0)) (.row z [])
inductive AIs (s : Bool) : List AV → List IC → Prop
  | nil : AIs s [] []
  | cons {c : IC} {av : AV} {cs : List IC} {avs : List AV} (h : AI s av c) (hs : AIs s avs cs) : AIs s (av :: avs) (c :: cs)
theorem AI_R {g : Gh} {V : Loc → Value} {w : World} {s : Bool} {c : IC} {av : AV} {x : Value} {o : List Nat} (h : AI s av c) (hr : R g V w av x o) : RI g w s c x := by
  cases h with
  | v y => simp only [R] at hr; simp [RI, hr.1]
  | ro z xs h =>
    subst h
    simp only [R, modeOk] at hr
    obtain ⟨a, n, c, h1, h2, h3, h4, _, h5⟩ := hr
    simp only [RI]
    exact ⟨xs, a, n, c, h1, h2, h3, h4, fun hne => let ⟨ad, e, hi⟩ := h5 hne; ⟨ad, e, by cases s <;> first | exact hi | exact .inl hi⟩, RIs_vals.2 rfl⟩
  | shr z xs hs h =>
    subst h; subst hs
    simp only [R, modeOk] at hr
    obtain ⟨a, n, c, h1, h2, h3, h4, _, h5⟩ := hr
    simp only [RI]
    exact ⟨xs, a, n, c, h1, h2, h3, h4, h5, RIs_vals.2 rfl⟩
  | fro z cs =>
    simp only [R, modeOk] at hr
    obtain ⟨vs, a, n, c, h1, h2, h3, h4, ⟨_, h5⟩, h6⟩ := hr
    simp only [RI]
    exact ⟨vs, a, n, c, h1, h2, h3, h4, fun hne => let ⟨ad, e, hi⟩ := h5 hne; ⟨ad, e, by cases s <;> first | exact hi | exact .inl hi⟩, RIs_weak (by simp) h6⟩
  | fsh m s' z cs hm hs =>
    subst hs
    simp only [R] at hr
    obtain ⟨vs, a, n, c, h1, h2, h3, h4, h5, h6⟩ := hr
    simp only [RI]
    refine ⟨vs, a, n, c, h1, h2, h3, h4, fun hne => ?_, RIs_weak (fun _ => rfl) h6⟩
    cases m with
    | own T => cases hm
    | ro => obtain ⟨ad, e, hi⟩ := h5.2 hne; exact ⟨ad, e, .inl hi⟩
    | shr => exact h5.2 hne
  | nil z =>
    simp only [R] at hr
    simp only [RI]
    exact ⟨[], none, 0, 0, ⟨hr.1, Nat.le_refl _⟩, by simp, by simp, fun h => absurd rfl h, fun h => absurd rfl h, by simp [RIs]⟩
theorem AIs_R {g : Gh} {V : Loc → Value} {w : World} {s : Bool} {cs : List IC} {avs : List AV} (h : AIs s avs cs) : ∀ {xs : List Value} {o : List Nat}, Rs g V w avs xs o → RIs g w s cs xs := by
  induction h with
  | nil => intro xs o h; simp only [Rs] at h; simp [RIs, h.1]
  | cons h hs ih =>
    intro xs o hr
    simp only [Rs] at hr
    obtain ⟨x, xs', o1, o2, rfl, rfl, h1, h2⟩ := hr
    simp only [RIs]
    exact ⟨x, xs', rfl, AI_R h h1, ih h2⟩
theorem fr_fl {g : Gh} {V : Loc → Value} {w : World} {m : Md} {s : Bool} {z : Nat} {cs : List IC} {x : Value} {o : List Nat} (h : R g V w (.fr m s z cs) x o) :
    ∃ vs, R g V w (.fl m z vs) x o ∧ RIs g w s cs vs := by
  simp only [R] at *
  obtain ⟨vs, a, n, c, h1, h2, h3, h4, h5, h6⟩ := h
  exact ⟨vs, ⟨a, n, c, h1, h2, h3, h4, h5⟩, h6⟩
theorem fl_fr {g : Gh} {V : Loc → Value} {w : World} {m : Md} {s : Bool} {z : Nat} {cs : List IC} {vs : List Value} {x : Value} {o : List Nat} (h : R g V w (.fl m z vs) x o) (h2 : RIs g w s cs vs) :
    R g V w (.fr m s z cs) x o := by
  simp only [R] at *
  obtain ⟨a, n, c, h1, h2', h3, h4, h5⟩ := h
  exact ⟨vs, a, n, c, h1, h2', h3, h4, h5, h2⟩
theorem sub_nil_fr (E : TypeId) (s : Bool) (z : Nat) : Sub (.v (.slice none 0 0)) (.fr (.own E) s z []) := fun g V w x o h =>
  fl_fr (vs := []) (sub_nil E z g V w x o h) (by simp [RIs])
section
variable {P : Program} {ty : TypeId} {pos : String} {aft : Array Edge} {gd : Option (Nat × Bool)}
theorem op_len_fr (N : List Ent) (d : Nat) {t t' e : TypeId} {x : Operand} {m : Md} {s : Bool} {z : Nat} {cs : List IC} (n : Nat) (hT : P.underlying t = some (.slice e)) (hx : rd N x = .fr m s z cs) (hz : 0 < z) (hn : cs.length = n * z) :
    LOp P ⟨some d, .call ⟨.builtin .len, #[x], #[t]⟩, t', pos, aft, gd⟩ N [] [(d, .v (.int .i64 (n : Int)))] [.slot d] := by
  refine LOp.v rfl fun g V oN ac w hp => ?_
  obtain ⟨o', _, hr⟩ := rd_R hp.val hp.esN x
  rw [hx] at hr
  obtain ⟨vs, hr, hi⟩ := fr_fl hr
  have hvl := RIs_length hi
  simp only [R] at hr
  obtain ⟨a, n', c, ⟨he, _⟩, hl, _⟩ := hr
  have : n' = n := Nat.eq_of_mul_eq_mul_right hz (by omega)
  subst this
  simp [execOp, resolve, invoke, builtin, Builtin.len_, he, run_underlying hT, goInt]
theorem op_ix_fr (N : List Ent) (d : Nat) {T e : TypeId} (x : Nat) (y : Operand) {kd : IntKind} {m : Md} {s : Bool} {cs : List IC} (nn : Int) (i z : Nat) (l : Loc) (hT : P.underlying T = some (.slice e)) (hz : (P.info? e).map (·.size) = some z) (h0 : 0 < z)
    (hx : rd N (.tmp x) = .fr m s z cs) (hl : locOf N (.tmp x) = l) (hy : rd N y = .v (.int kd nn)) (hnn : nn = (i : Int)) (hi : i * z + z ≤ cs.length) (hd : hit [.slot d] l = false) :
    LOp P ⟨some d, .indexAddr T (.tmp x) y, ty, pos, aft, gd⟩ N [] [(d, .eref l (i * z))] [.slot d] := by
  subst hnn
  refine LOp.value rfl (by simp [clr, hd]) rfl fun g V oN a w hp => ?_
  obtain ⟨o', _, hR⟩ := rd_R hp.val hp.esN (.tmp x)
  rw [hx] at hR
  obtain ⟨xs, hR, hic⟩ := fr_fl hR
  rw [← RIs_length hic] at hi
  simp only [R] at hR
  obtain ⟨ad, n, c, ⟨he, _⟩, hlen, _, hrd, _⟩ := hR
  have hne : xs ≠ [] := fun e => by subst e; simp at hi; omega
  obtain ⟨A, rfl, _⟩ := hrd hne
  have hin : i < n := by
    rw [hlen] at hi
    have : (i + 1) * z ≤ n * z := by rw [Nat.add_mul]; omega
    exact Nat.lt_of_succ_le (Nat.le_of_mul_le_mul_right this h0)
  have h3 := rd_v hp.val hp.esN hy
  have hV : V l = .slice (some A) n c := by
    rw [← hl, ← he]
    simp only [locOf]
    obtain ⟨o2, _, h2⟩ := opv_R hp.val hp.esN (.tmp x)
    simp only [opv] at h2
    cases hlk : look N x with
    | same l' => rw [hlk] at h2; simp only [R] at h2; exact h2.1.symm
    | _ => simp only [hp.val, Act.eval]
  refine ⟨.pointer (some (A.add (i * z))), ?_, by simp only [R]; exact ⟨A, n, c, hV, rfl, trivial⟩⟩
  simp [execOp, Instr.indexAt, Sem.run_bind, run_underlying hT, he, h3, asIntOf, run_sizeOf' hz, hin]
theorem op_load_fr (N : List Ent) (d : Nat) {T : TypeId} {td : TypeDesc} (x : Operand) {m : Md} {s : Bool} {z : Nat} {cs : List IC} (l : Loc) (k : Nat) (ic : IC) (av : AV) (hT : P.underlying T = some td) (ha : isAggD td = false)
    (hx : dupOp N x = .eref l k) (hl : locv N l = .fr m s z cs) (hv : cs[k]? = some ic) (hia : IA s ic av) :
    LOp P ⟨some d, .load T x, ty, pos, aft, gd⟩ N [] [(d, av)] [.slot d] := by
  refine LOp.value rfl (IA_clr hia _).1 (IA_clr hia []).2 fun g V oN a w hp => ?_
  have hR := dupOp_R hp.val hp.esN x
  rw [hx] at hR
  simp only [R] at hR
  obtain ⟨ad, n, c, h1, h2, _⟩ := hR
  obtain ⟨o', _, h3⟩ := locv_R hp.esN l
  rw [hl] at h3
  obtain ⟨vs, h3, hic⟩ := fr_fl h3
  obtain ⟨v, hv', hri⟩ := RIs_get hic hv
  simp only [R] at h3
  obtain ⟨A, n', c', ⟨h4, _⟩, _, _, hrd, _⟩ := h3
  rw [h1] at h4; cases h4
  obtain ⟨ad', e, hc⟩ := hrd (fun e => by subst e; simp at hv')
  cases e
  refine ⟨v, ?_, IA_R hia hri⟩
  simp [execOp, Instr.loadAt, h2, Instr.sureAddr, run_load1 hT ha (hc k v hv')]
theorem op_loadA_fr (N : List Ent) (d : Nat) {T : TypeId} {td : TypeDesc} (x : Operand) {m : Md} {s : Bool} {z : Nat} {cs : List IC} (l : Loc) (k sz : Nat) (ics : List IC) (avs : List AV) (hT : P.underlying T = some td) (ha : isAggD td = true) (hs : (P.info? T).map (·.size) = some sz)
    (hx : dupOp N x = .eref l k) (hl : locv N l = .fr m s z cs) (hv : (cs.drop k).take sz = ics) (hia : IAs s ics avs) (hlen : ics.length = sz) (h0 : 0 < sz) :
    LOp P ⟨some d, .load T x, ty, pos, aft, gd⟩ N [] [(d, .agg avs)] [.slot d] := by
  refine LOp.value rfl (by simp only [clr]; exact IAs_clr hia _) rfl fun g V oN a w hp => ?_
  have hR := dupOp_R hp.val hp.esN x
  rw [hx] at hR
  simp only [R] at hR
  obtain ⟨ad, n, c, h1, h2, _⟩ := hR
  obtain ⟨o', _, h3⟩ := locv_R hp.esN l
  rw [hl] at h3
  obtain ⟨xs, h3, hic⟩ := fr_fl h3
  have hvs := RIs_take sz (RIs_drop k hic)
  rw [hv] at hvs
  have hvl := RIs_length hvs
  simp only [R] at h3
  obtain ⟨A, n', c', ⟨h4, _⟩, _, _, hrd, _⟩ := h3
  rw [h1] at h4; cases h4
  obtain ⟨ad', e, hc⟩ := hrd (fun e => by subst e; simp at hvl; omega)
  cases e
  generalize hvse : (xs.drop k).take sz = vs at *
  refine ⟨.agg vs.toArray, ?_, by simp only [R]; exact ⟨vs, rfl, IAs_R hia hvs⟩⟩
  have hload := run_loadA (P := P) (w := w) (a := ad.add k) (xs := vs) hT ha hs (by omega) (fun j v hj => by
    rw [add_add]
    refine hc (k + j) v ?_
    rw [← hvse] at hj
    simp only [List.getElem?_take, List.getElem?_drop] at hj
    split at hj
    · exact hj
    · cases hj)
  simp [execOp, Instr.loadAt, h2, Instr.sureAddr, hload]
theorem op_build1_fr (N : List Ent) (d : Nat) {T e : TypeId} (x : Operand) (z : Nat) (zv : Value) (s : Bool) (av : AV) (ics : List IC) (hT : P.underlying T = some (.slice e)) (hz : (P.info? e).map (·.size) = some z)
    (hzv : (P.info? e).bind (·.zero) = some zv) (h : dupOp N x = av) (hok : cellsOk N av = true) (hai : AIs s (vcells av) ics) (hl : ics.length = z) (h0 : 0 < z) (hsm : z ≤ 16777216) :
    LOp P ⟨some d, .buildSlice T 1 #[(0, x)], ty, pos, aft, gd⟩ N [] [(d, .fr (.own e) s z ics)] [.slot d] := by
  refine LOp.fresh rfl rfl fun g V oN a w hp => ?_
  have hR := dupOp_R hp.val hp.esN x
  rw [h] at hR
  obtain ⟨h1, hone⟩ := vcells_R hp.esN hok hR
  have hri := AIs_R hai h1
  have hcl : (a.eval x).cells.toList.length = z := by rw [RIs_length hri, hl]
  have hcs : (a.eval x).cells.size = z := by simpa using hcl
  have hfill : Instr.fill (fun i => some (i * z, z)) ((Array.range (1 * z)).map (zv.cells[· % zv.cells.size]!)) [(0, a.eval x)] = some (a.eval x).cells := by
    have hno : ¬ ((a.eval x).cells.size ≠ z ∨ 0 * z + (a.eval x).cells.size > ((Array.range (1 * z)).map (zv.cells[· % zv.cells.size]!)).size) := by
      rw [Array.size_map, Array.size_range, hcs]; omega
    unfold Instr.fill
    simp only []
    rw [if_neg (by rw [Bool.or_eq_true, decide_eq_true_iff, decide_eq_true_iff]; exact hno)]
    unfold Instr.fill
    congr 1
    have := fold_splice (a.eval x).cells.toList (0 * z) ((Array.range (1 * z)).map (zv.cells[· % zv.cells.size]!)) 0 (by simp [hcs])
    apply Array.toList_inj.1
    rw [← Array.foldl_toList, Array.toList_zipIdx]
    refine Eq.trans ?_ (this.trans ?_)
    · rfl
    · simp only [Nat.zero_mul, Nat.zero_add, List.take_zero, List.nil_append]
      rw [List.drop_eq_nil_of_le (by simp [hcs]), List.append_nil]
  have hr : (execOp a.eval ⟨some d, .buildSlice T 1 #[(0, x)], ty, pos, aft, gd⟩).run P w = .ok (.value (.slice (some ⟨w.heap.size, 0, none⟩) 1 1)) (w.alloc (.cells (a.eval x).cells e)) := by
    have hbig : ¬ 1 * z > 2 ^ 24 := by omega
    have hnz : ¬ 1 * z = 0 := by omega
    simp only [execOp, Instr.buildSlice, Sem.run_bind, run_underlying hT, Result.andThen_ok, run_sizeOf' hz, hbig, if_false, hnz, run_zero hzv]
    have e1 : ((#[(0, x)] : Array (Nat × Operand)).map fun (i, x) => (i, a.eval x)).toList = [(0, a.eval x)] := by simp
    simp only [Sem.run_pure, Result.andThen_ok]
    rw [e1, hfill]
    simp [newRow, newObj]
    rfl
  have hown := World.ownsRow_lit (base := 0) (e := e) (size := z) w (a.eval x).cells 1 (Nat.zero_le _) (by simp only [maxLen]; omega) (by omega)
  refine (Yl.val hr).mono ?_
  rintro v w2 ⟨rfl, rfl⟩
  refine ⟨Chg.alloc _ _ _, g, [w.heap.size], g.le_refl, fun b hb => .inl hb, fl_fr (own_fl hown hone) (RIs_stab (fun b h => h) (fun b hb => heap_alloc_old w _ b (hp.imm b hb)) ics _ hri), by simp, ?_⟩
  intro b hb
  simp at hb; subst hb
  exact ⟨Nat.le_refl _, by simp, fun hi => Nat.lt_irrefl _ (hp.imm _ (.inl hi))⟩
theorem op_build1_fr_take (N : List Ent) (d t : Nat) {T e : TypeId} (z : Nat) (zv : Value) (s : Bool) (av : AV) (ics : List IC) (hT : P.underlying T = some (.slice e)) (hz : (P.info? e).map (·.size) = some z)
    (hzv : (P.info? e).bind (·.zero) = some zv) (hok : cellsOk [] (frz av) = true) (hai : AIs s (vcells (frz av)) ics) (hl : ics.length = z) (h0 : 0 < z) (hsm : z ≤ 16777216) :
    LOp P ⟨some d, .buildSlice T 1 #[(0, .tmp t)], ty, pos, aft, gd⟩ N [(t, av)] [(d, .fr (.own e) s z ics)] [.slot d] := by
  refine LOp.core fun g V oN oT a w hd hp => ?_
  have hT' := hp.esT
  simp only [Es] at hT'
  obtain ⟨ot, o2', rfl, ⟨hR0, _⟩, rfl⟩ := hT'
  have he : a.eval (.tmp t) = V (.slot t) := by rw [hp.val]; rfl
  obtain ⟨o', o2, hperm, hfr⟩ := R_frz av _ ot hR0
  let g' : Gh := { g with Imm := fun b => g.Imm b ∨ b ∈ o2 }
  have ho2 : ∀ b ∈ o2, b ∈ ot := fun b hb => hperm.mem_iff.2 (by simp [hb])
  have hR := hfr g' (fun b hb => .inl hb) (fun b hb => hb) (fun b hb => .inr hb)
  rw [← he] at hR
  obtain ⟨h1, hone⟩ := vcells_R (NT := []) (oNT := []) (g := g') (V := V) (w := w) rfl hok hR
  have hri := AIs_R hai h1
  have hcl : (a.eval (.tmp t)).cells.toList.length = z := by rw [RIs_length hri, hl]
  have hcs : (a.eval (.tmp t)).cells.size = z := by simpa using hcl
  have hfill : Instr.fill (fun i => some (i * z, z)) ((Array.range (1 * z)).map (zv.cells[· % zv.cells.size]!)) [(0, a.eval (.tmp t))] = some (a.eval (.tmp t)).cells := by
    have hno : ¬ ((a.eval (.tmp t)).cells.size ≠ z ∨ 0 * z + (a.eval (.tmp t)).cells.size > ((Array.range (1 * z)).map (zv.cells[· % zv.cells.size]!)).size) := by
      rw [Array.size_map, Array.size_range, hcs]; omega
    unfold Instr.fill
    simp only []
    rw [if_neg (by rw [Bool.or_eq_true, decide_eq_true_iff, decide_eq_true_iff]; exact hno)]
    unfold Instr.fill
    congr 1
    have := fold_splice (a.eval (.tmp t)).cells.toList (0 * z) ((Array.range (1 * z)).map (zv.cells[· % zv.cells.size]!)) 0 (by simp [hcs])
    apply Array.toList_inj.1
    rw [← Array.foldl_toList, Array.toList_zipIdx]
    refine Eq.trans ?_ (this.trans ?_)
    · rfl
    · simp only [Nat.zero_mul, Nat.zero_add, List.take_zero, List.nil_append]
      rw [List.drop_eq_nil_of_le (by simp [hcs]), List.append_nil]
  have hr : (execOp a.eval ⟨some d, .buildSlice T 1 #[(0, .tmp t)], ty, pos, aft, gd⟩).run P w = .ok (.value (.slice (some ⟨w.heap.size, 0, none⟩) 1 1)) (w.alloc (.cells (a.eval (.tmp t)).cells e)) := by
    have hbig : ¬ 1 * z > 2 ^ 24 := by omega
    have hnz : ¬ 1 * z = 0 := by omega
    simp only [execOp, Instr.buildSlice, Sem.run_bind, run_underlying hT, Result.andThen_ok, run_sizeOf' hz, hbig, if_false, hnz, run_zero hzv]
    have e1 : ((#[(0, .tmp t)] : Array (Nat × Operand)).map fun (i, x) => (i, a.eval x)).toList = [(0, a.eval (.tmp t))] := by simp
    simp only [Sem.run_pure, Result.andThen_ok]
    rw [e1, hfill]
    simp [newRow, newObj]
    rfl
  have hown := World.ownsRow_lit (base := 0) (e := e) (size := z) w (a.eval (.tmp t)).cells 1 (Nat.zero_le _) (by simp only [maxLen]; omega) (by omega)
  refine (Yl.val hr).mono ?_
  rintro v w2 ⟨rfl, rfl⟩
  have hlt : d < g.n := hd d rfl
  have hot : ∀ b ∈ ot, b < w.heap.size ∧ ¬ g.imm b := fun b hb => hp.own b (by simp [hb])
  have himm' : ∀ b, g'.imm b → b < w.heap.size := by
    rintro b ((hb | hb) | hb)
    · exact hp.imm b (.inl hb)
    · exact (hot b (ho2 b hb)).1
    · exact hp.imm b (.inr hb)
  refine ⟨g', setV V d _, [w.heap.size], ⟨rfl, rfl, rfl, rfl, rfl, fun b hb => .inl hb, fun b hb => hb.imp id fun h => hp.own2 b (by simp [ho2 b h])⟩, fun b hb => ?_, fun b hb => ?_, (Chg.alloc _ _ _), fun l hl => setV_hit hl, fun u => setV_val hp.val hp.size hlt u, ?_, by simp, ?_⟩
  · exact hb.imp id fun h => .inl (by simpa using ho2 b h)
  · exact Nat.lt_of_lt_of_le (himm' b (.inl hb)) (Chg.alloc [] w _).size
  · refine ⟨[w.heap.size], [], by simp, ⟨?_, trivial⟩, rfl⟩
    show R g' _ _ _ (setV V d _ (.slot d)) _
    rw [setV_slot]
    exact fl_fr (own_fl hown hone) (RIs_stab (fun b h => h) (fun b hb => heap_alloc_old w _ b (himm' b hb)) ics _ hri)
  · intro b hb
    simp at hb; subst hb
    exact ⟨.inr (Nat.le_refl _), by simp, fun hi => Nat.lt_irrefl _ (himm' _ hi)⟩
theorem op_app_nil_fr {A : Type} (N : List Ent) (d : Nat) {T e t' : TypeId} (x y : Operand) {z by_ : Nat} {my : Md} {s : Bool} {ys zs : List IC} {l m q : List A} (hE : ElemT P T e z by_) (hx : rd N x = .v (.slice none 0 0)) (hy : rd N y = .fr my s z ys) (hm : ys.length = m.length * z)
    (hq : appO by_ l m = some q) (hz : ys = zs) :
    LOp P ⟨some d, .call ⟨.builtin .append, #[x, y], #[T, T]⟩, t', pos, aft, gd⟩ N [] [(d, .fr (.own e) s z zs)] [.slot d] := by
  subst hz
  unfold appO at hq
  split at hq
  case isFalse => cases hq
  rename_i hlim
  obtain ⟨i, zv, hT, hi, hz, hs, hzc, h0, rfl⟩ := hE.ex
  refine LOp.fresh rfl rfl fun g V oN a w hp => ?_
  have h1 := rd_v hp.val hp.esN hx
  obtain ⟨o', _, hr⟩ := rd_R hp.val hp.esN y
  rw [hy] at hr
  obtain ⟨vs, hr, hic⟩ := fr_fl hr
  rw [← RIs_length hic] at hm
  simp only [R] at hr
  obtain ⟨A, m', c, ⟨he, _⟩, hl, hone, hrd, _⟩ := hr
  have : m' = m.length := Nat.eq_of_mul_eq_mul_right h0 (by omega)
  subst this
  obtain ⟨v', w', hrun, hown, hg, hblk⟩ := run_append_fl (P := P) (ty := t') (c := c) hT hi hz hs hzc h0 (World.ownsRow_nil w 0 e z) hl hrd hone (by simp only [maxLen]; omega) (by simpa using Nat.le_trans (Nat.mul_le_mul_right _ (by omega)) hlim.1)
  refine (Yl.val (by simp [execOp, resolve, invoke, builtin, h1, he, hrun] : (execOp a.eval ⟨some d, .call ⟨.builtin .append, #[x, y], #[T, T]⟩, t', pos, aft, gd⟩).run P w = .ok (.value v') w')).mono ?_
  rintro v w2 ⟨rfl, rfl⟩
  have hchg : Chg [] w w2 := (Chg.of_grown hg).mono (by simp [Value.ownBlock])
  simp only [List.nil_append] at hown
  refine ⟨hchg, g, v.ownBlock.toList, g.le_refl, fun b hb => .inl hb, fl_fr (own_fl hown hone) (RIs_stab (fun b h => h) (fun b hb => hchg.block b (hp.imm b hb) (by simp)) _ _ hic), by cases v.ownBlock <;> simp, ?_⟩
  intro b hb'
  have hvb : v.ownBlock = some b := by cases hv : v.ownBlock <;> simp [hv] at hb' ⊢; exact hb'.symm
  have hlt := (hown.lt b hvb).2
  rcases hblk with h | h
  · rw [h] at hvb; cases hvb
  · rw [hvb] at h
    cases h
    exact ⟨Nat.le_refl _, hlt, fun hi => Nat.lt_irrefl _ (hp.imm _ (.inl hi))⟩
theorem op_app_fr {A : Type} (N : List Ent) (d t : Nat) {T e t' : TypeId} (x y : Operand) {z by_ : Nat} {my : Md} {s s1 s2 : Bool} {xs ys zs : List IC} {l m q : List A} (hE : ElemT P T e z by_) (hx : dupOp (N ++ [(t, .fr (.own e) s1 z xs)]) x = .same (.slot t)) (hy : rd N y = .fr my s2 z ys)
    (hn : xs.length = l.length * z) (hm : ys.length = m.length * z) (hq : appO by_ l m = some q) (hz : xs ++ ys = zs) (hs1 : s1 = true → s = true) (hs2 : s2 = true → s = true) :
    LOp P ⟨some d, .call ⟨.builtin .append, #[x, y], #[T, T]⟩, t', pos, aft, gd⟩ N [(t, .fr (.own e) s1 z xs)] [(t, .any), (d, .fr (.own e) s z zs)] [.slot d] := by
  subst hz
  unfold appO at hq
  split at hq
  case isFalse => cases hq
  rename_i hlim
  obtain ⟨i, zv, hT, hi, hz, hs, hzc, h0, rfl⟩ := hE.ex
  refine LOp.core fun g V oN oT a w hd hp => ?_
  have hT' := hp.esT
  simp only [Es] at hT'
  obtain ⟨ob, o2, rfl, ⟨hR, _⟩, rfl⟩ := hT'
  have hax := dupOp_R hp.val (Es_append.2 ⟨oN, _, rfl, hp.esN, hp.esT⟩) x
  rw [hx] at hax
  obtain ⟨us, hR, hix⟩ := fr_fl hR
  rw [← RIs_length hix] at hn
  simp only [R] at hax hR
  obtain ⟨a0, n0, c0, ⟨h3, _⟩, hl0, hone0, _, hown, hob⟩ := hR
  obtain ⟨o', _, hr⟩ := rd_R hp.val hp.esN y
  rw [hy] at hr
  obtain ⟨vs, hr, hiy⟩ := fr_fl hr
  rw [← RIs_length hiy] at hm
  simp only [R] at hr
  obtain ⟨A, m', c, ⟨he, _⟩, hl, hone, hrd, _⟩ := hr
  have em : m' = m.length := Nat.eq_of_mul_eq_mul_right h0 (by omega)
  subst em
  have en : n0 = l.length := Nat.eq_of_mul_eq_mul_right h0 (by omega)
  subst en
  obtain ⟨v', w', hrun, hown', hg, hblk⟩ := run_append_fl (P := P) (ty := t') (c := c) hT hi hz hs hzc h0 hown hl hrd hone (by simp only [maxLen]; omega) (by simpa using hlim.1)
  have hrun' : (execOp a.eval ⟨some d, .call ⟨.builtin .append, #[x, y], #[T, T]⟩, t', pos, aft, gd⟩).run P w = .ok (.value v') w' := by
    have h4 : a.eval x = V (.slot t) := hax.1
    simp [execOp, resolve, invoke, builtin, he, h4, hrun]
  refine (Yl.val hrun').mono ?_
  rintro v w2 ⟨rfl, rfl⟩
  have hlt : d < g.n := hd d rfl
  have hchg : Chg ob w w2 := by rw [hob]; exact Chg.of_grown hg
  have himm : ∀ b, g.imm b → w2.heap[b]? = w.heap[b]? := fun b hb => hchg.block b (hp.imm b hb) fun hb' => (hp.own b (by simp [hb'])).2 hb
  refine ⟨g, setV V d v, v.ownBlock.toList, g.le_refl, fun b hb => .inl hb, fun b hb => Nat.lt_of_lt_of_le (hp.imm b (.inl hb)) hchg.size, by simpa using hchg, fun l hl => setV_hit hl, fun u => setV_val hp.val hp.size hlt u, ?_, by cases v.ownBlock <;> simp, ?_⟩
  · refine ⟨[], v.ownBlock.toList, rfl, ⟨by simp [R], trivial⟩, v.ownBlock.toList, [], by simp, ⟨?_, trivial⟩, rfl⟩
    show R g _ _ _ (setV V d v (.slot d)) _
    rw [setV_slot]
    refine fl_fr (own_fl hown' fun u hu => ?_) (RIs_stab (fun b h => h) himm _ _ (RIs_append (RIs_weak hs1 hix) (RIs_weak hs2 hiy)))
    rcases List.mem_append.1 hu with h | h
    · exact hone0 u h
    · exact hone u h
  · intro b hb'
    have hvb : v.ownBlock = some b := by cases hv : v.ownBlock <;> simp [hv] at hb' ⊢; exact hb'.symm
    have hlt2 := (hown'.lt b hvb).2
    rcases hblk with h | h
    · have hin : b ∈ ob := by rw [hob, ← h, hvb]; simp
      exact ⟨.inl (by simp [hin]), hlt2, (hp.own b (by simp [hin])).2⟩
    · rw [hvb] at h
      cases h
      refine ⟨.inr (Nat.le_refl _), hlt2, fun hi => Nat.lt_irrefl _ (hp.imm _ hi)⟩
theorem op_slice_fr (N : List Ent) (d : Nat) {T e : TypeId} {x : Operand} {lo hi : Option Operand} {m : Md} {s : Bool} {z : Nat} {cs : List IC} (l h : Nat) (ds : List IC) (hT : P.underlying T = some (.slice e)) (hz : (P.info? e).map (·.size) = some z) (h0 : 0 < z)
    (hx : rd N x = .fr m s z cs) (hm : notOwn m = true)
    (hl : match lo with | some y => ∃ k, rd N y = .v (.int k (l : Int)) | none => l = 0) (hh : match hi with | some y => ∃ k, rd N y = .v (.int k (h : Int)) | none => h * z = cs.length) (h1 : l ≤ h) (h2 : h * z ≤ cs.length) (hds : (cs.drop (l * z)).take ((h - l) * z) = ds) :
    LOp P ⟨some d, .slice T x lo hi none, ty, pos, aft, gd⟩ N [] [(d, .fr m s z ds)] [.slot d] := by
  refine LOp.value rfl rfl rfl fun g V oN a w hp => ?_
  obtain ⟨o', _, hr⟩ := rd_R hp.val hp.esN x
  rw [hx] at hr
  obtain ⟨xs, hr, hic⟩ := fr_fl hr
  rw [← RIs_length hic] at h2 hh
  have hys2 := RIs_take ((h - l) * z) (RIs_drop (l * z) hic)
  rw [hds] at hys2
  obtain ⟨ys, hys⟩ : ∃ ys, (xs.drop (l * z)).take ((h - l) * z) = ys := ⟨_, rfl⟩
  rw [hys] at hys2
  simp only [R] at hr
  obtain ⟨A, n, c, ⟨he, hnc⟩, hlen, hone, hrd, hmo⟩ := hr
  have hhn : h ≤ n := by rw [hlen] at h2; exact Nat.le_of_mul_le_mul_right h2 h0
  have hln : l ≤ n := by omega
  have hylen : ys.length = (h - l) * z := by
    rw [← hys]
    have : l * z + (h - l) * z ≤ xs.length := by rw [← Nat.add_mul]; rw [show l + (h - l) = h by omega]; exact h2
    simp; omega
  have hsub : ∀ (j : Nat) (u : Value), ys[j]? = some u → xs[l * z + j]? = some u := by
    intro j u hu
    rw [← hys] at hu
    simp only [List.getElem?_take, List.getElem?_drop] at hu
    split at hu
    · exact hu
    · cases hu
  have hone' : ∀ u ∈ ys, u.oneCell' = true := fun u hu => by
    rw [← hys] at hu
    exact hone u (List.mem_of_mem_drop (List.mem_of_mem_take hu))
  have hne : ys ≠ [] → xs ≠ [] := by
    rintro h3 rfl
    rw [← hys] at h3; simp at h3
  · have e2 : ∀ y, lo = some y → ∃ k, a.eval y = .int k (l : Int) := by
      intro y hy; subst hy; obtain ⟨k, hk⟩ := hl; exact ⟨k, rd_v hp.val hp.esN hk⟩
    have e3 : ∀ y, hi = some y → ∃ k, a.eval y = .int k (h : Int) := by
      intro y hy; subst hy; obtain ⟨k, hk⟩ := hh; exact ⟨k, rd_v hp.val hp.esN hk⟩
    have hhc : h ≤ c := by omega
    have hrun : (execOp a.eval ⟨some d, .slice T x lo hi none, ty, pos, aft, gd⟩).run P w = .ok (.value (.slice (if c = l then A else A.map (·.add (l * z))) (h - l) (c - l))) w := by
      cases lo with
      | none =>
        simp only at hl; subst hl
        cases hi with
        | none =>
          simp only at hh
          have : h = n := Nat.eq_of_mul_eq_mul_right h0 (by omega)
          subst this
          simp [execOp, Instr.sliceAt, Instr.slice, run_underlying hT, he, Instr.sliceBounds, run_sizeOf' hz]
        | some y =>
          obtain ⟨k, hk⟩ := e3 y rfl
          simp [execOp, Instr.sliceAt, Instr.slice, run_underlying hT, he, Instr.sliceBounds, Instr.sliceBound, asIntOf, hk, hhc, run_sizeOf' hz]
      | some y =>
        obtain ⟨k, hk⟩ := e2 y rfl
        cases hi with
        | none =>
          simp only at hh
          have : h = n := Nat.eq_of_mul_eq_mul_right h0 (by omega)
          subst this
          simp [execOp, Instr.sliceAt, Instr.slice, run_underlying hT, he, Instr.sliceBounds, Instr.sliceBound, asIntOf, hk, h1, run_sizeOf' hz]
        | some y' =>
          obtain ⟨k', hk'⟩ := e3 y' rfl
          simp [execOp, Instr.sliceAt, Instr.slice, run_underlying hT, he, Instr.sliceBounds, Instr.sliceBound, asIntOf, hk, hk', h1, hhc, run_sizeOf' hz]
    refine ⟨_, hrun, fl_fr ?_ hys2⟩
    simp only [R]
    refine ⟨_, h - l, c - l, ⟨rfl, by omega⟩, hylen, hone', ?_, ?_⟩
    · intro h3
      obtain ⟨ad, rfl, hc⟩ := hrd (hne h3)
      have hcl : c ≠ l := by
        intro e
        have : h - l = 0 := by omega
        rw [this] at hylen
        simp at hylen; exact h3 hylen
      rw [if_neg hcl]
      refine ⟨ad.add (l * z), rfl, fun j u hu => ?_⟩
      rw [add_add]
      exact hc _ _ (hsub j u hu)
    · cases m with
      | own T => simp [notOwn] at hm
      | ro =>
        refine ⟨rfl, fun h3 => ?_⟩
        obtain ⟨ad, rfl, hi⟩ := hmo.2 (hne h3)
        split
        · exact ⟨ad, rfl, hi⟩
        · exact ⟨ad.add (l * z), rfl, by rw [add_block]; exact hi⟩
      | shr =>
        refine ⟨rfl, fun h3 => ?_⟩
        obtain ⟨ad, rfl, hi⟩ := hmo.2 (hne h3)
        split
        · exact ⟨ad, rfl, hi⟩
        · exact ⟨ad.add (l * z), rfl, by rw [add_block]; exact hi⟩
end
section
variable {A B : Type} {z : Nat}
theorem gflat_len {enc : A → List B} (he : ∀ x, (enc x).length = z) (l : List A) : ((l.map enc).flatten).length = l.length * z := by
  induction l with
  | nil => simp
  | cons x l ih => simp only [List.map_cons, List.flatten_cons, List.length_append, he, ih, List.length_cons, Nat.add_mul]; omega
theorem gflat_lt {enc : A → List B} (he : ∀ x, (enc x).length = z) {l : List A} {i : Nat} (h : i < l.length) : i * z + z ≤ ((l.map enc).flatten).length := by
  rw [gflat_len he]
  have : (i + 1) * z ≤ l.length * z := Nat.mul_le_mul_right _ h
  rw [Nat.add_mul] at this; omega
theorem gflat_drop {enc : A → List B} (he : ∀ x, (enc x).length = z) : ∀ (l : List A) (i : Nat), ((l.map enc).flatten).drop (i * z) = ((l.drop i).map enc).flatten
  | [], i => by simp
  | x :: l, 0 => by simp
  | x :: l, i + 1 => by
    simp only [List.map_cons, List.flatten_cons, List.drop_succ_cons]
    rw [Nat.add_mul, Nat.one_mul, Nat.add_comm, ← List.drop_drop, ← he x, List.drop_left, he x]
    exact gflat_drop he l i
theorem gflat_take {enc : A → List B} (he : ∀ x, (enc x).length = z) : ∀ (l : List A) (i : Nat), ((l.map enc).flatten).take (i * z) = ((l.take i).map enc).flatten
  | [], i => by simp
  | x :: l, 0 => by simp
  | x :: l, i + 1 => by
    simp only [List.map_cons, List.flatten_cons, List.take_succ_cons]
    rw [Nat.add_mul, Nat.one_mul, Nat.add_comm, List.take_add, ← he x, List.take_left, List.drop_left, he x]
    rw [gflat_take he l i]
theorem gflat_get {enc : A → List B} (he : ∀ x, (enc x).length = z) {l : List A} {i : Nat} {x : A} (h : getO l i = some x) : (((l.map enc).flatten).drop (i * z)).take z = enc x := by
  rw [gflat_drop he]
  obtain ⟨hi, rfl⟩ := List.getElem?_eq_some_iff.1 h
  rw [List.drop_eq_getElem_cons hi]
  simp only [List.map_cons, List.flatten_cons]
  rw [← he l[i], List.take_left]
theorem gflat_seg {enc : A → List B} (he : ∀ x, (enc x).length = z) {l : List A} {i j n : Nat} {x : A} {ys : List B} (h : getO l i = some x) (hj : j + n ≤ z) (hy : ((enc x).drop j).take n = ys) : (((l.map enc).flatten).drop (i * z + j)).take n = ys := by
  have h1 := gflat_get he h
  rw [← hy, ← h1, List.drop_take, List.drop_drop, List.take_take, Nat.min_eq_left (by omega)]
theorem gflat_cell {enc : A → List B} (he : ∀ x, (enc x).length = z) {l : List A} {i j : Nat} {x : A} {v : B} (h : getO l i = some x) (hv : (enc x)[j]? = some v) : ((l.map enc).flatten)[i * z + j]? = some v := by
  have h1 := gflat_get he h
  have hj : j < z := by rw [← he x]; exact (List.getElem?_eq_some_iff.1 hv).1
  rw [← h1, List.getElem?_take, if_pos hj, List.getElem?_drop] at hv
  exact hv
theorem gflat_app {enc : A → List B} {l m q : List A} (h : l ++ m = q) : (l.map enc).flatten ++ (m.map enc).flatten = (q.map enc).flatten := by subst h; simp
theorem gflat_sli {enc : A → List B} (he : ∀ x, (enc x).length = z) {l q : List A} {a b : Int} (h : sliO l a b = some q) : (((l.map enc).flatten).drop (a.toNat * z)).take ((b.toNat - a.toNat) * z) = (q.map enc).flatten := by
  unfold sliO at h
  split at h
  · cases h
    rw [gflat_drop he, gflat_take he]
  · cases h
theorem sli_bd {l q : List A} {a b : Int} (h : sliO l a b = some q) : a = (a.toNat : Int) ∧ b = (b.toNat : Int) ∧ a.toNat ≤ b.toNat ∧ b.toNat ≤ l.length := by
  unfold sliO at h
  split at h
  · omega
  · cases h
end
section
variable {P : Program} {Q : Exit → Act → World → Prop} {g0 : Gh} {rnd : Option Nat}
theorem ht_frzE {c : Code} {es es' : List Ent} (i : Nat) (ht : g0.ds = []) (he : (es.modify i fun e => (e.1, frz e.2)) = es') (h : HT rnd P Q g0 c es') : HT rnd P Q g0 c es := by
  intro g a w hg hs
  exact pt_frzE (Q := fun e a w => c.wpIn (FW rnd) 0 P Q a w) (e := .normal) i ht he (fun g a w hg hs => h g a w hg hs) g a w hg hs
end
end Go.Abs
end
section
/-
  What came in, opened: a value of any type of numbers, truth values, texts, rows and structs of such, as the logic of places knows it.
-/
namespace Go.Abs
open Go.WideShapes
def wfI (k : IntKind) (n : Int) : Prop := (Lit.int k n).wf = true
def wfS (s : ByteArray) : Prop := s.size ≤ maxLen
def wfL {A : Type} (p : A → Prop) (l : List A) : Prop := l.length ≤ maxLen ∧ ∀ x ∈ l, p x
def inW (W : World) : Gh := gh0 W (fun _ => False) (fun b => b < W.heap.size)
def Came {H : Type} (enc : TypeId × Value → H) (P : Program) (W : World) (sp : Nat → Bool) (hd : Bool) (t : TypeId) {A : Type} (ie : A → List IC) (wf : A → Prop) : Prop :=
  ∀ (fuel : Nat) (cs : List Value) (y : DataW H × List MemPlace), DataW.trod enc P W 0 sp hd fuel t cs = some y → ∃ x : A, RIs (inW W) W true (ie x) cs ∧ (∀ u ∈ cs, u.oneCell' = true) ∧ wf x
section
variable {H : Type} {enc : TypeId × Value → H} {P : Program} {W : World} {sp : Nat → Bool} {hd : Bool} {t : TypeId}
theorem RIs_one {g : Gh} {w : World} {s : Bool} {c : IC} {x : Value} : RIs g w s [c] [x] ↔ RI g w s c x := by
  simp only [RIs]
  constructor
  · rintro ⟨x', xs, h, h1, rfl⟩; cases h; exact h1
  · intro h; exact ⟨x, [], rfl, h, rfl⟩
theorem came_int {k : IntKind} (ht : P.underlying t = some (.int k)) : Came enc P W sp hd t (fun n : Int => [IC.v (.int k n)]) (wfI k) := by
  intro fuel cs y h
  obtain ⟨n, rfl, _, hw⟩ := DataW.trod_int ht h
  exact ⟨n, RIs_one.2 (by simp only [RI]), by simp [Value.oneCell'], hw⟩
theorem came_bool (ht : P.underlying t = some .bool) : Came enc P W sp hd t (fun b : Bool => [IC.v (.bool b)]) (fun _ => True) := by
  intro fuel cs y h
  obtain ⟨n, rfl, _⟩ := DataW.trod_bool ht h
  exact ⟨n, RIs_one.2 (by simp only [RI]), by simp [Value.oneCell'], trivial⟩
theorem RIs_rows {g : Gh} {w : World} {s : Bool} {A : Type} {ie : A → List IC} {z : Nat} (hz : ∀ x, (ie x).length = z) : ∀ (l : List A) (vs : List Value), vs.length = l.length * z → (∀ i, ∀ h : i < l.length, RIs g w s (ie l[i]) ((vs.drop (i * z)).take z)) → RIs g w s (List.flatten (List.map ie l)) vs
  | [], vs, hl, _ => by
    have : vs = [] := List.eq_nil_of_length_eq_zero (by simpa using hl)
    subst this
    simp [RIs]
  | x :: l, vs, hl, h => by
    have h0 := h 0 (by simp)
    simp only [List.getElem_cons_zero, Nat.zero_mul, List.drop_zero] at h0
    rw [List.map_cons, List.flatten_cons, ← List.take_append_drop z vs]
    refine RIs_append h0 (RIs_rows hz l _ ?_ fun i hi => ?_)
    · rw [List.length_drop, hl, List.length_cons, Nat.add_mul]; omega
    · have := h (i + 1) (by simpa using hi)
      simp only [List.getElem_cons_succ] at this
      rw [List.drop_drop]
      rwa [show z + i * z = (i + 1) * z by rw [Nat.add_mul]; omega]
theorem flat1 {A B : Type} (f : A → B) : ∀ l : List A, List.flatten (List.map (fun x => [f x]) l) = List.map f l
  | [] => rfl
  | x :: l => by simp [flat1 f l]
theorem ones_app {a b : List Value} (h : ∀ u ∈ a, u.oneCell' = true) (k : ∀ u ∈ b, u.oneCell' = true) : ∀ u ∈ a ++ b, u.oneCell' = true := by
  intro u hu
  rcases List.mem_append.1 hu with q | q
  · exact h u q
  · exact k u q
theorem ones_nil : ∀ u ∈ ([] : List Value), u.oneCell' = true := by simp
theorem RIs_nil {g : Gh} {w : World} {s : Bool} : RIs g w s [] [] := by simp [RIs]
theorem came_sl {A : Option Addr} {len cap : Nat} {ic : IC} {av : AV} (h : RIs (inW W) W true [ic] (Value.slice A len cap).cells.toList) (hi : IA true ic av) : R (inW W) V0 W av (.slice A len cap) [] :=
  IA_R hi (RIs_one.1 h)
theorem in_v (x : Value) : R (inW W) V0 W (.v x) x [] := by simp [R]
theorem in_nil : Rs (inW W) V0 W [] [] [] := by simp [Rs]
theorem in_cons {c : AV} {cs : List AV} {x : Value} {xs : List Value} (h : R (inW W) V0 W c x []) (hs : Rs (inW W) V0 W cs xs []) : Rs (inW W) V0 W (c :: cs) (x :: xs) [] := by
  simp only [Rs]; exact ⟨x, xs, [], [], rfl, rfl, h, hs⟩
end
end Go.Abs
end
section
/-
  What is appended otherwise: a text's bytes; lengths of nil.
-/
namespace Go.Abs
section
variable {P : Program} {ty : TypeId} {pos : String} {aft : Array Edge} {gd : Option (Nat × Bool)}
end
end Go.Abs
end
section
/-
  A variable is stored into itself.
-/
namespace Go.Abs
inductive Selfs (t : Nat) : Nat → List AV → List AV → Prop
  | nil (i : Nat) : Selfs t i [] []
  | same {i : Nat} {ds cs : List AV} (c : AV) (h : Selfs t (i + 1) ds cs) : Selfs t i (.same (.cell t i) :: ds) (c :: cs)
  | eq {i : Nat} {ds cs : List AV} (c : AV) (h : Selfs t (i + 1) ds cs) : Selfs t i (c :: ds) (c :: cs)
section
variable {P : Program} {ty : TypeId} {pos : String} {aft : Array Edge} {gd : Option (Nat × Bool)}
end
end Go.Abs
end
