/-
  Calls that are given a row of the caller's own, to write over: behind the call nothing is known of it.
-/
import Derived.Test.YtbioodcjmceefaaAJ
namespace Go.Abs

/-- A call's answer, where rows of the caller's own were given away. -/
def AnsE (o0 : List Nat) (Imm Im : Nat → Prop) (w : World) (res : AV) (e : Ending) (w' : World) : Prop :=
  ∃ x, e = .returned x ∧ Chg o0 w w' ∧ ∃ (Imm' : Nat → Prop) (o : List Nat), (∀ b, Imm b → Imm' b) ∧ (∀ b, Imm' b → Imm b ∨ b ∈ o0 ∨ (w.heap.size ≤ b ∧ b < w'.heap.size)) ∧
    R (gh0 w Imm' Im) V0 w' res x o ∧ o.Nodup ∧ ∀ b ∈ o, (b ∈ o0 ∨ w.heap.size ≤ b) ∧ b < w'.heap.size ∧ ¬ Imm' b

def FnE (P : Program) (f : FuncId) (args : List AV) (res : AV) : Prop :=
  ∀ (Imm Im : Nat → Prop) (w : World) (xs : List Value) (o0 : List Nat), (∀ b, Imm b ∨ Im b → b < w.heap.size) → Rs (gh0 w Imm Im) V0 w args xs o0 → o0.Nodup → (∀ b ∈ o0, b < w.heap.size ∧ ¬ (Imm b ∨ Im b)) →
    Calls P f xs.toArray w (AnsE o0 Imm Im w res)

def FnQE (P : Program) (fn : Func) (o0 : List Nat) (Imm Im : Nat → Prop) (w : World) (res : AV) : Exit → Act → World → Prop := bodyPost P fn (AnsE o0 Imm Im w res)

section
variable {P : Program} {Q : Exit → Act → World → Prop} {g0 : Gh}

theorem Es_argsO {g : Gh} {V : Loc → Value} {w : World} (hV : ∀ av x o, closed av = true → R g V0 w av x o → R g V w av x o) : ∀ (args : List AV) (xs : List Value) (k : Nat) (o : List Nat), closeds args = true → args.all noBox = true → Rs g V0 w args xs o → (∀ i x, xs[i]? = some x → V (.slot (k + i)) = x) →
    Es g V w ((args.zipIdx k).map fun p => (p.2, p.1)) o
  | [], xs, k, o, _, _, h, _ => by simp only [Rs] at h; exact h.2
  | av :: args, xs, k, o, hc, hb, h, hv => by
    simp only [Rs] at h
    obtain ⟨x, xs', o1, o2, rfl, rfl, h1, h2⟩ := h
    simp only [closeds, Bool.and_eq_true] at hc
    simp only [List.all_cons, Bool.and_eq_true] at hb
    simp only [List.zipIdx_cons, List.map_cons]
    have h0 : V (.slot k) = x := by simpa using hv 0 x rfl
    refine ⟨o1, o2, rfl, ⟨?_, ?_⟩, Es_argsO hV args xs' (k + 1) o2 hc.2 hb.2 h2 fun i y hy => ?_⟩
    · show R g V w av (V (.slot k)) o1
      rw [h0]; exact hV av x o1 hc.1 h1
    · cases av <;> first | trivial | (simp [noBox] at hb)
    · have := hv (i + 1) y (by simpa using hy)
      rwa [show k + 1 + i = k + (i + 1) by omega]

theorem fn_okE {f : FuncId} {fn : Func} {c : Code} {args : List AV} {res : AV} (hf : P.funcs[f]? = some fn) (hb : fn.body = some c) (hk : args.length ≤ fn.ntmps) (hcl : closeds args = true) (hnb : args.all noBox = true)
    (h : ∀ g0 : Gh, g0.n = fn.ntmps → True → HT P (FnQE P fn g0.io g0.Imm g0.Im g0.w0 res) g0 c (argEnts args)) : FnE P f args res := by
  intro Imm Im w xs o0 himm hR hnd ho0
  have hlen := Rs_length hR
  refine calls_of_wp hf hb ?_
  have hg := h ⟨fn.ntmps, w, o0, Imm, Im⟩ rfl trivial ⟨fn.ntmps, w, o0, Imm, Im⟩ { tmps := xs.toArray ++ Array.replicate (fn.ntmps - xs.toArray.size) undef, defers := [] } w (Gh.le_refl _)
  refine hg ⟨fun l => match l with | .slot t => (xs.toArray ++ Array.replicate (fn.ntmps - xs.toArray.size) undef).getD t undef | .cell _ _ => undef, o0, ⟨fun _ => rfl, ?_, rfl, hnd, fun b hb => ⟨(ho0 b hb).1, .inr hb, (ho0 b hb).2⟩, himm, Chg.refl _ _⟩, ?_⟩
  · simp; omega
  · unfold argEnts
    refine Es_argsO (g := ⟨fn.ntmps, w, o0, Imm, Im⟩) (fun av x o hc hr => R_closed (fun _ h => h) av x o hc (.inl fun _ h => h) hr) args xs 0 o0 hcl hnb ?_ ?_
    · exact Rs_closed (g := gh0 w Imm Im) (g' := ⟨fn.ntmps, w, o0, Imm, Im⟩) (V := V0) (V' := V0) (fun _ h => h) args xs o0 hcl (.inl fun _ h => h) hR
    · intro i x hx
      have hi := (List.getElem?_eq_some_iff.1 hx).1
      simp only [Nat.zero_add, Array.getD_eq_getD_getElem?]
      rw [Array.getElem?_append_left (by simpa using hi)]
      simp [hx]

theorem ret_okE {fn : Func} {g0 g : Gh} {es : List Ent} {avs : List AV} {a : Act} {w : World} {Imm : Nat → Prop} (hI0 : g0.Imm = Imm) (hle : g0.le g) (hret : RetL P fn.results.toList es avs) (hcl : closeds avs = true) (hs : Sat g es a w) :
    FnQE P fn g0.io Imm g0.Im g0.w0 (resAV avs) .ret a w ∧ FnQE P fn g0.io Imm g0.Im g0.w0 (resAV avs) .normal a w := by
  have key : a.defers = [] ∧ ∃ v, (results fn a.tmps).run P w = .ok v w ∧ AnsE g0.io Imm g0.Im g0.w0 (resAV avs) (.returned v) w := by
    obtain ⟨V, o, hst, hes⟩ := hs
    obtain ⟨xs, o', o'', hR, hperm, hrun⟩ := run_ret hst.val hret hes
    have hnd : o'.Nodup := (List.nodup_append.1 (hperm.nodup_iff.1 hst.nodup)).1
    have hsub : ∀ b ∈ o', b ∈ o := fun b hb => hperm.mem_iff.2 (by simp [hb])
    refine ⟨hst.defers, (if h : xs.length = 1 then xs.getD 0 undef else .tuple xs.toArray), ?_, ?_⟩
    · have hres : results fn a.tmps = (do let vs ← fn.results.mapM (retOne a.tmps); pure (if h : vs.size = 1 then vs[0] else .tuple vs)) := by
        unfold results
        congr 1
      rw [hres, Array.mapM_eq_mapM_toList]
      simp only [Sem.run_bind, Sem.run_map, hrun, Result.andThen_ok]
      by_cases h : xs.length = 1
      · simp [h]
      · simp [h]
    · refine ⟨_, rfl, by have := hst.chg; rw [hle.w0, hle.io] at this; exact this, g.Imm, o', by rw [← hI0]; exact hle.Imm, ?_, ?_, hnd, ?_⟩
      · intro b hb
        rcases hle.new b hb with h | h | h
        · exact .inl (hI0 ▸ h)
        · exact .inr (.inr ⟨h, hst.imm b (.inl hb)⟩)
        · exact .inr (.inl h)
      · have hlen := Rs_length hR
        have hM : ∀ b, g.Im b → (gh0 g0.w0 g.Imm g0.Im).Im b := fun b hb => by rw [hle.Im] at hb; exact hb
        have hR' := Rs_closed (g := g) (g' := gh0 g0.w0 g.Imm g0.Im) (V' := V0) (fun _ h => h) avs xs o' hcl (.inl hM) hR
        unfold resAV
        split
        · rename_i av
          simp only [Rs] at hR'
          obtain ⟨x, xs', o1, o2, rfl, rfl, h1, rfl, rfl⟩ := hR'
          simpa using h1
        · rename_i hne
          have : xs.length ≠ 1 := by
            intro h1
            rw [hlen] at h1
            match avs, h1 with
            | [av], _ => exact hne av rfl
          simp only [this, dite_false, R]
          exact ⟨xs, rfl, hR'⟩
      · intro b hb
        have := hst.own b (hsub b hb)
        rw [hle.w0, hle.io] at this
        exact ⟨this.2.1.symm, this.1, fun h => this.2.2 (.inl h)⟩
  exact ⟨key, key⟩

theorem pt_retE {fn : Func} {Imm : Nat → Prop} {es : List Ent} {avs : List AV} {res : AV} (_ : True) (hI : g0.Imm = Imm) (hret : RetL P fn.results.toList es avs) (hcl : closeds avs = true) (hres : resAV avs = res) : PT (FnQE P fn g0.io Imm g0.Im g0.w0 res) g0 .ret es := by
  subst hres
  exact fun g a w hg hs => (ret_okE hI hg hret hcl hs).1
theorem pt_endE {fn : Func} {Imm : Nat → Prop} {es : List Ent} {avs : List AV} {res : AV} (_ : True) (hI : g0.Imm = Imm) (hret : RetL P fn.results.toList es avs) (hcl : closeds avs = true) (hres : resAV avs = res) : PT (FnQE P fn g0.io Imm g0.Im g0.w0 res) g0 .normal es := by
  subst hres
  exact fun g a w hg hs => (ret_okE hI hg hret hcl hs).2
theorem pt_frzE {e : Exit} {es es' : List Ent} (i : Nat) (_ : True) (he : (es.modify i fun e => (e.1, frz e.2)) = es') (h : PT Q g0 e es') : PT Q g0 e es := by
  intro g a w hg hs
  subst he
  obtain ⟨V, o, hst, hes⟩ := hs
  obtain ⟨o', o2, hp, hr⟩ := Es_frz es i o hes
  have hsub : ∀ b ∈ o2, b ∈ o := fun b hb => hp.mem_iff.2 (by simp [hb])
  have hsub' : ∀ b ∈ o', b ∈ o := fun b hb => hp.mem_iff.2 (by simp [hb])
  have hnd := hp.nodup_iff.1 hst.nodup
  refine h { g with Imm := fun b => g.Imm b ∨ b ∈ o2 } a w (hg.trans ⟨rfl, rfl, rfl, rfl, fun b hb => .inl hb, fun b hb => hb.imp id fun hb => (hst.own b (hsub b hb)).2.1⟩) ⟨V, o', ⟨hst.val, hst.size, hst.defers, (List.nodup_append.1 hnd).1, fun b hb => ?_, fun b hb => ?_, hst.chg⟩, hr _ (fun b hb => .inl hb) (fun b hb => hb) (fun b hb => .inr hb)⟩
  · have := hst.own b (hsub' b hb)
    refine ⟨this.1, this.2.1, ?_⟩
    rintro ((h1 | h1) | h1)
    · exact this.2.2 (.inl h1)
    · exact (List.nodup_append.1 hnd).2.2 b hb b h1 rfl
    · exact this.2.2 (.inr h1)
  · rcases hb with (h1 | h1) | h1
    · exact hst.imm b (.inl h1)
    · exact (hst.own b (hsub b h1)).1
    · exact hst.imm b (.inr h1)
end

section
variable {P : Program} {ty : TypeId} {pos : String} {aft : Array Edge} {gd : Option (Nat × Bool)}

theorem clr_of_closed (W : List Loc) (av : AV) : closed av = true → clr W av = true :=
  AV.rec (motive_1 := fun av => closed av = true → clr W av = true) (motive_2 := fun cs => closeds cs = true → clrs W cs = true)
    (fun _ => rfl) (fun _ _ => rfl) (fun _ _ _ _ => rfl) (fun cs ih h => by simp only [clr, closed] at *; exact ih h) (fun cs ih h => by simp only [clr, closed] at *; exact ih h) (fun T cs ih h => by simp only [clr, closed] at *; exact ih h)
    (fun l h => by simp [closed] at h) (fun t i h => by simp [closed] at h) (fun l k h => by simp [closed] at h) (fun _ _ _ => rfl) (fun _ _ _ _ _ => rfl) (fun _ _ => rfl) (fun _ _ cs ih h => by simp only [clr, closed] at *; exact ih h) (fun _ _ h => by simp [closed] at h) (fun _ _ h => by simp [closed] at h) (fun _ => rfl)
    (fun c cs ih1 ih2 h => by simp only [clrs, closeds, Bool.and_eq_true] at *; exact ⟨ih1 h.1, ih2 h.2⟩) av

/-- A call that is given the own row of a slot. -/
theorem op_callE (N : List Ent) (d t : Nat) (f : FuncId) {cal x : Operand} {args : List Operand} {ats : Array TypeId} {e : TypeId} {z : Nat} {vs : List Value} (avs : List AV) (res : AV) (hcal : rd N cal = .v (.func (.func f) #[] #[])) (hrun : ∀ args w, (callFunc f args).run P w = .ok (.enter f args) w)
    (hx : dupOp (N ++ [(t, .fl (.own e) z vs)]) x = .same (.slot t)) (hav : args.map (argv N) = avs) (hf : FnE P f (.fl (.own e) z vs :: avs) res) (hcl : closed res = true) (hsh : noShr res = true) (hnb : noBox res = true) :
    LOp P ⟨some d, .call ⟨.value cal, (x :: args).toArray, ats⟩, ty, pos, aft, gd⟩ N [(t, .fl (.own e) z vs)] [(t, .any), (d, res)] [.slot d] := by
  refine LOp.core fun g V oN oT a w hd hp => ?_
  have hT := hp.esT
  simp only [Es] at hT
  obtain ⟨ob, o2, rfl, ⟨hRt, _⟩, rfl⟩ := hT
  have hcv := rd_v hp.val hp.esN hcal
  have hax := dupOp_R hp.val (Es_append.2 ⟨oN, _, rfl, hp.esN, hp.esT⟩) x
  rw [hx] at hax
  have hxe : a.eval x = V (.slot t) := by simp only [R] at hax; exact hax.1
  have hr : (execOp a.eval ⟨some d, .call ⟨.value cal, (x :: args).toArray, ats⟩, ty, pos, aft, gd⟩).run P w = .ok (.enter f ((x :: args).toArray.map a.eval)) w := by
    simp [execOp, resolve, hcv, Deferred.ofValue, invoke, hrun]
  have hargs : Rs (gh0 w g.Imm (fun b => g.Im b ∨ b ∈ oN)) V0 w (.fl (.own e) z vs :: avs) ((x :: args).map a.eval) ob := by
    simp only [List.map_cons, Rs]
    refine ⟨_, _, ob, [], rfl, by simp, ?_, ?_⟩
    · rw [hxe]
      exact R_closed (g := g) (g' := gh0 w g.Imm (fun b => g.Im b ∨ b ∈ oN)) (fun _ h => h) (.fl (.own e) z vs) _ ob rfl (.inl fun b hb => .inl hb) hRt
    · rw [← hav]
      exact argvs_R (g := g) (g' := gh0 w g.Imm (fun b => g.Im b ∨ b ∈ oN)) rfl (fun b hb => hb) hp.val hp.esN _
  have hnd := hp.nodup
  have hob : ∀ b ∈ ob, b < w.heap.size ∧ ¬ (g.Imm b ∨ g.Im b ∨ b ∈ oN) := by
    intro b hb
    have h1 := hp.own b (by simp [hb])
    refine ⟨h1.1, ?_⟩
    rintro (h | h | h)
    · exact h1.2 (.inl h)
    · exact h1.2 (.inr h)
    · exact (List.nodup_append.1 hnd).2.2 b h b (by simp [hb]) rfl
  have hc := hf g.Imm (fun b => g.Im b ∨ b ∈ oN) w _ ob (fun b hb => by
    rcases hb with hb | hb | hb
    · exact hp.imm b (.inl hb)
    · exact hp.imm b (.inr hb)
    · exact (hp.own b (by simp [hb])).1) hargs (by have := (List.nodup_append.1 hnd).2.1; simpa using this) hob
  have ea : ((x :: args).map a.eval).toArray = (x :: args).toArray.map a.eval := by simp
  rw [ea] at hc
  have hlt : d < g.n := hd d rfl
  refine Yl.call hr (hc.mono ?_)
  rintro e' w' ⟨y, rfl, hchg, Imm', o, hI, hnew, hR, hndo, hfr⟩
  refine ⟨y, rfl, { g with Imm := fun b => Imm' b }, setV V d y, o, ⟨rfl, rfl, rfl, rfl, hI, fun b hb => ?_⟩, fun b hb => ?_, fun b hb => ?_, by simpa using hchg, fun l hl => setV_hit hl, fun u => setV_val hp.val hp.size hlt u, ?_, hndo, fun b hb => ?_⟩
  · rcases hnew b hb with h | h | h
    · exact .inl h
    · exact .inr (hp.own2 b (by simp [h]))
    · exact .inr (.inl (Nat.le_trans hp.base h.1))
  · rcases hnew b hb with h | h | h
    · exact .inl h
    · exact .inr (.inl (by simp [h]))
    · exact .inr (.inr h.1)
  · rcases hnew b hb with h | h | h
    · exact Nat.lt_of_lt_of_le (hp.imm b (.inl h)) hchg.size
    · exact Nat.lt_of_lt_of_le (hob b h).1 hchg.size
    · exact h.2
  · refine ⟨[], o, rfl, ⟨by simp [R], trivial⟩, o, [], by simp, ⟨?_, ?_⟩, rfl⟩
    · show R _ _ _ res (setV V d y (.slot d)) o
      rw [setV_slot]
      exact R_closed (g := gh0 w Imm' (fun b => g.Im b ∨ b ∈ oN)) (g' := { g with Imm := fun b => Imm' b }) (fun _ h => h) res y o hcl (.inr hsh) hR
    · cases res <;> first | trivial | (simp [noBox] at hnb)
  · obtain ⟨h1, h2, h3⟩ := hfr b hb
    refine ⟨h1.imp (fun h => by simp [h]) id, h2, ?_⟩
    rintro (h | h)
    · exact h3 h
    · rcases h1 with h1 | h1
      · exact (hob b h1).2 (.inr (.inl h))
      · exact absurd (hp.imm b (.inr h)) (by omega)

/-- A call that is given the own row in a variable's cell. -/
theorem op_callE_cell (N : List Ent) (d t i : Nat) (f : FuncId) {cal x : Operand} {args : List Operand} {ats : Array TypeId} {e T' : TypeId} {z : Nat} {vs : List Value} {cs cs' : List AV} (avs : List AV) (res : AV) (hcal : rd N cal = .v (.func (.func f) #[] #[])) (hrun : ∀ args w, (callFunc f args).run P w = .ok (.enter f args) w)
    (hx : dupOp N x = .same (.cell t i)) (hc : cs.getD i .any = .fl (.own e) z vs) (hic : i < cs.length) (hav : args.map (argv N) = avs) (hf : FnE P f (.fl (.own e) z vs :: avs) res) (hcl : closed res = true) (hsh : noShr res = true) (hnb : noBox res = true)
    (hdt : d ≠ t) (hcs : cs.set i .any = cs') (hclr : clrs [.slot d] cs' = true) :
    LOp P ⟨some d, .call ⟨.value cal, (x :: args).toArray, ats⟩, ty, pos, aft, gd⟩ N [(t, .box T' cs)] [(t, .box T' cs'), (d, res)] [.slot d] := by
  subst hcs
  refine LOp.core fun g V oN oT a w hd hp => ?_
  have hT' := hp.esT
  simp only [Es] at hT'
  obtain ⟨ob, o2, rfl, hER, rfl⟩ := hT'
  obtain ⟨hR0, htie⟩ := hER
  have hcv := rd_v hp.val hp.esN hcal
  have hax := dupOp_R hp.val hp.esN x
  rw [hx] at hax
  simp only [R] at hax hR0
  obtain ⟨b, cur, os, hpt, rfl, hh, hrs⟩ := hR0
  dsimp only at htie
  obtain ⟨o1, o3, hperm, hRi, hrest⟩ := Rs_setAny i hrs hic
  rw [hc] at hRi
  have hlen := Rs_length hrs
  have hcell := htie b hpt i hic
  rw [cell_of_row w b i _ T' (0, 0) hh] at hcell
  have hil : i < cur.length := by omega
  have hVc : V (.cell t i) = cur.getD i undef := by
    simp only [List.getElem?_toArray, List.getElem?_eq_getElem hil, Option.some.injEq] at hcell
    rw [← hcell]; simp [hil]
  have hxe : a.eval x = cur.getD i undef := by rw [hax.1, hVc]
  have hin1 : ∀ c, c ∈ o1 → c ∈ b :: os := fun c hc' => by have := hperm.mem_iff.2 (List.mem_append.2 (.inl hc')); simp [this]
  have hin3 : ∀ c, c ∈ o3 → c ∈ b :: os := fun c hc' => by have := hperm.mem_iff.2 (List.mem_append.2 (.inr hc')); simp [this]
  have hinb : ∀ c, c ∈ b :: o3 → c ∈ b :: os := by
    intro c hc'
    rcases List.mem_cons.1 hc' with h | h
    · simp [h]
    · exact hin3 c h
  have hnd2 : (b :: os).Nodup := by have := (List.nodup_append.1 hp.nodup).2.1; simpa using this
  have hnd3 : (b :: (o1 ++ o3)).Nodup := ((hperm.cons b).nodup_iff).1 hnd2
  have hlts : ∀ c, c ∈ b :: os → c < w.heap.size ∧ ¬ g.imm c := fun c hc' => hp.own c (by simp at hc' ⊢; exact .inr hc')
  have hoN : ∀ c, c ∈ b :: os → c ∉ oN := fun c hc' h => (List.nodup_append.1 hp.nodup).2.2 c h c (by simpa using hc') rfl
  have hr : (execOp a.eval ⟨some d, .call ⟨.value cal, (x :: args).toArray, ats⟩, ty, pos, aft, gd⟩).run P w = .ok (.enter f ((x :: args).toArray.map a.eval)) w := by
    simp [execOp, resolve, hcv, Deferred.ofValue, invoke, hrun]
  have hargs : Rs (gh0 w g.Imm (fun b => g.Im b ∨ b ∈ oN)) V0 w (.fl (.own e) z vs :: avs) ((x :: args).map a.eval) o1 := by
    simp only [List.map_cons, Rs]
    refine ⟨_, _, o1, [], rfl, by simp, ?_, ?_⟩
    · rw [hxe]
      exact R_closed (g := g) (g' := gh0 w g.Imm (fun b => g.Im b ∨ b ∈ oN)) (fun _ h => h) (.fl (.own e) z vs) _ o1 rfl (.inl fun b hb => .inl hb) hRi
    · rw [← hav]
      exact argvs_R (g := g) (g' := gh0 w g.Imm (fun b => g.Im b ∨ b ∈ oN)) rfl (fun b hb => hb) hp.val hp.esN _
  have hob : ∀ c ∈ o1, c < w.heap.size ∧ ¬ (g.Imm c ∨ g.Im c ∨ c ∈ oN) := by
    intro c hc'
    have h1 := hlts c (hin1 c hc')
    refine ⟨h1.1, ?_⟩
    rintro (h | h | h)
    · exact h1.2 (.inl h)
    · exact h1.2 (.inr h)
    · exact hoN c (hin1 c hc') h
  have hcc := hf g.Imm (fun b => g.Im b ∨ b ∈ oN) w _ o1 (fun b hb => by
    rcases hb with hb | hb | hb
    · exact hp.imm b (.inl hb)
    · exact hp.imm b (.inr hb)
    · exact (hp.own b (by simp [hb])).1) hargs (by
      simp only [List.nodup_cons, List.nodup_append] at hnd3; exact hnd3.2.1) hob
  have ea : ((x :: args).map a.eval).toArray = (x :: args).toArray.map a.eval := by simp
  rw [ea] at hcc
  have hlt : d < g.n := hd d rfl
  refine Yl.call hr (hcc.mono ?_)
  rintro e' w2 ⟨y, rfl, hchg, Imm', o, hI, hnew, hR, hndo, hfr⟩
  have hn13 : ∀ c, c ∈ b :: o3 → c ∉ o1 := by
    intro c hc' h1
    simp only [List.nodup_cons, List.mem_append, List.nodup_append] at hnd3
    rcases List.mem_cons.1 hc' with rfl | h3
    · exact hnd3.1 (.inl h1)
    · exact hnd3.2.2.2 c h1 c h3 rfl
  have hkeep : ∀ c, c ∈ b :: o3 ∨ g.imm c → w2.heap[c]? = w.heap[c]? := by
    intro c hc'
    rcases hc' with hc' | hc'
    · exact hchg.block c (hlts c (hinb c hc')).1 (hn13 c hc')
    · exact hchg.block c (hp.imm c hc') fun h1 => (hlts c (hin1 c h1)).2 hc'
  have hdtl : ∀ l, hit [.slot d] l = false → setV V d y l = V l := fun l hl => setV_hit hl
  refine ⟨y, rfl, { g with Imm := fun b => Imm' b }, setV V d y, (b :: o3) ++ o, ⟨rfl, rfl, rfl, rfl, hI, fun c hc' => ?_⟩, fun c hc' => ?_, fun c hc' => ?_, ?_, hdtl, fun u => setV_val hp.val hp.size hlt u, ?_, ?_, ?_⟩
  · rcases hnew c hc' with h | h | h
    · exact .inl h
    · exact .inr (hp.own2 c (by have := hin1 c h; simp at this ⊢; exact .inr this))
    · exact .inr (.inl (Nat.le_trans hp.base h.1))
  · rcases hnew c hc' with h | h | h
    · exact .inl h
    · exact .inr (.inl (by simpa using hin1 c h))
    · exact .inr (.inr h.1)
  · rcases hnew c hc' with h | h | h
    · exact Nat.lt_of_lt_of_le (hp.imm c (.inl h)) hchg.size
    · exact Nat.lt_of_lt_of_le (hob c h).1 hchg.size
    · exact h.2
  · exact hchg.mono fun c hc' => by simpa using hin1 c hc'
  · have hVt : setV V d y (.slot t) = V (.slot t) := by simp only [setV]; rw [if_neg fun e => hdt e.symm]
    have hVtc : ∀ j, setV V d y (.cell t j) = V (.cell t j) := fun j => rfl
    refine ⟨b :: o3, o, rfl, ⟨?_, ?_⟩, o, [], by simp, ⟨?_, ?_⟩, rfl⟩
    · show R _ _ _ (.box T' _) (setV V d y (.slot t)) _
      rw [hVt]
      simp only [R]
      refine ⟨b, cur, o3, hpt, rfl, by rw [hkeep b (.inl (by simp))]; exact hh, ?_⟩
      exact Rs_stab (g := g) (g' := { g with Imm := fun b => Imm' b }) (W := [.slot d]) hI (fun _ h => h) hdtl _ _ _ hclr (fun c hc' => hkeep c (hc'.imp (fun h => by simp [h]) id)) hrest
    · intro b' hb' j hj
      rw [hVt] at hb'
      rw [hVtc]
      rw [World.cell?_of_block (w := w) (by
        rw [hpt] at hb'; cases hb'
        exact hkeep b (.inl (by simp)))]
      exact htie b' hb' j (by simpa using hj)
    · show R _ _ _ res (setV V d y (.slot d)) o
      rw [setV_slot]
      exact R_closed (g := gh0 w Imm' (fun b => g.Im b ∨ b ∈ oN)) (g' := { g with Imm := fun b => Imm' b }) (fun _ h => h) res y o hcl (.inr hsh) hR
    · cases res <;> first | trivial | (simp [noBox] at hnb)
  · refine List.nodup_append.2 ⟨?_, hndo, ?_⟩
    · have : (o1 ++ (b :: o3)).Nodup := (List.perm_middle.nodup_iff).2 hnd3
      exact (List.nodup_append.1 this).2.1
    · intro c hc' c2 hc2 e
      subst e
      rcases (hfr c hc2).1 with h | h
      · exact hn13 c hc' h
      · have := (hlts c (hinb c hc')).1; omega
  · intro c hc'
    rcases List.mem_append.1 hc' with hc' | hc'
    · have h4 : c ∈ b :: os := hinb c hc'
      refine ⟨.inl (by simpa using h4), Nat.lt_of_lt_of_le (hlts c h4).1 hchg.size, ?_⟩
      rintro (h | h)
      · rcases hnew c h with h5 | h5 | h5
        · exact (hlts c h4).2 (.inl h5)
        · exact hn13 c hc' h5
        · have := (hlts c h4).1; omega
      · exact (hlts c h4).2 (.inr h)
    · obtain ⟨h1, h2, h3⟩ := hfr c hc'
      refine ⟨h1.imp (fun h => by simpa using hin1 c h) id, h2, ?_⟩
      rintro (h | h)
      · exact h3 h
      · rcases h1 with h1 | h1
        · exact (hob c h1).2 (.inr (.inl h))
        · exact absurd (hp.imm c (.inr h)) (by omega)
end
end Go.Abs
