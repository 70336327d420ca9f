/-
  ShrinkExact: for every input the call returns true and each argument reads as it did.
-/
import Derived.Test.YtkgfjkfccpjcgaaDoorIn
import Derived.HandedShaped
import Derived.Shelf.Vars
import Derived.Test.YtkgfjkfccpjcgaaDoorTie
import Derived.Test.YtkgfjkfccpjcgaaDoorCards
import Derived.LaidMore
import Derived.Lay
import Derived.SevenTiedAt
import Derived.Stop.Joined
import Derived.Test.YtkgfjkfccpjcgaaDoorCame
import Derived.Test.YtkgfjkfccpjcgaaDoorOkShrinkExact
import Derived.Test.YtkgfjkfccpjcgaaDoorShkY
namespace Go.Proofs.YtkgfjkfccpjcgaaDoor
open Go.ChangeShapes Go.WideShapes Go.ChangeAt Go.RowKit Go.Abs Go.Abs.Sh
open Go.ChangeMaps (open_string shut_string)
set_option linter.unusedVariables false

set_option maxRecDepth 100000 in
theorem shrinkExact_lifted (os:Os) (started:os.Started) (H:Type) (enc:TypeId×Value→H) :
    ReturnsInHanded {} Tryd.checked os 3 .any (fun w args=>(Rows.shrinkExactSpec.pre enc Tryd.prog Tryd.f3 Rows.shrinkExactRow.domain false w args∧laidMetH Tryd.prog Rows.shrinkExactRow.laid w)∧sizedMet enc Tryd.prog Tryd.f3 (OpenSpec.ofChange Rows.shrinkExactSpec) false w args) (Rows.shrinkExactSpec.post enc Tryd.prog Tryd.f3 false true false false):=by
  refine returnsInHanded_of_change_and (C:=Tryd.checked) (X:=fun w _=>laidMetH Tryd.prog Rows.shrinkExactRow.laid w) (fun _ _ _ hh h=>h.of_heap hh) own started (by kernel_rfl) Tryd.func3
    (ChangeSpec.witness_shaped (enc:=enc) (C:=Tryd.checked) (os:=os) (X:=fun w _=>laidMetH Tryd.prog Rows.shrinkExactRow.laid w) false (World.laidAll Tryd.prog os Rows.shrinkExactRow.laid) #[.slice none 0 0] 12 (World.laidAll_os _ _ _) (World.shaped_of_ZipB (by kernel_rfl) (by kernel_rfl)) (by kernel_rfl) (by kernel_rfl) (by kernel_rfl) (by rw [MakeChecks.laidMetH_plain _ _ _ (by kernel_rfl)]; exact laidMet_laidAll _ (by kernel_rfl) (by kernel_rfl))) ?_
  intro W base args ds gs before hval0 hW hcnd _ hL _
  have hval:∀ (j:Nat) t v, Tryd.f3.params[j]? = some t→args[j]? = some v→Value.okWide Tryd.prog W .any base t v:=hval0
  have hW':=hW
  obtain ⟨p, q, hA0, hV, rfl, hfz, hnd⟩:=hW
  have hA:DataW.TrodAll enc Tryd.prog W 0 (fun _=>true) true Tryd.f3.params.toList args.toList ds p:=hA0
  rw [Tryd.params3] at hA hval
  obtain ⟨v0, vs0, d0, ds0, p0, q0, hargs, rfl, rfl, h0, r0⟩:=trodAll_cons hA
  obtain ⟨rfl, rfl, rfl⟩:=trodAll_nil r0
  obtain rfl:args = #[v0]:=by cases args; simp_all
  obtain ⟨rfl, rfl⟩:=trodVars_none hV
  have k0:=h0
  have lt0:∀ x∈p0, x.block<W.heap.size:=by obtain ⟨m, hm⟩:=k0; exact DataW.trod_lt m _ _ _ hm
  obtain ⟨a0, len0, cap0, rfl⟩:=okWide_slice Tryd.underlying22 (hval 0 22 v0 rfl rfl)
  obtain ⟨fu0, hf0⟩:=h0
  obtain ⟨x0, q0, _, w0⟩:=KD _ _ _ hf0
  clear hA0 hval0
  rw [MakeChecks.laidMetH_plain _ _ _ (by kernel_rfl)] at hL
  obtain ⟨ps, ⟨g0, t0, cs0, f0, lp0, lq0, hg0, ht0, hv0, hd0, _, _⟩, _, _⟩:=hL
  obtain rfl := Option.some.inj ((show Tryd.prog.globalNamed "wherry/shrink.rowOrder" = some 0 by kernel_rfl).symm.trans hg0)
  obtain rfl:=Option.some.inj ((show (Tryd.prog.globals[0]?).map (·.type)=some 113 by kernel_rfl).symm.trans ht0)
  refine (Ha (jn 0 x0 true (pm x0 w0)) (show Gx (GL 0) _ _ from (Da (vs:=(List.map (Value.int .i64) ck)) (by simp [ck]) (yB hg0 hv0 (Ks (ns:=ck) Tryd.underlying113 Tryd.underlying3 (by kernel_rfl) (by kernel_rfl) hd0)) FK)) (Ft (Fi q0 (.fl _ _ rfl)) Is)).mono fun e W' ⟨he, bel⟩ => ?_
  subst he
  exact ⟨_, rfl, _, _, _, [], _, [], hW', trodAll_mk1 (shut_bool Tryd.underlying4 _), (trodAll_cons_mk (Below.trod laidOut (by kernel_rfl) (of_decide_eq_true (by kernel_rfl)) k0 bel lt0) trodAll_mk0), rfl, bel.frame _, fun h=>by cases h⟩

theorem shrinkExact_proved:Rows.ShrinkExactSaid :=
  OpenClaim.holds_of_wide 3 Tryd.f3 rfl rfl rfl rfl rfl rfl rfl ⟨rfl, rfl, rfl, rfl, rfl⟩ rfl rfl rfl rfl rfl (by kernel_rfl) Tryd.func3 (by kernel_rfl)
    (of_decide_eq_true (by kernel_rfl)) (by unfold Func.isWrapper; first | (rw [if_pos (by decide+kernel)]; kernel_rfl) | (rw [if_neg (by decide+kernel)]; exact ⟨rfl, rfl⟩))
    (fun os started H enc _=>shrinkExact_lifted os started H enc)
#print axioms shrinkExact_proved
theorem shrinkExact_card:Rows.ShrinkExactCardSaid :=
  Claim7.holds_tied_plain_at .later [] [.data] true (true, "95bf423e54d617eaa9e8d61919020d47254ab7abd159bb00bb9911d6f2ccd476") false
    shrinkExact_proved (fun _ h=>by cases h) (by kernel_rfl) (fun _ h=>by cases h) shrinkExact_row_tie rfl ⟨rfl, rfl⟩ (by kernel_rfl) rfl
    (fun f fn hf hfn=>by
      obtain rfl : f = 3 := Option.some.inj ((show Tryd.prog.funcNamed "wherry/wherrylaw06.ShrinkExact" = some 3 by kernel_rfl).symm.trans hf) |>.symm
      obtain rfl:fn=Tryd.f3:=(Option.some.inj (Tryd.func3.symm.trans hfn)).symm
      exact ⟨by kernel_rfl, fun j t ht=>by
        rw [Tryd.params3] at ht
        have hm:t∈[22]:=by
          have:=Array.mem_of_getElem? ht
          simpa using this
        have hall:([22].all fun u => !Tryd.prog.wantsStandIn u)=true:=by kernel_rfl
        exact (show Tryd.prog.wantsStandIn t=false by simpa using List.all_eq_true.1 hall t hm)⟩)
    (by kernel_rfl)
#print axioms shrinkExact_card
end Go.Proofs.YtkgfjkfccpjcgaaDoor
