/-
  GrowTwo: for every input the call returns true and each argument reads as it did.
-/
import Derived.Test.YthceldoojddpiaaDoorIn
import Derived.HandedShaped
import Derived.Shelf.Vars
import Derived.Test.YthceldoojddpiaaDoorTie
import Derived.Test.YthceldoojddpiaaDoorCards
import Derived.LaidMore
import Derived.Lay
import Derived.SevenTiedAt
import Derived.Stop.Joined
import Derived.Test.YthceldoojddpiaaDoorCame
import Derived.Test.YthceldoojddpiaaDoorOkGrowTwo
import Derived.Test.YthceldoojddpiaaDoorGrwG
namespace Go.Proofs.YthceldoojddpiaaDoor
open Go.ChangeShapes Go.WideShapes Go.ChangeAt Go.RowKit Go.Abs Go.Abs.Sh
open Go.ChangeMaps (open_string shut_string)
set_option linter.unusedVariables false

set_option maxRecDepth 100000 in
theorem growTwo_lifted (os:Os) (started:os.Started) (H:Type) (enc:TypeId×Value→H) :
    ReturnsInHanded {} Tryd.checked os 5 .any (fun w args=>(Rows.growTwoSpec.pre enc Tryd.prog Tryd.f5 Rows.growTwoRow.domain false w args∧laidMetH Tryd.prog Rows.growTwoRow.laid w)∧sizedMet enc Tryd.prog Tryd.f5 (OpenSpec.ofChange Rows.growTwoSpec) false w args) (Rows.growTwoSpec.post enc Tryd.prog Tryd.f5 false true false false):=by
  refine returnsInHanded_of_change_and (C:=Tryd.checked) (X:=fun w _=>laidMetH Tryd.prog Rows.growTwoRow.laid w) (fun _ _ _ hh h=>h.of_heap hh) own started (by kernel_rfl) Tryd.func5
    (ChangeSpec.witness_shaped (enc:=enc) (C:=Tryd.checked) (os:=os) (X:=fun w _=>laidMetH Tryd.prog Rows.growTwoRow.laid w) false (World.laidAll Tryd.prog os Rows.growTwoRow.laid) #[.slice none 0 0, .slice none 0 0] 12 (World.laidAll_os _ _ _) (World.shaped_of_ZipB (by kernel_rfl) (by kernel_rfl)) (by kernel_rfl) (by kernel_rfl) (by kernel_rfl) (by rw [MakeChecks.laidMetH_plain _ _ _ (by kernel_rfl)]; exact laidMet_laidAll _ (by kernel_rfl) (by kernel_rfl))) ?_
  intro W base args ds gs before hval0 hW hcnd _ hL _
  have hval:∀ (j:Nat) t v, Tryd.f5.params[j]? = some t→args[j]? = some v→Value.okWide Tryd.prog W .any base t v:=hval0
  have hW':=hW
  obtain ⟨p, q, hA0, hV, rfl, hfz, hnd⟩:=hW
  have hA:DataW.TrodAll enc Tryd.prog W 0 (fun _=>true) true Tryd.f5.params.toList args.toList ds p:=hA0
  rw [Tryd.params5] at hA hval
  obtain ⟨v0, vs0, d0, ds0, p0, q0, hargs, rfl, rfl, h0, r0⟩:=trodAll_cons hA
  obtain ⟨v1, vs1, d1, ds1, p1, q1, rfl, rfl, rfl, h1, r1⟩:=trodAll_cons r0
  obtain ⟨rfl, rfl, rfl⟩:=trodAll_nil r1
  obtain rfl:args = #[v0, v1]:=by cases args; simp_all
  obtain ⟨rfl, rfl⟩:=trodVars_none hV
  have k0:=h0
  have lt0:∀ x∈p0, x.block<W.heap.size:=by obtain ⟨m, hm⟩:=k0; exact DataW.trod_lt m _ _ _ hm
  obtain ⟨a0, len0, cap0, rfl⟩:=okWide_slice Tryd.underlying22 (hval 0 22 v0 rfl rfl)
  obtain ⟨fu0, hf0⟩:=h0
  obtain ⟨x0, q0, _, w0⟩:=cm22 _ _ _ hf0
  have k1:=h1
  have lt1:∀ x∈p1, x.block<W.heap.size:=by obtain ⟨m, hm⟩:=k1; exact DataW.trod_lt m _ _ _ hm
  obtain ⟨a1, len1, cap1, rfl⟩:=okWide_slice Tryd.underlying22 (hval 1 22 v1 rfl rfl)
  obtain ⟨fu1, hf1⟩:=h1
  obtain ⟨x1, q1, _, w1⟩:=cm22 _ _ _ hf1
  clear hA0 hval0
  rw [MakeChecks.laidMetH_plain _ _ _ (by kernel_rfl)] at hL
  obtain ⟨ps, ⟨g0, t0, cs0, f0, lp0, lq0, hg0, ht0, hv0, hd0, ⟨g1, t1, cs1, f1, lp1, lq1, hg1, ht1, hv1, hd1, _, _⟩, _⟩, _, _⟩:=hL
  obtain rfl := Option.some.inj ((show Tryd.prog.globalNamed "wherry/grow.rowOrder" = some 1 by kernel_rfl).symm.trans hg0)
  obtain rfl:=Option.some.inj ((show (Tryd.prog.globals[1]?).map (·.type)=some 108 by kernel_rfl).symm.trans ht0)
  obtain rfl := Option.some.inj ((show Tryd.prog.globalNamed "wherry/shrink.rowOrder" = some 0 by kernel_rfl).symm.trans hg1)
  obtain rfl:=Option.some.inj ((show (Tryd.prog.globals[0]?).map (·.type)=some 108 by kernel_rfl).symm.trans ht1)
  refine (in_okG (ok_wherrylaw07_GrowTwo 0 x0 x1 true (growTwo_true x0 x1 w0 w1)) (show GOK (GL 0) _ _ from (gok_cons (vs:=(List.map (Value.int .i64) shrink_rowOrder)) (by simp [shrink_rowOrder]) (laid_cells hg1 hv1 (tab1 (ns:=shrink_rowOrder) Tryd.underlying108 Tryd.underlying3 (by kernel_rfl) (by kernel_rfl) hd1)) (gok_cons (vs:=(List.map (Value.int .i64) grow_rowOrder)) (by simp [grow_rowOrder]) (laid_cells hg0 hv0 (tab1 (ns:=grow_rowOrder) Tryd.underlying108 Tryd.underlying3 (by kernel_rfl) (by kernel_rfl) hd0)) gok_nil))) (in_cons (came_sl q0 (.fl _ _ rfl)) (in_cons (came_sl q1 (.fl _ _ rfl)) in_nil))).mono fun e W' ⟨he, bel⟩ => ?_
  subst he
  exact ⟨_, rfl, _, _, _, [], _, [], hW', trodAll_mk1 (shut_bool Tryd.underlying4 _), (trodAll_cons_mk (Below.trod laidOut (by kernel_rfl) (of_decide_eq_true (by kernel_rfl)) k0 bel lt0) (trodAll_cons_mk (Below.trod laidOut (by kernel_rfl) (of_decide_eq_true (by kernel_rfl)) k1 bel lt1) trodAll_mk0)), rfl, bel.frame _, fun h=>by cases h⟩

theorem growTwo_proved:Rows.GrowTwoSaid :=
  OpenClaim.holds_of_wide 5 Tryd.f5 rfl rfl rfl rfl rfl rfl rfl ⟨rfl, rfl, rfl, rfl, rfl⟩ rfl rfl rfl rfl rfl (by kernel_rfl) Tryd.func5 (by kernel_rfl)
    (of_decide_eq_true (by kernel_rfl)) (by unfold Func.isWrapper; first | (rw [if_pos (by decide+kernel)]; kernel_rfl) | (rw [if_neg (by decide+kernel)]; exact ⟨rfl, rfl⟩))
    (fun os started H enc _=>growTwo_lifted os started H enc)
#print axioms growTwo_proved
theorem growTwo_card:Rows.GrowTwoCardSaid :=
  Claim7.holds_tied_plain_at .later [] [.data, .data] true (true, "da8e02bd3a74d51c4bdb20a790356f489a72c29e74a137ae2a2f089ab19b1cfd") false
    growTwo_proved (fun _ h=>by cases h) (by kernel_rfl) (fun _ h=>by cases h) growTwo_row_tie rfl ⟨rfl, rfl⟩ (by kernel_rfl) rfl
    (fun f fn hf hfn=>by
      obtain rfl : f = 5 := Option.some.inj ((show Tryd.prog.funcNamed "wherry/wherrylaw07.GrowTwo" = some 5 by kernel_rfl).symm.trans hf) |>.symm
      obtain rfl:fn=Tryd.f5:=(Option.some.inj (Tryd.func5.symm.trans hfn)).symm
      exact ⟨by kernel_rfl, fun j t ht=>by
        rw [Tryd.params5] at ht
        have hm:t∈[22, 22]:=by
          have:=Array.mem_of_getElem? ht
          simpa using this
        have hall:([22, 22].all fun u => !Tryd.prog.wantsStandIn u)=true:=by kernel_rfl
        exact (show Tryd.prog.wantsStandIn t=false by simpa using List.all_eq_true.1 hall t hm)⟩)
    (by kernel_rfl)
#print axioms growTwo_card
end Go.Proofs.YthceldoojddpiaaDoor
