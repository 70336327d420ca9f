/-
  GrowCut: for every input the call returns true and each argument reads as it did.
-/
import Derived.Test.YthceldoojddpiaaDoorIn
import Derived.HandedShaped
import Derived.Shelf.Vars
import Derived.Test.YthceldoojddpiaaDoorTie
import Derived.Test.YthceldoojddpiaaDoorCards
import Derived.LaidMore
import Derived.Lay
import Derived.SevenTiedAt
import Derived.Stop.Joined
import Derived.Test.YthceldoojddpiaaDoorCame
import Derived.Test.YthceldoojddpiaaDoorOkGrowCut
import Derived.Test.YthceldoojddpiaaDoorGrcA
namespace Go.Proofs.YthceldoojddpiaaDoor
open Go.ChangeShapes Go.WideShapes Go.ChangeAt Go.RowKit Go.Abs Go.Abs.Sh
open Go.ChangeMaps (open_string shut_string)
set_option linter.unusedVariables false

set_option maxRecDepth 100000 in
theorem growCut_lifted (os:Os) (started:os.Started) (H:Type) (enc:TypeId×Value→H) :
    ReturnsInHanded {} Tryd.checked os 4 .any (fun w args=>(Rows.growCutSpec.pre enc Tryd.prog Tryd.f4 Rows.growCutRow.domain false w args∧laidMetH Tryd.prog Rows.growCutRow.laid w)∧sizedMet enc Tryd.prog Tryd.f4 (OpenSpec.ofChange Rows.growCutSpec) false w args) (Rows.growCutSpec.post enc Tryd.prog Tryd.f4 false true false false):=by
  refine returnsInHanded_of_change_and (C:=Tryd.checked) (X:=fun w _=>laidMetH Tryd.prog Rows.growCutRow.laid w) (fun _ _ _ hh h=>h.of_heap hh) own started (by kernel_rfl) Tryd.func4
    (ChangeSpec.witness_shaped (enc:=enc) (C:=Tryd.checked) (os:=os) (X:=fun w _=>laidMetH Tryd.prog Rows.growCutRow.laid w) false (World.laidAll Tryd.prog os Rows.growCutRow.laid) #[.slice none 0 0, .int .i64 0, .int .u8 0] 12 (World.laidAll_os _ _ _) (World.shaped_of_ZipB (by kernel_rfl) (by kernel_rfl)) (by kernel_rfl) (by kernel_rfl) (by kernel_rfl) (by rw [MakeChecks.laidMetH_plain _ _ _ (by kernel_rfl)]; exact laidMet_laidAll _ (by kernel_rfl) (by kernel_rfl))) ?_
  intro W base args ds gs before hval0 hW hcnd _ hL _
  have hval:∀ (j:Nat) t v, Tryd.f4.params[j]? = some t→args[j]? = some v→Value.okWide Tryd.prog W .any base t v:=hval0
  have hW':=hW
  obtain ⟨p, q, hA0, hV, rfl, hfz, hnd⟩:=hW
  have hA:DataW.TrodAll enc Tryd.prog W 0 (fun _=>true) true Tryd.f4.params.toList args.toList ds p:=hA0
  rw [Tryd.params4] at hA hval
  obtain ⟨v0, vs0, d0, ds0, p0, q0, hargs, rfl, rfl, h0, r0⟩:=trodAll_cons hA
  obtain ⟨v1, vs1, d1, ds1, p1, q1, rfl, rfl, rfl, h1, r1⟩:=trodAll_cons r0
  obtain ⟨v2, vs2, d2, ds2, p2, q2, rfl, rfl, rfl, h2, r2⟩:=trodAll_cons r1
  obtain ⟨rfl, rfl, rfl⟩:=trodAll_nil r2
  obtain rfl:args = #[v0, v1, v2]:=by cases args; simp_all
  obtain ⟨rfl, rfl⟩:=trodVars_none hV
  have k0:=h0
  have lt0:∀ x∈p0, x.block<W.heap.size:=by obtain ⟨m, hm⟩:=k0; exact DataW.trod_lt m _ _ _ hm
  obtain ⟨a0, len0, cap0, rfl⟩:=okWide_slice Tryd.underlying22 (hval 0 22 v0 rfl rfl)
  obtain ⟨fu0, hf0⟩:=h0
  obtain ⟨x0, q0, _, w0⟩:=cm22 _ _ _ hf0
  obtain ⟨x1, rfl, rfl, rfl, w1⟩:=open_int Tryd.underlying3 (hval 1 3 v1 rfl rfl) h1
  obtain ⟨x2, rfl, rfl, rfl, w2⟩:=open_int Tryd.underlying5 (hval 2 5 v2 rfl rfl) h2
  clear hA0 hval0
  rw [MakeChecks.laidMetH_plain _ _ _ (by kernel_rfl)] at hL
  obtain ⟨ps, ⟨g0, t0, cs0, f0, lp0, lq0, hg0, ht0, hv0, hd0, _, _⟩, _, _⟩:=hL
  obtain rfl := Option.some.inj ((show Tryd.prog.globalNamed "wherry/grow.rowOrder" = some 1 by kernel_rfl).symm.trans hg0)
  obtain rfl:=Option.some.inj ((show (Tryd.prog.globals[1]?).map (·.type)=some 108 by kernel_rfl).symm.trans ht0)
  refine (in_okG (ok_wherrylaw07_GrowCut 0 x0 x1 x2 true (growCut_true x0 x1 x2 w0 w2)) (show GOK (GL 0) _ _ from (gok_cons (vs:=(List.map (Value.int .i64) grow_rowOrder)) (by simp [grow_rowOrder]) (laid_cells hg0 hv0 (tab1 (ns:=grow_rowOrder) Tryd.underlying108 Tryd.underlying3 (by kernel_rfl) (by kernel_rfl) hd0)) gok_nil)) (in_cons (came_sl q0 (.fl _ _ rfl)) (in_cons (in_v _) (in_cons (in_v _) in_nil)))).mono fun e W' ⟨he, bel⟩ => ?_
  subst he
  exact ⟨_, rfl, _, _, _, [], _, [], hW', trodAll_mk1 (shut_bool Tryd.underlying4 _), (trodAll_cons_mk (Below.trod laidOut (by kernel_rfl) (of_decide_eq_true (by kernel_rfl)) k0 bel lt0) (trodAll_cons_mk (shut_int Tryd.underlying3 w1) (trodAll_cons_mk (shut_int Tryd.underlying5 w2) trodAll_mk0))), rfl, bel.frame _, fun h=>by cases h⟩

theorem growCut_proved:Rows.GrowCutSaid :=
  OpenClaim.holds_of_wide 4 Tryd.f4 rfl rfl rfl rfl rfl rfl rfl ⟨rfl, rfl, rfl, rfl, rfl⟩ rfl rfl rfl rfl rfl (by kernel_rfl) Tryd.func4 (by kernel_rfl)
    (of_decide_eq_true (by kernel_rfl)) (by unfold Func.isWrapper; first | (rw [if_pos (by decide+kernel)]; kernel_rfl) | (rw [if_neg (by decide+kernel)]; exact ⟨rfl, rfl⟩))
    (fun os started H enc _=>growCut_lifted os started H enc)
#print axioms growCut_proved
theorem growCut_card:Rows.GrowCutCardSaid :=
  Claim7.holds_tied_plain_at .later [] [.data] true (true, "da8e02bd3a74d51c4bdb20a790356f489a72c29e74a137ae2a2f089ab19b1cfd") false
    growCut_proved (fun _ h=>by cases h) (by kernel_rfl) (fun _ h=>by cases h) growCut_row_tie rfl ⟨rfl, rfl⟩ (by kernel_rfl) rfl
    (fun f fn hf hfn=>by
      obtain rfl : f = 4 := Option.some.inj ((show Tryd.prog.funcNamed "wherry/wherrylaw07.GrowCut" = some 4 by kernel_rfl).symm.trans hf) |>.symm
      obtain rfl:fn=Tryd.f4:=(Option.some.inj (Tryd.func4.symm.trans hfn)).symm
      exact ⟨by kernel_rfl, fun j t ht=>by
        rw [Tryd.params4] at ht
        have hm:t∈[22, 3, 5]:=by
          have:=Array.mem_of_getElem? ht
          simpa using this
        have hall:([22, 3, 5].all fun u => !Tryd.prog.wantsStandIn u)=true:=by kernel_rfl
        exact (show Tryd.prog.wantsStandIn t=false by simpa using List.all_eq_true.1 hall t hm)⟩)
    (by kernel_rfl)
#print axioms growCut_card
end Go.Proofs.YthceldoojddpiaaDoor
