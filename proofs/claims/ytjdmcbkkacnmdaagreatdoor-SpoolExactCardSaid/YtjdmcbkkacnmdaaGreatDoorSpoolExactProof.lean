/-
  SpoolExact: for every input the call returns true and each argument reads as it did.
-/
import Derived.Test.YtjdmcbkkacnmdaaGreatDoorIn
import Derived.HandedShaped
import Derived.Shelf.Vars
import Derived.SizedLaws
import Derived.Test.YtjdmcbkkacnmdaaGreatDoorTie
import Derived.Test.YtjdmcbkkacnmdaaGreatDoorCards
import Derived.LaidMore
import Derived.Lay
import Derived.SevenTiedAt
import Derived.Stop.Joined
import Derived.Test.YtjdmcbkkacnmdaaGreatDoorCame
import Derived.Test.YtjdmcbkkacnmdaaGreatDoorOkSpoolExact
import Derived.Test.YtjdmcbkkacnmdaaGreatDoorSpeC
namespace Go.Proofs.YtjdmcbkkacnmdaaGreatDoor
open Go.ChangeShapes Go.WideShapes Go.ChangeAt Go.RowKit Go.Abs Go.Abs.Sh
open Go.ChangeMaps (open_string shut_string)
set_option linter.unusedVariables false

set_option maxRecDepth 100000 in
theorem spoolExact_lifted (os:Os) (started:os.Started) (H:Type) (enc:TypeId×Value→H) :
    ReturnsInHanded {} Tryz.checked os 3 .any (fun w args=>(Rows.spoolExactSpec.pre enc Tryz.prog Tryz.f3 Rows.spoolExactRow.domain false w args∧laidMetH Tryz.prog Rows.spoolExactRow.laid w)∧sizedMet enc Tryz.prog Tryz.f3 (OpenSpec.ofChange Rows.spoolExactSpec) false w args) (Rows.spoolExactSpec.post enc Tryz.prog Tryz.f3 false true false false):=by
  refine ma (C:=Tryz.checked) (X:=fun w _=>laidMetH Tryz.prog Rows.spoolExactRow.laid w) (fun _ _ _ hh h=>h.of_heap hh) own started (by kernel_rfl) Tryz.func3
    (ChangeSpec.witness_shaped (enc:=enc) (C:=Tryz.checked) (os:=os) (X:=fun w _=>laidMetH Tryz.prog Rows.spoolExactRow.laid w) false (World.laidAll Tryz.prog os Rows.spoolExactRow.laid) #[.slice none 0 0, .agg #[.int .i64 0, .bool false, .string ByteArray.empty, .string ByteArray.empty, .slice none 0 0, .slice none 0 0, .bool false, .string ByteArray.empty, .int .i64 0, .int .i64 0, .slice none 0 0, .int .i64 0, .int .i64 0, .int .i64 0, .slice none 0 0]] 12 (World.laidAll_os _ _ _) (World.shaped_of_ZipB (by kernel_rfl) (by kernel_rfl)) (by kernel_rfl) (by kernel_rfl) (by kernel_rfl) (by rw [MakeChecks.laidMetH_plain _ _ _ (by kernel_rfl)]; exact laidMet_laidAll _ (by kernel_rfl) (by kernel_rfl))) ?_
  intro W base args ds gs before hval0 hW hcnd hsz hL hsh _
  have hval:∀ (j:Nat) t v, Tryz.f3.params[j]? = some t→args[j]? = some v→Value.okWide Tryz.prog W .any base t v:=hval0
  have hW':=hW
  obtain ⟨p, q, hA0, hV, rfl, hfz, hnd⟩:=hW
  have hA:DataW.TrodAll enc Tryz.prog W 0 (fun _=>true) true Tryz.f3.params.toList args.toList ds p:=hA0
  rw [Tryz.params3] at hA hval
  obtain ⟨v0, vs0, d0, ds0, p0, q0, hargs, rfl, rfl, h0, r0⟩:=trodAll_cons hA
  obtain ⟨v1, vs1, d1, ds1, p1, q1, rfl, rfl, rfl, h1, r1⟩:=trodAll_cons r0
  obtain ⟨rfl, rfl, rfl⟩:=trodAll_nil r1
  obtain rfl:args = #[v0, v1]:=by cases args; simp_all
  obtain ⟨rfl, rfl⟩:=trodVars_none hV
  have z0:mL Tryz.prog 22 d0:=rJ hsz 0 (by kernel_rfl) rfl
  have k0:=h0
  have lt0:∀ x∈p0, x.block<W.heap.size:=by obtain ⟨m, hm⟩:=k0; exact DataW.trod_lt m _ _ _ hm
  obtain ⟨a0, len0, cap0, rfl⟩:=okWide_slice Tryz.underlying22 (hval 0 22 v0 rfl rfl)
  obtain ⟨fu0, hf0⟩:=h0
  obtain ⟨x0, q0, _, w0⟩:=EY _ _ _ hf0 z0
  have z1:mL Tryz.prog 31 d1:=rJ hsz 1 (by kernel_rfl) rfl
  have k1:=h1
  have lt1:∀ x∈p1, x.block<W.heap.size:=by obtain ⟨m, hm⟩:=k1; exact DataW.trod_lt m _ _ _ hm
  obtain ⟨cs1, rfl, _⟩:=okWide_struct Tryz.underlying31 (hval 1 31 v1 rfl rfl)
  obtain ⟨fu1, hf1⟩:=h1
  obtain ⟨x1, q1, _, w1⟩:=Ec _ _ _ hf1 z1
  clear hA0 hval0
  rw [MakeChecks.laidMetH_plain _ _ _ (by kernel_rfl)] at hL
  obtain ⟨ps, ⟨g0, t0, cs0, f0, lp0, lq0, hg0, ht0, hv0, hd0, ⟨g1, t1, cs1, f1, lp1, lq1, hg1, ht1, hv1, hd1, _, _⟩, _⟩, _, _⟩:=hL
  obtain rfl := Option.some.inj ((show Tryz.prog.globalNamed "unicode/utf8.acceptRanges" = some 2 by kernel_rfl).symm.trans hg0)
  obtain rfl:=Option.some.inj ((show (Tryz.prog.globals[2]?).map (·.type)=some 129 by kernel_rfl).symm.trans ht0)
  obtain rfl := Option.some.inj ((show Tryz.prog.globalNamed "unicode/utf8.first" = some 1 by kernel_rfl).symm.trans hg1)
  obtain rfl:=Option.some.inj ((show (Tryz.prog.globals[1]?).map (·.type)=some 126 by kernel_rfl).symm.trans ht1)
  obtain ⟨mx, hmx⟩:∃ m, ∀ j, W.cell? ⟨0, j, none⟩=([.int .i64 m]:List Value)[j]? := vT (zero := #[.int .i64 0]) (t:=3) hsh (of_decide_eq_true (by kernel_rfl)) (by kernel_rfl) rfl (by kernel_rfl) (by kernel_rfl) Tryz.underlying3
  refine (CK (jE mx x0 x1 true (pk x0 x1 w0 w1)) (show Br (GL mx) _ _ from (pK (by simp) (vR hmx) (pK (vs:=(List.map (Value.int .u8) gp)) (by simp [gp]) (qD hg1 hv1 (EO (ns:=gp) Tryz.underlying126 Tryz.underlying5 (by kernel_rfl) (by kernel_rfl) hd1)) (pK (vs:=(List.map (Value.int .u8) iA)) (by simp [iA]) (qD hg0 hv0 (((Fo (k := .u8) (ns:=[(128, 191), (160, 191), (128, 159), (144, 191), (128, 143), (0, 0), (0, 0), (0, 0), (0, 0), (0, 0), (0, 0), (0, 0), (0, 0), (0, 0), (0, 0), (0, 0)]) Tryz.underlying129 Tryz.underlying128 Tryz.underlying5 Tryz.underlying5 rfl rfl (by kernel_rfl) (by kernel_rfl) (by kernel_rfl) (by kernel_rfl) hd0).trans (qn .u8 _)))) Bm)))) (wB (By q0 (.fr _ _)) (wB (yX q1 (.cons (.v _) (.cons (.v _) (.cons (.v _) (.cons (.v _) (.cons (.fl _ _ rfl) (.cons (.fl _ _ rfl) (.cons (.v _) (.cons (.v _) (.cons (.v _) (.cons (.v _) (.cons (.fl _ _ rfl) (.cons (.v _) (.cons (.v _) (.cons (.v _) (.cons (.fl _ _ rfl) (.nil))))))))))))))))) Cx))).mono fun e W' ⟨he, bel⟩ => ?_
  subst he
  exact ⟨_, rfl, _, _, _, [], _, [], hW', trodAll_mk1 (shut_bool Tryz.underlying4 _), (trodAll_cons_mk (Below.trod laidOut (by kernel_rfl) (of_decide_eq_true (by kernel_rfl)) k0 bel lt0) (trodAll_cons_mk (Below.trod laidOut (by kernel_rfl) (of_decide_eq_true (by kernel_rfl)) k1 bel lt1) trodAll_mk0)), rfl, bel.frame _, fun h=>by cases h⟩

theorem spoolExact_proved:Rows.SpoolExactSaid :=
  OpenClaim.holds_of_wide 3 Tryz.f3 rfl rfl rfl rfl rfl rfl rfl ⟨rfl, rfl, rfl, rfl, rfl⟩ rfl rfl rfl rfl rfl (by kernel_rfl) Tryz.func3 (by kernel_rfl)
    (of_decide_eq_true (by kernel_rfl)) (by unfold Func.isWrapper; first | (rw [if_pos (by decide+kernel)]; kernel_rfl) | (rw [if_neg (by decide+kernel)]; exact ⟨rfl, rfl⟩))
    (fun os started H enc _=>spoolExact_lifted os started H enc)
#print axioms spoolExact_proved
theorem spoolExact_card:Rows.SpoolExactCardSaid :=
  Claim7.holds_tied_plain_at .later [] [.data, .pinned] true (true, "88dc75893aadb9174ce61ead087d5b5ffd4a4b68ab7cf44d56f3e5b169636f46") false
    spoolExact_proved (fun _ h=>by cases h) (by kernel_rfl) (fun _ h=>by cases h) spoolExact_row_tie rfl ⟨rfl, rfl⟩ (by kernel_rfl) rfl
    (fun f fn hf hfn=>by
      obtain rfl : f = 3 := Option.some.inj ((show Tryz.prog.funcNamed "wherry/wherrylaw19.SpoolExact" = some 3 by kernel_rfl).symm.trans hf) |>.symm
      obtain rfl:fn=Tryz.f3:=(Option.some.inj (Tryz.func3.symm.trans hfn)).symm
      exact ⟨by kernel_rfl, fun j t ht=>by
        rw [Tryz.params3] at ht
        have hm:t∈[22, 31]:=by
          have:=Array.mem_of_getElem? ht
          simpa using this
        have hall:([22, 31].all fun u => !Tryz.prog.wantsStandIn u)=true:=by kernel_rfl
        exact (show Tryz.prog.wantsStandIn t=false by simpa using List.all_eq_true.1 hall t hm)⟩)
    (by kernel_rfl)
#print axioms spoolExact_card
end Go.Proofs.YtjdmcbkkacnmdaaGreatDoor
