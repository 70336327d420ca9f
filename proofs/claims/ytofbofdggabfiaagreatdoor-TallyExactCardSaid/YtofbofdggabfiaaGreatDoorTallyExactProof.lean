/-
  TallyExact: for every input the call returns true and each argument reads as it did.
-/
import Derived.Test.YtofbofdggabfiaaGreatDoorIn
import Derived.HandedShaped
import Derived.Shelf.Vars
import Derived.SizedLaws
import Derived.Test.YtofbofdggabfiaaGreatDoorTie
import Derived.Test.YtofbofdggabfiaaGreatDoorCards
import Derived.LaidMore
import Derived.Lay
import Derived.SevenTiedAt
import Derived.Stop.Joined
import Derived.Test.YtofbofdggabfiaaGreatDoorCame
import Derived.Test.YtofbofdggabfiaaGreatDoorOkTallyExact
import Derived.Test.YtofbofdggabfiaaGreatDoorTaxF
namespace Go.Proofs.YtofbofdggabfiaaGreatDoor
open Go.ChangeShapes Go.WideShapes Go.ChangeAt Go.RowKit Go.Abs Go.Abs.Sh
open Go.ChangeMaps (open_string shut_string)
set_option linter.unusedVariables false

set_option maxRecDepth 100000 in
theorem tallyExact_lifted (os:Os) (started:os.Started) (H:Type) (enc:TypeId×Value→H) :
    ReturnsInHanded {} Tryz.checked os 3 .any (fun w args=>(Rows.tallyExactSpec.pre enc Tryz.prog Tryz.f3 Rows.tallyExactRow.domain false w args∧laidMetH Tryz.prog Rows.tallyExactRow.laid w)∧sizedMet enc Tryz.prog Tryz.f3 (OpenSpec.ofChange Rows.tallyExactSpec) false w args) (Rows.tallyExactSpec.post enc Tryz.prog Tryz.f3 false true false false):=by
  refine returns_laid_shaped (C:=Tryz.checked) (X:=fun w _=>laidMetH Tryz.prog Rows.tallyExactRow.laid w) (fun _ _ _ hh h=>h.of_heap hh) own started (by kernel_rfl) Tryz.func3
    (ChangeSpec.witness_shaped (enc:=enc) (C:=Tryz.checked) (os:=os) (X:=fun w _=>laidMetH Tryz.prog Rows.tallyExactRow.laid w) false (World.laidAll Tryz.prog os Rows.tallyExactRow.laid) #[.slice none 0 0, .int .i64 0, .agg #[.bool false, .string ByteArray.empty, .string ByteArray.empty], .slice none 0 0, .slice none 0 0, .agg #[.string ByteArray.empty, .string ByteArray.empty, .int .i64 0, .string ByteArray.empty, .string ByteArray.empty, .int .i64 0, .bool false], .int .i64 0, .agg #[.bool false, .string ByteArray.empty, .string ByteArray.empty, .slice none 0 0, .slice none 0 0, .bool false, .string ByteArray.empty, .int .i64 0]] 12 (World.laidAll_os _ _ _) (World.shaped_of_ZipB (by kernel_rfl) (by kernel_rfl)) (by kernel_rfl) (by kernel_rfl) (by kernel_rfl) (by rw [MakeChecks.laidMetH_plain _ _ _ (by kernel_rfl)]; exact laidMet_laidAll _ (by kernel_rfl) (by kernel_rfl))) ?_
  intro W base args ds gs before hval0 hW hcnd hsz hL hsh _
  have hval:∀ (j:Nat) t v, Tryz.f3.params[j]? = some t→args[j]? = some v→Value.okWide Tryz.prog W .any base t v:=hval0
  have hW':=hW
  obtain ⟨p, q, hA0, hV, rfl, hfz, hnd⟩:=hW
  have hA:DataW.TrodAll enc Tryz.prog W 0 (fun _=>true) true Tryz.f3.params.toList args.toList ds p:=hA0
  rw [Tryz.params3] at hA hval
  obtain ⟨v0, vs0, d0, ds0, p0, q0, hargs, rfl, rfl, h0, r0⟩:=trodAll_cons hA
  obtain ⟨v1, vs1, d1, ds1, p1, q1, rfl, rfl, rfl, h1, r1⟩:=trodAll_cons r0
  obtain ⟨v2, vs2, d2, ds2, p2, q2, rfl, rfl, rfl, h2, r2⟩:=trodAll_cons r1
  obtain ⟨v3, vs3, d3, ds3, p3, q3, rfl, rfl, rfl, h3, r3⟩:=trodAll_cons r2
  obtain ⟨v4, vs4, d4, ds4, p4, q4, rfl, rfl, rfl, h4, r4⟩:=trodAll_cons r3
  obtain ⟨v5, vs5, d5, ds5, p5, q5, rfl, rfl, rfl, h5, r5⟩:=trodAll_cons r4
  obtain ⟨v6, vs6, d6, ds6, p6, q6, rfl, rfl, rfl, h6, r6⟩:=trodAll_cons r5
  obtain ⟨v7, vs7, d7, ds7, p7, q7, rfl, rfl, rfl, h7, r7⟩:=trodAll_cons r6
  obtain ⟨rfl, rfl, rfl⟩:=trodAll_nil r7
  obtain rfl:args = #[v0, v1, v2, v3, v4, v5, v6, v7]:=by cases args; simp_all
  obtain ⟨rfl, rfl⟩:=trodVars_none hV
  have z0:Heavy Tryz.prog 22 d0:=heavy_arg hsz 0 (by kernel_rfl) rfl
  have k0:=h0
  have lt0:∀ x∈p0, x.block<W.heap.size:=by obtain ⟨m, hm⟩:=k0; exact DataW.trod_lt m _ _ _ hm
  obtain ⟨a0, len0, cap0, rfl⟩:=okWide_slice Tryz.underlying22 (hval 0 22 v0 rfl rfl)
  obtain ⟨fu0, hf0⟩:=h0
  obtain ⟨x0, q0, _, w0⟩:=cz22 _ _ _ hf0 z0
  have z1:Heavy Tryz.prog 3 d1:=heavy_arg hsz 1 (by kernel_rfl) rfl
  obtain ⟨x1, rfl, rfl, rfl, w1⟩:=open_int Tryz.underlying3 (hval 1 3 v1 rfl rfl) h1
  have z2:Heavy Tryz.prog 24 d2:=heavy_arg hsz 2 (by kernel_rfl) rfl
  have k2:=h2
  have lt2:∀ x∈p2, x.block<W.heap.size:=by obtain ⟨m, hm⟩:=k2; exact DataW.trod_lt m _ _ _ hm
  obtain ⟨cs2, rfl, _⟩:=okWide_struct Tryz.underlying24 (hval 2 24 v2 rfl rfl)
  obtain ⟨fu2, hf2⟩:=h2
  obtain ⟨x2, q2, _, w2⟩:=cz24 _ _ _ hf2 z2
  have z3:Heavy Tryz.prog 25 d3:=heavy_arg hsz 3 (by kernel_rfl) rfl
  have k3:=h3
  have lt3:∀ x∈p3, x.block<W.heap.size:=by obtain ⟨m, hm⟩:=k3; exact DataW.trod_lt m _ _ _ hm
  obtain ⟨a3, len3, cap3, rfl⟩:=okWide_slice Tryz.underlying25 (hval 3 25 v3 rfl rfl)
  obtain ⟨fu3, hf3⟩:=h3
  obtain ⟨x3, q3, _, w3⟩:=cz25 _ _ _ hf3 z3
  have z4:Heavy Tryz.prog 26 d4:=heavy_arg hsz 4 (by kernel_rfl) rfl
  have k4:=h4
  have lt4:∀ x∈p4, x.block<W.heap.size:=by obtain ⟨m, hm⟩:=k4; exact DataW.trod_lt m _ _ _ hm
  obtain ⟨a4, len4, cap4, rfl⟩:=okWide_slice Tryz.underlying26 (hval 4 26 v4 rfl rfl)
  obtain ⟨fu4, hf4⟩:=h4
  obtain ⟨x4, q4, _, w4⟩:=cz26 _ _ _ hf4 z4
  have z5:Heavy Tryz.prog 29 d5:=heavy_arg hsz 5 (by kernel_rfl) rfl
  have k5:=h5
  have lt5:∀ x∈p5, x.block<W.heap.size:=by obtain ⟨m, hm⟩:=k5; exact DataW.trod_lt m _ _ _ hm
  obtain ⟨cs5, rfl, _⟩:=okWide_struct Tryz.underlying29 (hval 5 29 v5 rfl rfl)
  obtain ⟨fu5, hf5⟩:=h5
  obtain ⟨x5, q5, _, w5⟩:=cz29 _ _ _ hf5 z5
  have z6:Heavy Tryz.prog 3 d6:=heavy_arg hsz 6 (by kernel_rfl) rfl
  obtain ⟨x6, rfl, rfl, rfl, w6⟩:=open_int Tryz.underlying3 (hval 6 3 v6 rfl rfl) h6
  have z7:Heavy Tryz.prog 32 d7:=heavy_arg hsz 7 (by kernel_rfl) rfl
  have k7:=h7
  have lt7:∀ x∈p7, x.block<W.heap.size:=by obtain ⟨m, hm⟩:=k7; exact DataW.trod_lt m _ _ _ hm
  obtain ⟨cs7, rfl, _⟩:=okWide_struct Tryz.underlying32 (hval 7 32 v7 rfl rfl)
  obtain ⟨fu7, hf7⟩:=h7
  obtain ⟨x7, q7, _, w7⟩:=cz32 _ _ _ hf7 z7
  clear hA0 hval0
  rw [MakeChecks.laidMetH_plain _ _ _ (by kernel_rfl)] at hL
  obtain ⟨ps, ⟨g0, t0, cs0, f0, lp0, lq0, hg0, ht0, hv0, hd0, ⟨g1, t1, cs1, f1, lp1, lq1, hg1, ht1, hv1, hd1, _, _⟩, _⟩, _, _⟩:=hL
  obtain rfl := Option.some.inj ((show Tryz.prog.globalNamed "unicode/utf8.acceptRanges" = some 2 by kernel_rfl).symm.trans hg0)
  obtain rfl:=Option.some.inj ((show (Tryz.prog.globals[2]?).map (·.type)=some 159 by kernel_rfl).symm.trans ht0)
  obtain rfl := Option.some.inj ((show Tryz.prog.globalNamed "unicode/utf8.first" = some 1 by kernel_rfl).symm.trans hg1)
  obtain rfl:=Option.some.inj ((show (Tryz.prog.globals[1]?).map (·.type)=some 156 by kernel_rfl).symm.trans ht1)
  obtain ⟨mx, hmx⟩:∃ m, ∀ j, W.cell? ⟨0, j, none⟩=([.int .i64 m]:List Value)[j]? := shaped_int (zero := #[.int .i64 0]) (t:=3) hsh (of_decide_eq_true (by kernel_rfl)) (by kernel_rfl) rfl (by kernel_rfl) (by kernel_rfl) Tryz.underlying3
  refine (in_okG (ok_wherrylaw26_TallyExact mx x0 x1 x2 x3 x4 x5 x6 x7 true (tallyExact_true x0 x1 x2 x3 x4 x5 x6 x7 w0 w2 w3 w4 w5 w7)) (show GOK (GL mx) _ _ from (gok_cons (by simp) (cells_one1 hmx) (gok_cons (vs:=(List.map (Value.int .u8) utf8_first)) (by simp [utf8_first]) (laid_cells hg1 hv1 (tab1 (ns:=utf8_first) Tryz.underlying156 Tryz.underlying5 (by kernel_rfl) (by kernel_rfl) hd1)) (gok_cons (vs:=(List.map (Value.int .u8) utf8_accept)) (by simp [utf8_accept]) (laid_cells hg0 hv0 (((tabS (k := .u8) (ns:=[(128, 191), (160, 191), (128, 159), (144, 191), (128, 143), (0, 0), (0, 0), (0, 0), (0, 0), (0, 0), (0, 0), (0, 0), (0, 0), (0, 0), (0, 0), (0, 0)]) Tryz.underlying159 Tryz.underlying158 Tryz.underlying5 Tryz.underlying5 rfl rfl (by kernel_rfl) (by kernel_rfl) (by kernel_rfl) (by kernel_rfl) hd0).trans (pairs_flat .u8 _)))) gok_nil)))) (in_cons (came_sl q0 (.fr _ _)) (in_cons (in_v _) (in_cons (came_agg q2 (.cons (.v _) (.cons (.v _) (.cons (.v _) (.nil))))) (in_cons (came_sl q3 (.fl _ _ rfl)) (in_cons (came_sl q4 (.fr _ _)) (in_cons (came_agg q5 (.cons (.v _) (.cons (.v _) (.cons (.v _) (.cons (.v _) (.cons (.v _) (.cons (.v _) (.cons (.v _) (.nil))))))))) (in_cons (in_v _) (in_cons (came_agg q7 (.cons (.v _) (.cons (.v _) (.cons (.v _) (.cons (.fl _ _ rfl) (.cons (.fl _ _ rfl) (.cons (.v _) (.cons (.v _) (.cons (.v _) (.nil)))))))))) in_nil))))))))).mono fun e W' ⟨he, bel⟩ => ?_
  subst he
  exact ⟨_, rfl, _, _, _, [], _, [], hW', trodAll_mk1 (shut_bool Tryz.underlying4 _), (trodAll_cons_mk (Below.trod laidOut (by kernel_rfl) (of_decide_eq_true (by kernel_rfl)) k0 bel lt0) (trodAll_cons_mk (shut_int Tryz.underlying3 w1) (trodAll_cons_mk (Below.trod laidOut (by kernel_rfl) (of_decide_eq_true (by kernel_rfl)) k2 bel lt2) (trodAll_cons_mk (Below.trod laidOut (by kernel_rfl) (of_decide_eq_true (by kernel_rfl)) k3 bel lt3) (trodAll_cons_mk (Below.trod laidOut (by kernel_rfl) (of_decide_eq_true (by kernel_rfl)) k4 bel lt4) (trodAll_cons_mk (Below.trod laidOut (by kernel_rfl) (of_decide_eq_true (by kernel_rfl)) k5 bel lt5) (trodAll_cons_mk (shut_int Tryz.underlying3 w6) (trodAll_cons_mk (Below.trod laidOut (by kernel_rfl) (of_decide_eq_true (by kernel_rfl)) k7 bel lt7) trodAll_mk0)))))))), rfl, bel.frame _, fun h=>by cases h⟩

theorem tallyExact_proved:Rows.TallyExactSaid :=
  OpenClaim.holds_of_wide 3 Tryz.f3 rfl rfl rfl rfl rfl rfl rfl ⟨rfl, rfl, rfl, rfl, rfl⟩ rfl rfl rfl rfl rfl (by kernel_rfl) Tryz.func3 (by kernel_rfl)
    (of_decide_eq_true (by kernel_rfl)) (by unfold Func.isWrapper; first | (rw [if_pos (by decide+kernel)]; kernel_rfl) | (rw [if_neg (by decide+kernel)]; exact ⟨rfl, rfl⟩))
    (fun os started H enc _=>tallyExact_lifted os started H enc)
#print axioms tallyExact_proved
theorem tallyExact_card:Rows.TallyExactCardSaid :=
  Claim7.holds_tied_plain_at .later [] [.data, .pinned] true (true, "de5e23eab66de0aa9ff804c9fcdcfb295289a76b2e9ed7588d342c676e4bd525") false
    tallyExact_proved (fun _ h=>by cases h) (by kernel_rfl) (fun _ h=>by cases h) tallyExact_row_tie rfl ⟨rfl, rfl⟩ (by kernel_rfl) rfl
    (fun f fn hf hfn=>by
      obtain rfl : f = 3 := Option.some.inj ((show Tryz.prog.funcNamed "wherry/wherrylaw26.TallyExact" = some 3 by kernel_rfl).symm.trans hf) |>.symm
      obtain rfl:fn=Tryz.f3:=(Option.some.inj (Tryz.func3.symm.trans hfn)).symm
      exact ⟨by kernel_rfl, fun j t ht=>by
        rw [Tryz.params3] at ht
        have hm:t∈[22, 3, 24, 25, 26, 29, 3, 32]:=by
          have:=Array.mem_of_getElem? ht
          simpa using this
        have hall:([22, 3, 24, 25, 26, 29, 3, 32].all fun u => !Tryz.prog.wantsStandIn u)=true:=by kernel_rfl
        exact (show Tryz.prog.wantsStandIn t=false by simpa using List.all_eq_true.1 hall t hm)⟩)
    (by kernel_rfl)
#print axioms tallyExact_card
end Go.Proofs.YtofbofdggabfiaaGreatDoor
