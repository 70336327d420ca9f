/-
  BundleExact: for every input the call returns true and each argument reads as it did.
-/
import Derived.Test.YtglabbpbianmnaaGreatDoorIn
import Derived.HandedShaped
import Derived.Shelf.Vars
import Derived.SizedLaws
import Derived.Test.YtglabbpbianmnaaGreatDoorTie
import Derived.Test.YtglabbpbianmnaaGreatDoorCards
import Derived.LaidMore
import Derived.Lay
import Derived.SevenTiedAt
import Derived.Stop.Joined
import Derived.Test.YtglabbpbianmnaaGreatDoorCame
import Derived.Test.YtglabbpbianmnaaGreatDoorOkBundleExact
import Derived.Test.YtglabbpbianmnaaGreatDoorBueF
namespace Go.Proofs.YtglabbpbianmnaaGreatDoor
open Go.ChangeShapes Go.WideShapes Go.ChangeAt Go.RowKit Go.Abs Go.Abs.Sh
open Go.ChangeMaps (open_string shut_string)
set_option linter.unusedVariables false

set_option maxRecDepth 100000 in
theorem bundleExact_lifted (os:Os) (started:os.Started) (H:Type) (enc:TypeId×Value→H) :
    ReturnsInHanded {} Tryz.checked os 3 .any (fun w args=>(Rows.bundleExactSpec.pre enc Tryz.prog Tryz.f3 Rows.bundleExactRow.domain false w args∧laidMetH Tryz.prog Rows.bundleExactRow.laid w)∧sizedMet enc Tryz.prog Tryz.f3 (OpenSpec.ofChange Rows.bundleExactSpec) false w args) (Rows.bundleExactSpec.post enc Tryz.prog Tryz.f3 false true false false):=by
  refine nD (C:=Tryz.checked) (X:=fun w _=>laidMetH Tryz.prog Rows.bundleExactRow.laid w) (fun _ _ _ hh h=>h.of_heap hh) own started (by kernel_rfl) Tryz.func3
    (ChangeSpec.witness_shaped (enc:=enc) (C:=Tryz.checked) (os:=os) (X:=fun w _=>laidMetH Tryz.prog Rows.bundleExactRow.laid w) false (World.laidAll Tryz.prog os Rows.bundleExactRow.laid) #[.agg #[.int .i64 0, .int .i64 0, .slice none 0 0], .slice none 0 0, .slice none 0 0, .int .i64 0, .int .i64 0] 12 (World.laidAll_os _ _ _) (World.shaped_of_ZipB (by kernel_rfl) (by kernel_rfl)) (by kernel_rfl) (by kernel_rfl) (by kernel_rfl) (by rw [MakeChecks.laidMetH_plain _ _ _ (by kernel_rfl)]; exact laidMet_laidAll _ (by kernel_rfl) (by kernel_rfl))) ?_
  intro W base args ds gs before hval0 hW hcnd hsz hL hsh _
  have hval:∀ (j:Nat) t v, Tryz.f3.params[j]? = some t→args[j]? = some v→Value.okWide Tryz.prog W .any base t v:=hval0
  have hW':=hW
  obtain ⟨p, q, hA0, hV, rfl, hfz, hnd⟩:=hW
  have hA:DataW.TrodAll enc Tryz.prog W 0 (fun _=>true) true Tryz.f3.params.toList args.toList ds p:=hA0
  rw [Tryz.params3] at hA hval
  obtain ⟨v0, vs0, d0, ds0, p0, q0, hargs, rfl, rfl, h0, r0⟩:=trodAll_cons hA
  obtain ⟨v1, vs1, d1, ds1, p1, q1, rfl, rfl, rfl, h1, r1⟩:=trodAll_cons r0
  obtain ⟨v2, vs2, d2, ds2, p2, q2, rfl, rfl, rfl, h2, r2⟩:=trodAll_cons r1
  obtain ⟨v3, vs3, d3, ds3, p3, q3, rfl, rfl, rfl, h3, r3⟩:=trodAll_cons r2
  obtain ⟨v4, vs4, d4, ds4, p4, q4, rfl, rfl, rfl, h4, r4⟩:=trodAll_cons r3
  obtain ⟨rfl, rfl, rfl⟩:=trodAll_nil r4
  obtain rfl:args = #[v0, v1, v2, v3, v4]:=by cases args; simp_all
  obtain ⟨rfl, rfl⟩:=trodVars_none hV
  have z0:lP Tryz.prog 24 d0:=kU hsz 0 (by kernel_rfl) rfl
  have k0:=h0
  have lt0:∀ x∈p0, x.block<W.heap.size:=by obtain ⟨m, hm⟩:=k0; exact DataW.trod_lt m _ _ _ hm
  obtain ⟨cs0, rfl, _⟩:=okWide_struct Tryz.underlying24 (hval 0 24 v0 rfl rfl)
  obtain ⟨fu0, hf0⟩:=h0
  obtain ⟨x0, q0, _, w0⟩:=Kg _ _ _ hf0 z0
  have z1:lP Tryz.prog 25 d1:=kU hsz 1 (by kernel_rfl) rfl
  have k1:=h1
  have lt1:∀ x∈p1, x.block<W.heap.size:=by obtain ⟨m, hm⟩:=k1; exact DataW.trod_lt m _ _ _ hm
  obtain ⟨a1, len1, cap1, rfl⟩:=okWide_slice Tryz.underlying25 (hval 1 25 v1 rfl rfl)
  obtain ⟨fu1, hf1⟩:=h1
  obtain ⟨x1, q1, _, w1⟩:=HY _ _ _ hf1 z1
  have z2:lP Tryz.prog 22 d2:=kU hsz 2 (by kernel_rfl) rfl
  have k2:=h2
  have lt2:∀ x∈p2, x.block<W.heap.size:=by obtain ⟨m, hm⟩:=k2; exact DataW.trod_lt m _ _ _ hm
  obtain ⟨a2, len2, cap2, rfl⟩:=okWide_slice Tryz.underlying22 (hval 2 22 v2 rfl rfl)
  obtain ⟨fu2, hf2⟩:=h2
  obtain ⟨x2, q2, _, w2⟩:=IH _ _ _ hf2 z2
  have z3:lP Tryz.prog 3 d3:=kU hsz 3 (by kernel_rfl) rfl
  obtain ⟨x3, rfl, rfl, rfl, w3⟩:=open_int Tryz.underlying3 (hval 3 3 v3 rfl rfl) h3
  have z4:lP Tryz.prog 3 d4:=kU hsz 4 (by kernel_rfl) rfl
  obtain ⟨x4, rfl, rfl, rfl, w4⟩:=open_int Tryz.underlying3 (hval 4 3 v4 rfl rfl) h4
  clear hA0 hval0
  rw [MakeChecks.laidMetH_plain _ _ _ (by kernel_rfl)] at hL
  obtain ⟨ps, ⟨g0, t0, cs0, f0, lp0, lq0, hg0, ht0, hv0, hd0, ⟨g1, t1, cs1, f1, lp1, lq1, hg1, ht1, hv1, hd1, ⟨g2, t2, cs2, f2, lp2, lq2, hg2, ht2, hv2, hd2, ⟨g3, t3, cs3, f3, lp3, lq3, hg3, ht3, hv3, hd3, ⟨g4, t4, cs4, f4, lp4, lq4, hg4, ht4, hv4, hd4, ⟨g5, t5, cs5, f5, lp5, lq5, hg5, ht5, hv5, hd5, ⟨g6, t6, cs6, f6, lp6, lq6, hg6, ht6, hv6, hd6, _, _⟩, _⟩, _⟩, _⟩, _⟩, _⟩, _⟩, _, _⟩:=hL
  obtain rfl := Option.some.inj ((show Tryz.prog.globalNamed "unicode/utf8.acceptRanges" = some 7 by kernel_rfl).symm.trans hg3)
  obtain rfl:=Option.some.inj ((show (Tryz.prog.globals[7]?).map (·.type)=some 186 by kernel_rfl).symm.trans ht3)
  obtain rfl := Option.some.inj ((show Tryz.prog.globalNamed "unicode/utf8.first" = some 6 by kernel_rfl).symm.trans hg6)
  obtain rfl:=Option.some.inj ((show (Tryz.prog.globals[6]?).map (·.type)=some 183 by kernel_rfl).symm.trans ht6)
  obtain rfl := Option.some.inj ((show Tryz.prog.globalNamed "internal/strconv.uint64pow10" = some 1 by kernel_rfl).symm.trans hg2)
  obtain rfl:=Option.some.inj ((show (Tryz.prog.globals[1]?).map (·.type)=some 144 by kernel_rfl).symm.trans ht2)
  obtain ⟨mx, hmx⟩:∃ m, ∀ j, W.cell? ⟨0, j, none⟩=([.int .i64 m]:List Value)[j]? := yj (zero := #[.int .i64 0]) (t:=3) hsh (of_decide_eq_true (by kernel_rfl)) (by kernel_rfl) rfl (by kernel_rfl) (by kernel_rfl) Tryz.underlying3
  refine (FQ (ki mx x0 x1 x2 x3 x4 true (qt x0 x1 x2 x3 x4 w0 w1 w2)) (show DU (GL mx) _ _ from (pu (by simp) (xR hmx) (pu (vs:=(List.map (Value.int .u64) gM)) (by simp [gM]) (nW hg2 hv2 (Io (ns:=gM) Tryz.underlying144 Tryz.underlying127 (by kernel_rfl) (by kernel_rfl) hd2)) (pu (vs:=(List.map (Value.int .u8) gW)) (by simp [gW]) (nW hg6 hv6 (Io (ns:=gW) Tryz.underlying183 Tryz.underlying5 (by kernel_rfl) (by kernel_rfl) hd6)) (pu (vs:=(List.map (Value.int .u8) jB)) (by simp [jB]) (nW hg3 hv3 (((JG (k := .u8) (ns:=[(128, 191), (160, 191), (128, 159), (144, 191), (128, 143), (0, 0), (0, 0), (0, 0), (0, 0), (0, 0), (0, 0), (0, 0), (0, 0), (0, 0), (0, 0), (0, 0)]) Tryz.underlying186 Tryz.underlying185 Tryz.underlying5 Tryz.underlying5 rfl rfl (by kernel_rfl) (by kernel_rfl) (by kernel_rfl) (by kernel_rfl) hd3).trans (rN .u8 _)))) DB))))) (pC (BM q0 (.cons (.v _) (.cons (.v _) (.cons (.fr _ _) (.nil))))) (pC (yC q1 (.fl _ _ rfl)) (pC (yC q2 (.fr _ _)) (pC (Ix _) (pC (Ix _) GX)))))).mono fun e W' ⟨he, bel⟩ => ?_
  subst he
  exact ⟨_, rfl, _, _, _, [], _, [], hW', trodAll_mk1 (shut_bool Tryz.underlying4 _), (trodAll_cons_mk (Below.trod laidOut (by kernel_rfl) (of_decide_eq_true (by kernel_rfl)) k0 bel lt0) (trodAll_cons_mk (Below.trod laidOut (by kernel_rfl) (of_decide_eq_true (by kernel_rfl)) k1 bel lt1) (trodAll_cons_mk (Below.trod laidOut (by kernel_rfl) (of_decide_eq_true (by kernel_rfl)) k2 bel lt2) (trodAll_cons_mk (shut_int Tryz.underlying3 w3) (trodAll_cons_mk (shut_int Tryz.underlying3 w4) trodAll_mk0))))), rfl, bel.frame _, fun h=>by cases h⟩

theorem bundleExact_proved:Rows.BundleExactSaid :=
  OpenClaim.holds_of_wide 3 Tryz.f3 rfl rfl rfl rfl rfl rfl rfl ⟨rfl, rfl, rfl, rfl, rfl⟩ rfl rfl rfl rfl rfl (by kernel_rfl) Tryz.func3 (by kernel_rfl)
    (of_decide_eq_true (by kernel_rfl)) (by unfold Func.isWrapper; first | (rw [if_pos (by decide+kernel)]; kernel_rfl) | (rw [if_neg (by decide+kernel)]; exact ⟨rfl, rfl⟩))
    (fun os started H enc _=>bundleExact_lifted os started H enc)
#print axioms bundleExact_proved
theorem bundleExact_card:Rows.BundleExactCardSaid :=
  Claim7.holds_tied_plain_at .later [] [.data, .data, .data, .data, .sentinel, .sentinel, .pinned] true (true, "0740e670e4688217a6785b38207b7766b1dc2c5bd32909d71f1c2b765987f304") true
    bundleExact_proved (fun _ h=>by cases h) (by kernel_rfl) (fun _ h=>by cases h) bundleExact_row_tie rfl ⟨rfl, rfl⟩ (by kernel_rfl) rfl
    (fun f fn hf hfn=>by
      obtain rfl : f = 3 := Option.some.inj ((show Tryz.prog.funcNamed "wherry/wherrylaw17.BundleExact" = some 3 by kernel_rfl).symm.trans hf) |>.symm
      obtain rfl:fn=Tryz.f3:=(Option.some.inj (Tryz.func3.symm.trans hfn)).symm
      exact ⟨by kernel_rfl, fun j t ht=>by
        rw [Tryz.params3] at ht
        have hm:t∈[24, 25, 22, 3, 3]:=by
          have:=Array.mem_of_getElem? ht
          simpa using this
        have hall:([24, 25, 22, 3, 3].all fun u => !Tryz.prog.wantsStandIn u)=true:=by kernel_rfl
        exact (show Tryz.prog.wantsStandIn t=false by simpa using List.all_eq_true.1 hall t hm)⟩)
    (by kernel_rfl)
#print axioms bundleExact_card
end Go.Proofs.YtglabbpbianmnaaGreatDoor
