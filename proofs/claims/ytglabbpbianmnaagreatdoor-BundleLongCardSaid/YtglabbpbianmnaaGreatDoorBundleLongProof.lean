/-
  BundleLong: for every input the call returns true and each argument reads as it did.
-/
import Derived.Test.YtglabbpbianmnaaGreatDoorIn
import Derived.HandedShaped
import Derived.Shelf.Vars
import Derived.Test.YtglabbpbianmnaaGreatDoorTie
import Derived.Test.YtglabbpbianmnaaGreatDoorCards
import Derived.LaidMore
import Derived.Lay
import Derived.SevenTiedAt
import Derived.Stop.Joined
import Derived.Test.YtglabbpbianmnaaGreatDoorCame
import Derived.Test.YtglabbpbianmnaaGreatDoorOkBundleLong
import Derived.Test.YtglabbpbianmnaaGreatDoorBulA
namespace Go.Proofs.YtglabbpbianmnaaGreatDoor
open Go.ChangeShapes Go.WideShapes Go.ChangeAt Go.RowKit Go.Abs Go.Abs.Sh
open Go.ChangeMaps (open_string shut_string)
set_option linter.unusedVariables false

set_option maxRecDepth 100000 in
theorem bundleLong_lifted (os:Os) (started:os.Started) (H:Type) (enc:TypeId×Value→H) :
    ReturnsInHanded {} Tryz.checked os 8 .any (fun w args=>(Rows.bundleLongSpec.pre enc Tryz.prog Tryz.f8 Rows.bundleLongRow.domain false w args∧laidMetH Tryz.prog Rows.bundleLongRow.laid w)∧sizedMet enc Tryz.prog Tryz.f8 (OpenSpec.ofChange Rows.bundleLongSpec) false w args) (Rows.bundleLongSpec.post enc Tryz.prog Tryz.f8 false true false false):=by
  refine returns_laid_shaped (C:=Tryz.checked) (X:=fun w _=>laidMetH Tryz.prog Rows.bundleLongRow.laid w) (fun _ _ _ hh h=>h.of_heap hh) own started (by kernel_rfl) Tryz.func8
    (ChangeSpec.witness_shaped (enc:=enc) (C:=Tryz.checked) (os:=os) (X:=fun w _=>laidMetH Tryz.prog Rows.bundleLongRow.laid w) false (World.laidAll Tryz.prog os Rows.bundleLongRow.laid) #[.int .i64 0] 12 (World.laidAll_os _ _ _) (World.shaped_of_ZipB (by kernel_rfl) (by kernel_rfl)) (by kernel_rfl) (by kernel_rfl) (by kernel_rfl) (by rw [MakeChecks.laidMetH_plain _ _ _ (by kernel_rfl)]; exact laidMet_laidAll _ (by kernel_rfl) (by kernel_rfl))) ?_
  intro W base args ds gs before hval0 hW hcnd _ hL hsh _
  have hval:∀ (j:Nat) t v, Tryz.f8.params[j]? = some t→args[j]? = some v→Value.okWide Tryz.prog W .any base t v:=hval0
  have hW':=hW
  obtain ⟨p, q, hA0, hV, rfl, hfz, hnd⟩:=hW
  have hA:DataW.TrodAll enc Tryz.prog W 0 (fun _=>true) true Tryz.f8.params.toList args.toList ds p:=hA0
  rw [Tryz.params8] at hA hval
  obtain ⟨v0, vs0, d0, ds0, p0, q0, hargs, rfl, rfl, h0, r0⟩:=trodAll_cons hA
  obtain ⟨rfl, rfl, rfl⟩:=trodAll_nil r0
  obtain rfl:args = #[v0]:=by cases args; simp_all
  obtain ⟨rfl, rfl⟩:=trodVars_none hV
  obtain ⟨x0, rfl, rfl, rfl, w0⟩:=open_int Tryz.underlying3 (hval 0 3 v0 rfl rfl) h0
  clear hA0 hval0
  rw [MakeChecks.laidMetH_plain _ _ _ (by kernel_rfl)] at hL
  obtain ⟨ps, ⟨g0, t0, cs0, f0, lp0, lq0, hg0, ht0, hv0, hd0, ⟨g1, t1, cs1, f1, lp1, lq1, hg1, ht1, hv1, hd1, ⟨g2, t2, cs2, f2, lp2, lq2, hg2, ht2, hv2, hd2, ⟨g3, t3, cs3, f3, lp3, lq3, hg3, ht3, hv3, hd3, ⟨g4, t4, cs4, f4, lp4, lq4, hg4, ht4, hv4, hd4, ⟨g5, t5, cs5, f5, lp5, lq5, hg5, ht5, hv5, hd5, ⟨g6, t6, cs6, f6, lp6, lq6, hg6, ht6, hv6, hd6, _, _⟩, _⟩, _⟩, _⟩, _⟩, _⟩, _⟩, _, _⟩:=hL
  obtain rfl := Option.some.inj ((show Tryz.prog.globalNamed "unicode/utf8.acceptRanges" = some 7 by kernel_rfl).symm.trans hg3)
  obtain rfl:=Option.some.inj ((show (Tryz.prog.globals[7]?).map (·.type)=some 186 by kernel_rfl).symm.trans ht3)
  obtain rfl := Option.some.inj ((show Tryz.prog.globalNamed "unicode/utf8.first" = some 6 by kernel_rfl).symm.trans hg6)
  obtain rfl:=Option.some.inj ((show (Tryz.prog.globals[6]?).map (·.type)=some 183 by kernel_rfl).symm.trans ht6)
  obtain rfl := Option.some.inj ((show Tryz.prog.globalNamed "internal/strconv.uint64pow10" = some 1 by kernel_rfl).symm.trans hg2)
  obtain rfl:=Option.some.inj ((show (Tryz.prog.globals[1]?).map (·.type)=some 144 by kernel_rfl).symm.trans ht2)
  obtain ⟨mx, hmx⟩:∃ m, ∀ j, W.cell? ⟨0, j, none⟩=([.int .i64 m]:List Value)[j]? := shaped_int (zero := #[.int .i64 0]) (t:=3) hsh (of_decide_eq_true (by kernel_rfl)) (by kernel_rfl) rfl (by kernel_rfl) (by kernel_rfl) Tryz.underlying3
  refine (in_okG (ok_wherrylaw17_BundleLong mx x0 true (bundleLong_true x0 )) (show GOK (GL mx) _ _ from (gok_cons (by simp) (cells_one1 hmx) (gok_cons (vs:=(List.map (Value.int .u64) strconv_pow10)) (by simp [strconv_pow10]) (laid_cells hg2 hv2 (tab1 (ns:=strconv_pow10) Tryz.underlying144 Tryz.underlying127 (by kernel_rfl) (by kernel_rfl) hd2)) (gok_cons (vs:=(List.map (Value.int .u8) utf8_first)) (by simp [utf8_first]) (laid_cells hg6 hv6 (tab1 (ns:=utf8_first) Tryz.underlying183 Tryz.underlying5 (by kernel_rfl) (by kernel_rfl) hd6)) (gok_cons (vs:=(List.map (Value.int .u8) utf8_accept)) (by simp [utf8_accept]) (laid_cells hg3 hv3 (((tabS (k := .u8) (ns:=[(128, 191), (160, 191), (128, 159), (144, 191), (128, 143), (0, 0), (0, 0), (0, 0), (0, 0), (0, 0), (0, 0), (0, 0), (0, 0), (0, 0), (0, 0), (0, 0)]) Tryz.underlying186 Tryz.underlying185 Tryz.underlying5 Tryz.underlying5 rfl rfl (by kernel_rfl) (by kernel_rfl) (by kernel_rfl) (by kernel_rfl) hd3).trans (pairs_flat .u8 _)))) gok_nil))))) (in_cons (in_v _) in_nil)).mono fun e W' ⟨he, bel⟩ => ?_
  subst he
  exact ⟨_, rfl, _, _, _, [], _, [], hW', trodAll_mk1 (shut_bool Tryz.underlying4 _), (trodAll_cons_mk (shut_int Tryz.underlying3 w0) trodAll_mk0), rfl, bel.frame _, fun h=>by cases h⟩

theorem bundleLong_proved:Rows.BundleLongSaid :=
  OpenClaim.holds_of_wide 8 Tryz.f8 rfl rfl rfl rfl rfl rfl rfl ⟨rfl, rfl, rfl, rfl, rfl⟩ rfl rfl rfl rfl rfl (by kernel_rfl) Tryz.func8 (by kernel_rfl)
    (of_decide_eq_true (by kernel_rfl)) (by unfold Func.isWrapper; first | (rw [if_pos (by decide+kernel)]; kernel_rfl) | (rw [if_neg (by decide+kernel)]; exact ⟨rfl, rfl⟩))
    (fun os started H enc _=>bundleLong_lifted os started H enc)
#print axioms bundleLong_proved
theorem bundleLong_card:Rows.BundleLongCardSaid :=
  Claim7.holds_tied_plain_at .later [] [.data, .data, .data, .data, .sentinel, .sentinel, .pinned] true (true, "0740e670e4688217a6785b38207b7766b1dc2c5bd32909d71f1c2b765987f304") true
    bundleLong_proved (fun _ h=>by cases h) (by kernel_rfl) (fun _ h=>by cases h) bundleLong_row_tie rfl ⟨rfl, rfl⟩ (by kernel_rfl) rfl
    (fun f fn hf hfn=>by
      obtain rfl : f = 8 := Option.some.inj ((show Tryz.prog.funcNamed "wherry/wherrylaw17.BundleLong" = some 8 by kernel_rfl).symm.trans hf) |>.symm
      obtain rfl:fn=Tryz.f8:=(Option.some.inj (Tryz.func8.symm.trans hfn)).symm
      exact ⟨by kernel_rfl, fun j t ht=>by
        rw [Tryz.params8] at ht
        have hm:t∈[3]:=by
          have:=Array.mem_of_getElem? ht
          simpa using this
        have hall:([3].all fun u => !Tryz.prog.wantsStandIn u)=true:=by kernel_rfl
        exact (show Tryz.prog.wantsStandIn t=false by simpa using List.all_eq_true.1 hall t hm)⟩)
    (by kernel_rfl)
#print axioms bundleLong_card
end Go.Proofs.YtglabbpbianmnaaGreatDoor
