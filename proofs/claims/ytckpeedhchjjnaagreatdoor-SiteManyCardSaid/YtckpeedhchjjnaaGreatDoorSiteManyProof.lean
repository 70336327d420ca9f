/-
  SiteMany: for every input the call returns true and each argument reads as it did.
-/
import Derived.Test.YtckpeedhchjjnaaGreatDoorIn
import Derived.HandedShaped
import Derived.Shelf.Vars
import Derived.Test.YtckpeedhchjjnaaGreatDoorTie
import Derived.Test.YtckpeedhchjjnaaGreatDoorCards
import Derived.Test.YtckpeedhchjjnaaGreatDoorJf
import Derived.Test.YtckpeedhchjjnaaGreatDoorJf3
import Derived.LaidMore
import Derived.Lay
import Derived.SevenTiedAt
import Derived.Stop.Joined
import Derived.Test.YtckpeedhchjjnaaGreatDoorCame
import Derived.Test.YtckpeedhchjjnaaGreatDoorOkSiteMany
import Derived.Test.YtckpeedhchjjnaaGreatDoorSmA
namespace Go.Proofs.YtckpeedhchjjnaaGreatDoor
open Go.ChangeShapes Go.WideShapes Go.ChangeAt Go.RowKit Go.Abs Go.Abs.Sh
open Go.ChangeMaps (open_string shut_string)
set_option linter.unusedVariables false

set_option maxRecDepth 100000 in
theorem siteMany_lifted (os:Os) (started:os.Started) (H:Type) (enc:TypeId×Value→H) :
    ReturnsInHanded {} Tryz.checked os 3 .any (fun w args=>(Rows.siteManySpec.pre enc Tryz.prog Tryz.f3 Rows.siteManyRow.domain false w args∧laidMetH Tryz.prog Rows.siteManyRow.laid w)∧sizedMet enc Tryz.prog Tryz.f3 (OpenSpec.ofChange Rows.siteManySpec) false w args) (Rows.siteManySpec.post enc Tryz.prog Tryz.f3 false true false false):=by
  refine rA (C:=Tryz.checked) (X:=fun w _=>laidMetH Tryz.prog Rows.siteManyRow.laid w) (fun _ _ _ hh h=>h.of_heap hh) own started (by kernel_rfl) Tryz.func3
    (ChangeSpec.witness_shaped (enc:=enc) (C:=Tryz.checked) (os:=os) (X:=fun w _=>laidMetH Tryz.prog Rows.siteManyRow.laid w) false (World.laidAll Tryz.prog os Rows.siteManyRow.laid) #[.bool false] 12 (World.laidAll_os _ _ _) (World.shaped_of_ZipB (by kernel_rfl) (by kernel_rfl)) (by kernel_rfl) (by kernel_rfl) (by kernel_rfl) (by rw [MakeChecks.laidMetH_plain _ _ _ (by kernel_rfl)]; exact laidMet_laidAll _ (by kernel_rfl) (by kernel_rfl))) ?_
  intro W base args ds gs before hval0 hW hcnd _ hL hsh _
  have hval:∀ (j:Nat) t v, Tryz.f3.params[j]? = some t→args[j]? = some v→Value.okWide Tryz.prog W .any base t v:=hval0
  have hW':=hW
  obtain ⟨p, q, hA0, hV, rfl, hfz, hnd⟩:=hW
  have hA:DataW.TrodAll enc Tryz.prog W 0 (fun _=>true) true Tryz.f3.params.toList args.toList ds p:=hA0
  rw [Tryz.params3] at hA hval
  obtain ⟨v0, vs0, d0, ds0, p0, q0, hargs, rfl, rfl, h0, r0⟩:=trodAll_cons hA
  obtain ⟨rfl, rfl, rfl⟩:=trodAll_nil r0
  obtain rfl:args = #[v0]:=by cases args; simp_all
  obtain ⟨rfl, rfl⟩:=trodVars_none hV
  obtain ⟨x0, rfl, rfl, rfl⟩:=open_bool Tryz.underlying4 (hval 0 4 v0 rfl rfl) h0
  clear hA0 hval0
  rw [MakeChecks.laidMetH_plain _ _ _ (by kernel_rfl)] at hL
  obtain ⟨ps, ⟨g0, t0, cs0, f0, lp0, lq0, hg0, ht0, hv0, hd0, ⟨g1, t1, cs1, f1, lp1, lq1, hg1, ht1, hv1, hd1, ⟨g2, t2, cs2, f2, lp2, lq2, hg2, ht2, hv2, hd2, ⟨g3, t3, cs3, f3, lp3, lq3, hg3, ht3, hv3, hd3, ⟨g4, t4, cs4, f4, lp4, lq4, hg4, ht4, hv4, hd4, ⟨g5, t5, cs5, f5, lp5, lq5, hg5, ht5, hv5, hd5, ⟨g6, t6, cs6, f6, lp6, lq6, hg6, ht6, hv6, hd6, ⟨g7, t7, cs7, f7, lp7, lq7, hg7, ht7, hv7, hd7, ⟨g8, t8, cs8, f8, lp8, lq8, hg8, ht8, hv8, hd8, ⟨g9, t9, cs9, f9, lp9, lq9, hg9, ht9, hv9, hd9, ⟨g10, t10, cs10, f10, lp10, lq10, hg10, ht10, hv10, hd10, _, _⟩, _⟩, _⟩, _⟩, _⟩, _⟩, _⟩, _⟩, _⟩, _⟩, _⟩, _, _⟩:=hL
  obtain rfl := ay ((show Tryz.prog.globalNamed "internal/strconv.uint64pow10" = some 7 by kernel_rfl).symm.trans hg2)
  obtain rfl:=ay ((show (Tryz.prog.globals[7]?).map (·.type)=some 416 by kernel_rfl).symm.trans ht2)
  obtain rfl := ay ((show Tryz.prog.globalNamed "strconv.ErrSyntax" = some 5 by kernel_rfl).symm.trans hg8)
  obtain rfl:=ay ((show (Tryz.prog.globals[5]?).map (·.type)=some 249 by kernel_rfl).symm.trans ht8)
  obtain ⟨te, pv, hse⟩:=Jf Tryz.underlying249 hd8
  obtain rfl := ay ((show Tryz.prog.globalNamed "unicode/utf8.acceptRanges" = some 3 by kernel_rfl).symm.trans hg3)
  obtain rfl:=ay ((show (Tryz.prog.globals[3]?).map (·.type)=some 339 by kernel_rfl).symm.trans ht3)
  obtain rfl := ay ((show Tryz.prog.globalNamed "unicode/utf8.first" = some 2 by kernel_rfl).symm.trans hg10)
  obtain rfl:=ay ((show (Tryz.prog.globals[2]?).map (·.type)=some 336 by kernel_rfl).symm.trans ht10)
  obtain rfl := ay ((show Tryz.prog.globalNamed "wherry/shrink.rowOrder" = some 1 by kernel_rfl).symm.trans hg9)
  obtain rfl:=ay ((show (Tryz.prog.globals[1]?).map (·.type)=some 335 by kernel_rfl).symm.trans ht9)
  obtain ⟨mx, hmx⟩:∃ m, ∀ j, W.cell? ⟨0, j, none⟩=([.int .i64 m]:List Value)[j]? := BE (zero := #[.int .i64 0]) (t:=3) hsh (of_decide_eq_true (by kernel_rfl)) (by kernel_rfl) rfl (by kernel_rfl) (by kernel_rfl) Tryz.underlying3
  refine (Ha (nf (mx, te, pv) x0 true (xa x0 )) (show EZ (GL (mx, te, pv)) _ _ from (na (by simp) (Bz hmx) (na (vs:=(List.map (Value.int .i64) cN)) (by simp [cN]) (la hg9 hv9 (Hs (ns:=cN) Tryz.underlying335 Tryz.underlying3 (by kernel_rfl) (by kernel_rfl) hd9)) (na (vs:=(List.map (Value.int .u8) ig)) (by simp [ig]) (la hg10 hv10 (Hs (ns:=ig) Tryz.underlying336 Tryz.underlying5 (by kernel_rfl) (by kernel_rfl) hd10)) (na (vs:=(List.map (Value.int .u8) kb)) (by simp [kb]) (la hg3 hv3 (((Kc (k := .u8) (ns:=[(128, 191), (160, 191), (128, 159), (144, 191), (128, 143), (0, 0), (0, 0), (0, 0), (0, 0), (0, 0), (0, 0), (0, 0), (0, 0), (0, 0), (0, 0), (0, 0)]) Tryz.underlying339 Tryz.underlying338 Tryz.underlying5 Tryz.underlying5 rfl rfl (by kernel_rfl) (by kernel_rfl) (by kernel_rfl) (by kernel_rfl) hd3).trans (wF .u8 _)))) (na (vs:=[.iface te pv]) (by simp) (la hg8 hv8 hse) (na (vs:=(List.map (Value.int .u64) gM)) (by simp [gM]) (la hg2 hv2 (Hs (ns:=gM) Tryz.underlying416 Tryz.underlying358 (by kernel_rfl) (by kernel_rfl) hd2)) FH))))))) (FB (KZ _) Hc)).mono fun e W' ⟨he, bel⟩ => ?_
  subst he
  exact ⟨_, rfl, _, _, _, [], _, [], hW', trodAll_mk1 (shut_bool Tryz.underlying4 _), (trodAll_cons_mk (shut_bool Tryz.underlying4 x0) trodAll_mk0), rfl, bel.frame _, fun h=>by cases h⟩

theorem siteMany_proved:Rows.SiteManySaid :=
  OpenClaim.holds_of_wide 3 Tryz.f3 rfl rfl rfl rfl rfl rfl rfl ⟨rfl, rfl, rfl, rfl, rfl⟩ rfl rfl rfl rfl rfl jfF Tryz.func3 jfE
    (of_decide_eq_true (by kernel_rfl)) (by unfold Func.isWrapper; first | (rw [if_pos (by decide+kernel)]; kernel_rfl) | (rw [if_neg (by decide+kernel)]; exact ⟨rfl, rfl⟩))
    (fun os started H enc _=>siteMany_lifted os started H enc)
#print axioms siteMany_proved
theorem siteMany_card:Rows.SiteManyCardSaid :=
  Claim7.holds_tied_plain_at .later [] [.data, .data, .data, .data, .data, .data, .data, .sentinel, .sentinel, .data, .pinned] true (true, "3f47f8002a27df710da4d1df00b4b2314377dc53ae1b776b9846532f2827bd76") true
    siteMany_proved (fun _ h=>by cases h) (by kernel_rfl) (fun _ h=>by cases h) siteMany_row_tie rfl ⟨rfl, rfl⟩ (by kernel_rfl) rfl
    (fun f fn hf hfn=>by
      obtain rfl : f = 3 := ay (jfF.symm.trans hf) |>.symm
      obtain rfl:fn=Tryz.f3:=(ay (Tryz.func3.symm.trans hfn)).symm
      exact ⟨jfG, fun j t ht=>by
        rw [Tryz.params3] at ht
        have hm:t∈[4]:=by
          have:=Array.mem_of_getElem? ht
          simpa using this
        have hall:([4].all fun u => !Tryz.prog.wantsStandIn u)=true:=by kernel_rfl
        exact (show Tryz.prog.wantsStandIn t=false by simpa using aR.1 hall t hm)⟩)
    jfH
#print axioms siteMany_card
end Go.Proofs.YtckpeedhchjjnaaGreatDoor
