/-
  CramExact: for every input the call returns true and each argument reads as it did.
-/
import Derived.Test.YtadkeipbkbkneaaDoorIn
import Derived.HandedShaped
import Derived.Shelf.Vars
import Derived.SizedLaws
import Derived.Test.YtadkeipbkbkneaaDoorTie
import Derived.Test.YtadkeipbkbkneaaDoorCards
import Derived.LaidMore
import Derived.Lay
import Derived.SevenTiedAt
import Derived.Stop.Joined
import Derived.Test.YtadkeipbkbkneaaDoorCame
import Derived.Test.YtadkeipbkbkneaaDoorOkCramExact
import Derived.Test.YtadkeipbkbkneaaDoorCramX
namespace Go.Proofs.YtadkeipbkbkneaaDoor
open Go.ChangeShapes Go.WideShapes Go.ChangeAt Go.RowKit Go.Abs Go.Abs.Sh
open Go.ChangeMaps (open_string shut_string)
set_option linter.unusedVariables false

set_option maxRecDepth 100000 in
theorem cramExact_lifted (os : Os) (started : os.Started) (H : Type) (enc : TypeId × Value → H) :
    ReturnsInHanded {} Tryd.checked os 3 .any (fun w args => (Rows.cramExactSpec.pre enc Tryd.prog Tryd.f3 Rows.cramExactRow.domain false w args ∧ laidMetH Tryd.prog Rows.cramExactRow.laid w) ∧ sizedMet enc Tryd.prog Tryd.f3 (OpenSpec.ofChange Rows.cramExactSpec) false w args) (Rows.cramExactSpec.post enc Tryd.prog Tryd.f3 false true false false) := by
  refine returnsInHanded_of_change_and (C := Tryd.checked) (X := fun w _ => laidMetH Tryd.prog Rows.cramExactRow.laid w) (fun _ _ _ hh h => h.of_heap hh) own started (by kernel_rfl) Tryd.func3
    (ChangeSpec.witness_shaped (enc := enc) (C := Tryd.checked) (os := os) (X := fun w _ => laidMetH Tryd.prog Rows.cramExactRow.laid w) false (World.laidAll Tryd.prog os Rows.cramExactRow.laid) #[.slice none 0 0, .string ByteArray.empty, .string ByteArray.empty, .string ByteArray.empty, .string ByteArray.empty, .string ByteArray.empty] 12 (World.laidAll_os _ _ _) (World.shaped_of_ZipB (by kernel_rfl) (by kernel_rfl)) (by kernel_rfl) (by kernel_rfl) (by kernel_rfl) (by rw [MakeChecks.laidMetH_plain _ _ _ (by kernel_rfl)]; exact laidMet_laidAll _ (by kernel_rfl) (by kernel_rfl))) ?_
  intro W base args ds gs before hval0 hW hcnd hsz hL _
  have hval : ∀ (j : Nat) t v, Tryd.f3.params[j]? = some t → args[j]? = some v → Value.okWide Tryd.prog W .any base t v := hval0
  have hW' := hW
  obtain ⟨p, q, hA0, hV, rfl, hfz, hnd⟩ := hW
  have hA : DataW.TrodAll enc Tryd.prog W 0 (fun _ => true) true Tryd.f3.params.toList args.toList ds p := hA0
  rw [Tryd.params3] at hA hval
  obtain ⟨v0, vs0, d0, ds0, p0, q0, hargs, rfl, rfl, h0, r0⟩ := trodAll_cons hA
  obtain ⟨v1, vs1, d1, ds1, p1, q1, rfl, rfl, rfl, h1, r1⟩ := trodAll_cons r0
  obtain ⟨v2, vs2, d2, ds2, p2, q2, rfl, rfl, rfl, h2, r2⟩ := trodAll_cons r1
  obtain ⟨v3, vs3, d3, ds3, p3, q3, rfl, rfl, rfl, h3, r3⟩ := trodAll_cons r2
  obtain ⟨v4, vs4, d4, ds4, p4, q4, rfl, rfl, rfl, h4, r4⟩ := trodAll_cons r3
  obtain ⟨v5, vs5, d5, ds5, p5, q5, rfl, rfl, rfl, h5, r5⟩ := trodAll_cons r4
  obtain ⟨rfl, rfl, rfl⟩ := trodAll_nil r5
  obtain rfl : args = #[v0, v1, v2, v3, v4, v5] := by cases args; simp_all
  obtain ⟨rfl, rfl⟩ := trodVars_none hV
  have z0 : Heavy Tryd.prog 22 d0 := heavy_arg hsz 0 (by kernel_rfl) rfl
  have k0 := h0
  have lt0 : ∀ x ∈ p0, x.block < W.heap.size := by obtain ⟨m, hm⟩ := k0; exact DataW.trod_lt m _ _ _ hm
  obtain ⟨a0, len0, cap0, rfl⟩ := okWide_slice Tryd.underlying22 (hval 0 22 v0 rfl rfl)
  obtain ⟨fu0, hf0⟩ := h0
  obtain ⟨x0, q0, _, w0⟩ := cz22 _ _ _ hf0 z0
  have z1 : Heavy Tryd.prog 9 d1 := heavy_arg hsz 1 (by kernel_rfl) rfl
  obtain ⟨x1, rfl, rfl, rfl, w1⟩ := open_string Tryd.underlying9 (hval 1 9 v1 rfl rfl) h1
  have wz1 : wzS x1 := by have := z1 x1.data.toList.length (by simp [DataW.weights]); simpa [wzS] using this
  have z2 : Heavy Tryd.prog 9 d2 := heavy_arg hsz 2 (by kernel_rfl) rfl
  obtain ⟨x2, rfl, rfl, rfl, w2⟩ := open_string Tryd.underlying9 (hval 2 9 v2 rfl rfl) h2
  have wz2 : wzS x2 := by have := z2 x2.data.toList.length (by simp [DataW.weights]); simpa [wzS] using this
  have z3 : Heavy Tryd.prog 9 d3 := heavy_arg hsz 3 (by kernel_rfl) rfl
  obtain ⟨x3, rfl, rfl, rfl, w3⟩ := open_string Tryd.underlying9 (hval 3 9 v3 rfl rfl) h3
  have wz3 : wzS x3 := by have := z3 x3.data.toList.length (by simp [DataW.weights]); simpa [wzS] using this
  have z4 : Heavy Tryd.prog 9 d4 := heavy_arg hsz 4 (by kernel_rfl) rfl
  obtain ⟨x4, rfl, rfl, rfl, w4⟩ := open_string Tryd.underlying9 (hval 4 9 v4 rfl rfl) h4
  have wz4 : wzS x4 := by have := z4 x4.data.toList.length (by simp [DataW.weights]); simpa [wzS] using this
  have z5 : Heavy Tryd.prog 9 d5 := heavy_arg hsz 5 (by kernel_rfl) rfl
  obtain ⟨x5, rfl, rfl, rfl, w5⟩ := open_string Tryd.underlying9 (hval 5 9 v5 rfl rfl) h5
  have wz5 : wzS x5 := by have := z5 x5.data.toList.length (by simp [DataW.weights]); simpa [wzS] using this
  clear hA0 hval0
  rw [MakeChecks.laidMetH_plain _ _ _ (by kernel_rfl)] at hL
  obtain ⟨ps, ⟨g0, t0, cs0, f0, lp0, lq0, hg0, ht0, hv0, hd0, ⟨g1, t1, cs1, f1, lp1, lq1, hg1, ht1, hv1, hd1, ⟨g2, t2, cs2, f2, lp2, lq2, hg2, ht2, hv2, hd2, ⟨g3, t3, cs3, f3, lp3, lq3, hg3, ht3, hv3, hd3, _, _⟩, _⟩, _⟩, _⟩, _, _⟩ := hL
  obtain rfl := Option.some.inj ((show Tryd.prog.globalNamed "wherry/digest.turns" = some 1 by kernel_rfl).symm.trans hg2)
  obtain rfl := Option.some.inj ((show (Tryd.prog.globals[1]?).map (·.type) = some 97 by kernel_rfl).symm.trans ht2)
  obtain rfl := Option.some.inj ((show Tryd.prog.globalNamed "wherry/digest.sines" = some 0 by kernel_rfl).symm.trans hg1)
  obtain rfl := Option.some.inj ((show (Tryd.prog.globals[0]?).map (·.type) = some 93 by kernel_rfl).symm.trans ht1)
  refine (in_okG (ok_wherrylaw10_CramExact 0 x0 x1 x2 x3 x4 x5 true (cramExact_true x0 x1 x2 x3 x4 x5 w0 wz2 wz3 wz4 wz5)) (show GOK (GL 0) _ _ from (gok_cons (vs := (List.map (Value.int .u32) digest_sines)) (by simp [digest_sines]) (laid_cells hg1 hv1 (tab1 (ns := digest_sines) Tryd.underlying93 Tryd.underlying49 (by kernel_rfl) (by kernel_rfl) hd1)) (gok_cons (vs := (List.map (Value.int .i64) digest_turns)) (by simp [digest_turns]) (laid_cells hg2 hv2 (tab2 (nss := [[7, 12, 17, 22], [5, 9, 14, 20], [4, 11, 16, 23], [6, 10, 15, 21]]) Tryd.underlying97 Tryd.underlying96 Tryd.underlying3 (by kernel_rfl) (by kernel_rfl) (by kernel_rfl) hd2)) gok_nil))) (in_cons (came_sl q0 (.fl _ _ rfl)) (in_cons (in_v _) (in_cons (in_v _) (in_cons (in_v _) (in_cons (in_v _) (in_cons (in_v _) in_nil))))))).mono fun e W' ⟨he, bel⟩ => ?_
  subst he
  exact ⟨_, rfl, _, _, _, [], _, [], hW', trodAll_mk1 (shut_bool Tryd.underlying4 _), (trodAll_cons_mk (Below.trod laidOut (by kernel_rfl) (of_decide_eq_true (by kernel_rfl)) k0 bel lt0) (trodAll_cons_mk (shut_string Tryd.underlying9 w1) (trodAll_cons_mk (shut_string Tryd.underlying9 w2) (trodAll_cons_mk (shut_string Tryd.underlying9 w3) (trodAll_cons_mk (shut_string Tryd.underlying9 w4) (trodAll_cons_mk (shut_string Tryd.underlying9 w5) trodAll_mk0)))))), rfl, bel.frame _, fun h => by cases h⟩

theorem cramExact_proved : Rows.CramExactSaid :=
  OpenClaim.holds_of_wide 3 Tryd.f3 rfl rfl rfl rfl rfl rfl rfl ⟨rfl, rfl, rfl, rfl, rfl⟩ rfl rfl rfl rfl rfl (by kernel_rfl) Tryd.func3 (by kernel_rfl)
    (of_decide_eq_true (by kernel_rfl)) (by unfold Func.isWrapper; first | (rw [if_pos (by decide +kernel)]; kernel_rfl) | (rw [if_neg (by decide +kernel)]; exact ⟨rfl, rfl⟩))
    (fun os started H enc _ => cramExact_lifted os started H enc)
#print axioms cramExact_proved
theorem cramExact_card : Rows.CramExactCardSaid :=
  Claim7.holds_tied_plain_at .later [] [.data, .data, .data, .pinned] true (true, "d284a654c93cbeb23ed50074d96146752d6364de9ee2e84b13ab4ad1274ee2cd") false
    cramExact_proved (fun _ h => by cases h) (by kernel_rfl) (fun _ h => by cases h) cramExact_row_tie rfl ⟨rfl, rfl⟩ (by kernel_rfl) rfl
    (fun f fn hf hfn => by
      obtain rfl : f = 3 := Option.some.inj ((show Tryd.prog.funcNamed "wherry/wherrylaw10.CramExact" = some 3 by kernel_rfl).symm.trans hf) |>.symm
      obtain rfl : fn = Tryd.f3 := (Option.some.inj (Tryd.func3.symm.trans hfn)).symm
      exact ⟨by kernel_rfl, fun j t ht => by
        rw [Tryd.params3] at ht
        have hm : t ∈ [22, 9, 9, 9, 9, 9] := by
          have := Array.mem_of_getElem? ht
          simpa using this
        have hall : ([22, 9, 9, 9, 9, 9].all fun u => !Tryd.prog.wantsStandIn u) = true := by kernel_rfl
        exact (show Tryd.prog.wantsStandIn t = false by simpa using List.all_eq_true.1 hall t hm)⟩)
    (by kernel_rfl)
#print axioms cramExact_card
end Go.Proofs.YtadkeipbkbkneaaDoor
