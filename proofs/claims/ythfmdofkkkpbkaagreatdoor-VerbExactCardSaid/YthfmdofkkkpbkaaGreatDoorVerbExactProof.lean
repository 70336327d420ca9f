/-
  VerbExact: for every input the call returns true and each argument reads as it did.
-/
import Derived.Test.YthfmdofkkkpbkaaGreatDoorIn
import Derived.HandedShaped
import Derived.Shelf.Vars
import Derived.SizedLaws
import Derived.Test.YthfmdofkkkpbkaaGreatDoorTie
import Derived.Test.YthfmdofkkkpbkaaGreatDoorCards
import Derived.LaidMore
import Derived.Lay
import Derived.SevenTiedAt
import Derived.Stop.Joined
import Derived.Test.YthfmdofkkkpbkaaGreatDoorCame
import Derived.Test.YthfmdofkkkpbkaaGreatDoorOkVerbExact
import Derived.Test.YthfmdofkkkpbkaaGreatDoorVrbE
namespace Go.Proofs.YthfmdofkkkpbkaaGreatDoor
open Go.ChangeShapes Go.WideShapes Go.ChangeAt Go.RowKit Go.Abs Go.Abs.Sh
open Go.ChangeMaps (open_string shut_string)
set_option linter.unusedVariables false

set_option maxRecDepth 100000 in
theorem verbExact_lifted (os : Os) (started : os.Started) (H : Type) (enc : TypeId × Value → H) :
    ReturnsInHanded {} Tryz.checked os 3 .any (fun w args => (Rows.verbExactSpec.pre enc Tryz.prog Tryz.f3 Rows.verbExactRow.domain false w args ∧ laidMetH Tryz.prog Rows.verbExactRow.laid w) ∧ sizedMet enc Tryz.prog Tryz.f3 (OpenSpec.ofChange Rows.verbExactSpec) false w args) (Rows.verbExactSpec.post enc Tryz.prog Tryz.f3 false true false false) := by
  refine returnsInHanded_of_change_and (C := Tryz.checked) (X := fun w _ => laidMetH Tryz.prog Rows.verbExactRow.laid w) (fun _ _ _ hh h => h.of_heap hh) own started (by kernel_rfl) Tryz.func3
    (ChangeSpec.witness_shaped (enc := enc) (C := Tryz.checked) (os := os) (X := fun w _ => laidMetH Tryz.prog Rows.verbExactRow.laid w) false (World.laidAll Tryz.prog os Rows.verbExactRow.laid) #[.string ByteArray.empty, .agg #[.int .i64 0, .string ByteArray.empty, .bool false, .string ByteArray.empty, .string ByteArray.empty, .slice none 0 0], .string ByteArray.empty] 12 (World.laidAll_os _ _ _) (World.shaped_of_ZipB (by kernel_rfl) (by kernel_rfl)) (by kernel_rfl) (by kernel_rfl) (by kernel_rfl) (by rw [MakeChecks.laidMetH_plain _ _ _ (by kernel_rfl)]; exact laidMet_laidAll _ (by kernel_rfl) (by kernel_rfl))) ?_
  intro W base args ds gs before hval0 hW hcnd hsz hL _
  have hval : ∀ (j : Nat) t v, Tryz.f3.params[j]? = some t → args[j]? = some v → Value.okWide Tryz.prog W .any base t v := hval0
  have hW' := hW
  obtain ⟨p, q, hA0, hV, rfl, hfz, hnd⟩ := hW
  have hA : DataW.TrodAll enc Tryz.prog W 0 (fun _ => true) true Tryz.f3.params.toList args.toList ds p := hA0
  rw [Tryz.params3] at hA hval
  obtain ⟨v0, vs0, d0, ds0, p0, q0, hargs, rfl, rfl, h0, r0⟩ := trodAll_cons hA
  obtain ⟨v1, vs1, d1, ds1, p1, q1, rfl, rfl, rfl, h1, r1⟩ := trodAll_cons r0
  obtain ⟨v2, vs2, d2, ds2, p2, q2, rfl, rfl, rfl, h2, r2⟩ := trodAll_cons r1
  obtain ⟨rfl, rfl, rfl⟩ := trodAll_nil r2
  obtain rfl : args = #[v0, v1, v2] := by cases args; simp_all
  obtain ⟨rfl, rfl⟩ := trodVars_none hV
  have z0 : Heavy Tryz.prog 9 d0 := heavy_arg hsz 0 (by kernel_rfl) rfl
  obtain ⟨x0, rfl, rfl, rfl, w0⟩ := open_string Tryz.underlying9 (hval 0 9 v0 rfl rfl) h0
  have wz0 : wzS x0 := by have := z0 x0.data.toList.length (by simp [DataW.weights]); simpa [wzS] using this
  have z1 : Heavy Tryz.prog 26 d1 := heavy_arg hsz 1 (by kernel_rfl) rfl
  have k1 := h1
  have lt1 : ∀ x ∈ p1, x.block < W.heap.size := by obtain ⟨m, hm⟩ := k1; exact DataW.trod_lt m _ _ _ hm
  obtain ⟨cs1, rfl, _⟩ := okWide_struct Tryz.underlying26 (hval 1 26 v1 rfl rfl)
  obtain ⟨fu1, hf1⟩ := h1
  obtain ⟨x1, q1, _, w1⟩ := cz26 _ _ _ hf1 z1
  have z2 : Heavy Tryz.prog 9 d2 := heavy_arg hsz 2 (by kernel_rfl) rfl
  obtain ⟨x2, rfl, rfl, rfl, w2⟩ := open_string Tryz.underlying9 (hval 2 9 v2 rfl rfl) h2
  have wz2 : wzS x2 := by have := z2 x2.data.toList.length (by simp [DataW.weights]); simpa [wzS] using this
  clear hA0 hval0
  rw [MakeChecks.laidMetH_plain _ _ _ (by kernel_rfl)] at hL
  obtain ⟨ps, ⟨g0, t0, cs0, f0, lp0, lq0, hg0, ht0, hv0, hd0, ⟨g1, t1, cs1, f1, lp1, lq1, hg1, ht1, hv1, hd1, ⟨g2, t2, cs2, f2, lp2, lq2, hg2, ht2, hv2, hd2, ⟨g3, t3, cs3, f3, lp3, lq3, hg3, ht3, hv3, hd3, ⟨g4, t4, cs4, f4, lp4, lq4, hg4, ht4, hv4, hd4, ⟨g5, t5, cs5, f5, lp5, lq5, hg5, ht5, hv5, hd5, ⟨g6, t6, cs6, f6, lp6, lq6, hg6, ht6, hv6, hd6, _, _⟩, _⟩, _⟩, _⟩, _⟩, _⟩, _⟩, _, _⟩ := hL
  obtain rfl := Option.some.inj ((show Tryz.prog.globalNamed "unicode/utf8.acceptRanges" = some 2 by kernel_rfl).symm.trans hg3)
  obtain rfl := Option.some.inj ((show (Tryz.prog.globals[2]?).map (·.type) = some 114 by kernel_rfl).symm.trans ht3)
  obtain rfl := Option.some.inj ((show Tryz.prog.globalNamed "unicode/utf8.first" = some 1 by kernel_rfl).symm.trans hg6)
  obtain rfl := Option.some.inj ((show (Tryz.prog.globals[1]?).map (·.type) = some 111 by kernel_rfl).symm.trans ht6)
  refine (in_okG (ok_wherrylaw12_VerbExact 0 x0 x1 x2 true (verbExact_true x0 x1 x2 wz0 w1 wz2)) (show GOK (GL 0) _ _ from (gok_cons (vs := (List.map (Value.int .u8) utf8_first)) (by simp [utf8_first]) (laid_cells hg6 hv6 (tab1 (ns := utf8_first) Tryz.underlying111 Tryz.underlying5 (by kernel_rfl) (by kernel_rfl) hd6)) (gok_cons (vs := (List.map (Value.int .u8) utf8_accept)) (by simp [utf8_accept]) (laid_cells hg3 hv3 (((tabS (k := .u8) (ns := [(128, 191), (160, 191), (128, 159), (144, 191), (128, 143), (0, 0), (0, 0), (0, 0), (0, 0), (0, 0), (0, 0), (0, 0), (0, 0), (0, 0), (0, 0), (0, 0)]) Tryz.underlying114 Tryz.underlying113 Tryz.underlying5 Tryz.underlying5 rfl rfl (by kernel_rfl) (by kernel_rfl) (by kernel_rfl) (by kernel_rfl) hd3).trans (pairs_flat .u8 _)))) gok_nil))) (in_cons (in_v _) (in_cons (came_agg q1 (.cons (.v _) (.cons (.v _) (.cons (.v _) (.cons (.v _) (.cons (.v _) (.cons (.fl _ _ rfl) (.nil)))))))) (in_cons (in_v _) in_nil)))).mono fun e W' ⟨he, bel⟩ => ?_
  subst he
  exact ⟨_, rfl, _, _, _, [], _, [], hW', trodAll_mk1 (shut_bool Tryz.underlying4 _), (trodAll_cons_mk (shut_string Tryz.underlying9 w0) (trodAll_cons_mk (Below.trod laidOut (by kernel_rfl) (of_decide_eq_true (by kernel_rfl)) k1 bel lt1) (trodAll_cons_mk (shut_string Tryz.underlying9 w2) trodAll_mk0))), rfl, bel.frame _, fun h => by cases h⟩

theorem verbExact_proved : Rows.VerbExactSaid :=
  OpenClaim.holds_of_wide 3 Tryz.f3 rfl rfl rfl rfl rfl rfl rfl ⟨rfl, rfl, rfl, rfl, rfl⟩ rfl rfl rfl rfl rfl (by kernel_rfl) Tryz.func3 (by kernel_rfl)
    (of_decide_eq_true (by kernel_rfl)) (by unfold Func.isWrapper; first | (rw [if_pos (by decide +kernel)]; kernel_rfl) | (rw [if_neg (by decide +kernel)]; exact ⟨rfl, rfl⟩))
    (fun os started H enc _ => verbExact_lifted os started H enc)
#print axioms verbExact_proved
theorem verbExact_card : Rows.VerbExactCardSaid :=
  Claim7.holds_tied_plain_at .later [] [.data, .data, .data, .data, .sentinel, .sentinel, .pinned] true (true, "0be2b54f70190eb67ed897eef68b84c784aa8f6ee0aa5ab5b7ddc50ee6128a5c") true
    verbExact_proved (fun _ h => by cases h) (by kernel_rfl) (fun _ h => by cases h) verbExact_row_tie rfl ⟨rfl, rfl⟩ (by kernel_rfl) rfl
    (fun f fn hf hfn => by
      obtain rfl : f = 3 := Option.some.inj ((show Tryz.prog.funcNamed "wherry/wherrylaw12.VerbExact" = some 3 by kernel_rfl).symm.trans hf) |>.symm
      obtain rfl : fn = Tryz.f3 := (Option.some.inj (Tryz.func3.symm.trans hfn)).symm
      exact ⟨by kernel_rfl, fun j t ht => by
        rw [Tryz.params3] at ht
        have hm : t ∈ [9, 26, 9] := by
          have := Array.mem_of_getElem? ht
          simpa using this
        have hall : ([9, 26, 9].all fun u => !Tryz.prog.wantsStandIn u) = true := by kernel_rfl
        exact (show Tryz.prog.wantsStandIn t = false by simpa using List.all_eq_true.1 hall t hm)⟩)
    (by kernel_rfl)
#print axioms verbExact_card
end Go.Proofs.YthfmdofkkkpbkaaGreatDoor
