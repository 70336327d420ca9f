/-
  GateMail: for every input the call returns true and each argument reads as it did.
-/
import Derived.Test.YtjnnkhmhjcjhdaaGreatDoorIn
import Derived.HandedShaped
import Derived.Shelf.Vars
import Derived.Test.YtjnnkhmhjcjhdaaGreatDoorTie
import Derived.Test.YtjnnkhmhjcjhdaaGreatDoorCards
import Derived.LaidMore
import Derived.Lay
import Derived.SevenTiedAt
import Derived.Stop.Joined
import Derived.Test.YtjnnkhmhjcjhdaaGreatDoorCame
import Derived.Test.YtjnnkhmhjcjhdaaGreatDoorOkGateMail
import Derived.Test.YtjnnkhmhjcjhdaaGreatDoorMaiG
namespace Go.Proofs.YtjnnkhmhjcjhdaaGreatDoor
open Go.ChangeShapes Go.WideShapes Go.ChangeAt Go.RowKit Go.Abs Go.Abs.Sh
open Go.ChangeMaps (open_string shut_string)
set_option linter.unusedVariables false

set_option maxRecDepth 100000 in
theorem gateMail_lifted (os:Os) (started:os.Started) (H:Type) (enc:TypeId×Value→H) :
    ReturnsInHanded {} Tryz.checked os 4 .any (fun w args=>(Rows.gateMailSpec.pre enc Tryz.prog Tryz.f4 Rows.gateMailRow.domain false w args∧laidMetH Tryz.prog Rows.gateMailRow.laid w)∧sizedMet enc Tryz.prog Tryz.f4 (OpenSpec.ofChange Rows.gateMailSpec) false w args) (Rows.gateMailSpec.post enc Tryz.prog Tryz.f4 false true false false):=by
  refine pk (C:=Tryz.checked) (X:=fun w _=>laidMetH Tryz.prog Rows.gateMailRow.laid w) (fun _ _ _ hh h=>h.of_heap hh) own started (by kernel_rfl) Tryz.func4
    (ChangeSpec.witness_shaped (enc:=enc) (C:=Tryz.checked) (os:=os) (X:=fun w _=>laidMetH Tryz.prog Rows.gateMailRow.laid w) false (World.laidAll Tryz.prog os Rows.gateMailRow.laid) #[.agg #[.bool false, .string ByteArray.empty, .string ByteArray.empty], .slice none 0 0, .slice none 0 0, .int .i64 0, .int .i64 0, .bool false] 12 (World.laidAll_os _ _ _) (World.shaped_of_ZipB (by kernel_rfl) (by kernel_rfl)) (by kernel_rfl) (by kernel_rfl) (by kernel_rfl) (by rw [MakeChecks.laidMetH_plain _ _ _ (by kernel_rfl)]; exact laidMet_laidAll _ (by kernel_rfl) (by kernel_rfl))) ?_
  intro W base args ds gs before hval0 hW hcnd _ hL hsh _
  have hval:∀ (j:Nat) t v, Tryz.f4.params[j]? = some t→args[j]? = some v→Value.okWide Tryz.prog W .any base t v:=hval0
  have hW':=hW
  obtain ⟨p, q, hA0, hV, rfl, hfz, hnd⟩:=hW
  have hA:DataW.TrodAll enc Tryz.prog W 0 (fun _=>true) true Tryz.f4.params.toList args.toList ds p:=hA0
  rw [Tryz.params4] at hA hval
  obtain ⟨v0, vs0, d0, ds0, p0, q0, hargs, rfl, rfl, h0, r0⟩:=trodAll_cons hA
  obtain ⟨v1, vs1, d1, ds1, p1, q1, rfl, rfl, rfl, h1, r1⟩:=trodAll_cons r0
  obtain ⟨v2, vs2, d2, ds2, p2, q2, rfl, rfl, rfl, h2, r2⟩:=trodAll_cons r1
  obtain ⟨v3, vs3, d3, ds3, p3, q3, rfl, rfl, rfl, h3, r3⟩:=trodAll_cons r2
  obtain ⟨v4, vs4, d4, ds4, p4, q4, rfl, rfl, rfl, h4, r4⟩:=trodAll_cons r3
  obtain ⟨v5, vs5, d5, ds5, p5, q5, rfl, rfl, rfl, h5, r5⟩:=trodAll_cons r4
  obtain ⟨rfl, rfl, rfl⟩:=trodAll_nil r5
  obtain rfl:args = #[v0, v1, v2, v3, v4, v5]:=by cases args; simp_all
  obtain ⟨rfl, rfl⟩:=trodVars_none hV
  have k0:=h0
  have lt0:∀ x∈p0, x.block<W.heap.size:=by obtain ⟨m, hm⟩:=k0; exact DataW.trod_lt m _ _ _ hm
  obtain ⟨cs0, rfl, _⟩:=okWide_struct Tryz.underlying26 (hval 0 26 v0 rfl rfl)
  obtain ⟨fu0, hf0⟩:=h0
  obtain ⟨x0, q0, _, w0⟩:=Jj _ _ _ hf0
  have k1:=h1
  have lt1:∀ x∈p1, x.block<W.heap.size:=by obtain ⟨m, hm⟩:=k1; exact DataW.trod_lt m _ _ _ hm
  obtain ⟨a1, len1, cap1, rfl⟩:=okWide_slice Tryz.underlying27 (hval 1 27 v1 rfl rfl)
  obtain ⟨fu1, hf1⟩:=h1
  obtain ⟨x1, q1, _, w1⟩:=Ko _ _ _ hf1
  have k2:=h2
  have lt2:∀ x∈p2, x.block<W.heap.size:=by obtain ⟨m, hm⟩:=k2; exact DataW.trod_lt m _ _ _ hm
  obtain ⟨a2, len2, cap2, rfl⟩:=okWide_slice Tryz.underlying28 (hval 2 28 v2 rfl rfl)
  obtain ⟨fu2, hf2⟩:=h2
  obtain ⟨x2, q2, _, w2⟩:=JS _ _ _ hf2
  obtain ⟨x3, rfl, rfl, rfl, w3⟩:=open_int Tryz.underlying3 (hval 3 3 v3 rfl rfl) h3
  obtain ⟨x4, rfl, rfl, rfl, w4⟩:=open_int Tryz.underlying3 (hval 4 3 v4 rfl rfl) h4
  obtain ⟨x5, rfl, rfl, rfl⟩:=open_bool Tryz.underlying4 (hval 5 4 v5 rfl rfl) h5
  clear hA0 hval0
  rw [MakeChecks.laidMetH_plain _ _ _ (by kernel_rfl)] at hL
  obtain ⟨ps, ⟨g0, t0, cs0, f0, lp0, lq0, hg0, ht0, hv0, hd0, ⟨g1, t1, cs1, f1, lp1, lq1, hg1, ht1, hv1, hd1, ⟨g2, t2, cs2, f2, lp2, lq2, hg2, ht2, hv2, hd2, ⟨g3, t3, cs3, f3, lp3, lq3, hg3, ht3, hv3, hd3, ⟨g4, t4, cs4, f4, lp4, lq4, hg4, ht4, hv4, hd4, ⟨g5, t5, cs5, f5, lp5, lq5, hg5, ht5, hv5, hd5, ⟨g6, t6, cs6, f6, lp6, lq6, hg6, ht6, hv6, hd6, ⟨g7, t7, cs7, f7, lp7, lq7, hg7, ht7, hv7, hd7, ⟨g8, t8, cs8, f8, lp8, lq8, hg8, ht8, hv8, hd8, _, _⟩, _⟩, _⟩, _⟩, _⟩, _⟩, _⟩, _⟩, _⟩, _, _⟩:=hL
  obtain rfl := Option.some.inj ((show Tryz.prog.globalNamed "internal/strconv.uint64pow10" = some 7 by kernel_rfl).symm.trans hg2)
  obtain rfl:=Option.some.inj ((show (Tryz.prog.globals[7]?).map (·.type)=some 251 by kernel_rfl).symm.trans ht2)
  obtain rfl := Option.some.inj ((show Tryz.prog.globalNamed "wherry/digest.turns" = some 6 by kernel_rfl).symm.trans hg5)
  obtain rfl:=Option.some.inj ((show (Tryz.prog.globals[6]?).map (·.type)=some 245 by kernel_rfl).symm.trans ht5)
  obtain rfl := Option.some.inj ((show Tryz.prog.globalNamed "wherry/digest.sines" = some 5 by kernel_rfl).symm.trans hg4)
  obtain rfl:=Option.some.inj ((show (Tryz.prog.globals[5]?).map (·.type)=some 241 by kernel_rfl).symm.trans ht4)
  obtain rfl := Option.some.inj ((show Tryz.prog.globalNamed "strconv.ErrSyntax" = some 3 by kernel_rfl).symm.trans hg7)
  obtain rfl:=Option.some.inj ((show (Tryz.prog.globals[3]?).map (·.type)=some 155 by kernel_rfl).symm.trans ht7)
  obtain ⟨te, pv, hse⟩:=IX Tryz.underlying155 hd7
  obtain rfl := Option.some.inj ((show Tryz.prog.globalNamed "unicode/utf8.acceptRanges" = some 2 by kernel_rfl).symm.trans hg3)
  obtain rfl:=Option.some.inj ((show (Tryz.prog.globals[2]?).map (·.type)=some 187 by kernel_rfl).symm.trans ht3)
  obtain rfl := Option.some.inj ((show Tryz.prog.globalNamed "unicode/utf8.first" = some 1 by kernel_rfl).symm.trans hg8)
  obtain rfl:=Option.some.inj ((show (Tryz.prog.globals[1]?).map (·.type)=some 184 by kernel_rfl).symm.trans ht8)
  obtain ⟨mx, hmx⟩:∃ m, ∀ j, W.cell? ⟨0, j, none⟩=([.int .i64 m]:List Value)[j]? := zD (zero := #[.int .i64 0]) (t:=3) hsh (of_decide_eq_true (by kernel_rfl)) (by kernel_rfl) rfl (by kernel_rfl) (by kernel_rfl) Tryz.underlying3
  refine (Hk (mm (mx, te, pv) x0 x1 x2 x3 x4 x5 true (uF x0 x1 x2 x3 x4 x5 w1 w2)) (show EM (GL (mx, te, pv)) _ _ from (kv (by simp) (zA hmx) (kv (vs:=(List.map (Value.int .u8) gX)) (by simp [gX]) (jq hg8 hv8 (FF (ns:=gX) Tryz.underlying184 Tryz.underlying5 (by kernel_rfl) (by kernel_rfl) hd8)) (kv (vs:=(List.map (Value.int .u8) jG)) (by simp [jG]) (jq hg3 hv3 (((KD (k := .u8) (ns:=[(128, 191), (160, 191), (128, 159), (144, 191), (128, 143), (0, 0), (0, 0), (0, 0), (0, 0), (0, 0), (0, 0), (0, 0), (0, 0), (0, 0), (0, 0), (0, 0)]) Tryz.underlying187 Tryz.underlying186 Tryz.underlying5 Tryz.underlying5 rfl rfl (by kernel_rfl) (by kernel_rfl) (by kernel_rfl) (by kernel_rfl) hd3).trans (sN .u8 _)))) (kv (vs:=[.iface te pv]) (by simp) (jq hg7 hv7 hse) (kv (vs:=(List.map (Value.int .u32) dR)) (by simp [dR]) (jq hg4 hv4 (FF (ns:=dR) Tryz.underlying241 Tryz.underlying106 (by kernel_rfl) (by kernel_rfl) hd4)) (kv (vs:=(List.map (Value.int .i64) iK)) (by simp [iK]) (jq hg5 hv5 (Kr (nss:=[[7, 12, 17, 22], [5, 9, 14, 20], [4, 11, 16, 23], [6, 10, 15, 21]]) Tryz.underlying245 Tryz.underlying244 Tryz.underlying3 (by kernel_rfl) (by kernel_rfl) (by kernel_rfl) hd5)) (kv (vs:=(List.map (Value.int .u64) gI)) (by simp [gI]) (jq hg2 hv2 (FF (ns:=gI) Tryz.underlying251 Tryz.underlying105 (by kernel_rfl) (by kernel_rfl) hd2)) FD)))))))) (oy (CA q0 (.cons (.v _) (.cons (.v _) (.cons (.v _) (.nil))))) (oy (Al q1 (.fl _ _ rfl)) (oy (Al q2 (.fl _ _ rfl)) (oy (GQ _) (oy (GQ _) (oy (GQ _) Hh))))))).mono fun e W' ⟨he, bel⟩ => ?_
  subst he
  exact ⟨_, rfl, _, _, _, [], _, [], hW', trodAll_mk1 (shut_bool Tryz.underlying4 _), (trodAll_cons_mk (Below.trod laidOut (by kernel_rfl) (of_decide_eq_true (by kernel_rfl)) k0 bel lt0) (trodAll_cons_mk (Below.trod laidOut (by kernel_rfl) (of_decide_eq_true (by kernel_rfl)) k1 bel lt1) (trodAll_cons_mk (Below.trod laidOut (by kernel_rfl) (of_decide_eq_true (by kernel_rfl)) k2 bel lt2) (trodAll_cons_mk (shut_int Tryz.underlying3 w3) (trodAll_cons_mk (shut_int Tryz.underlying3 w4) (trodAll_cons_mk (shut_bool Tryz.underlying4 x5) trodAll_mk0)))))), rfl, bel.frame _, fun h=>by cases h⟩

theorem gateMail_proved:Rows.GateMailSaid :=
  OpenClaim.holds_of_wide 4 Tryz.f4 rfl rfl rfl rfl rfl rfl rfl ⟨rfl, rfl, rfl, rfl, rfl⟩ rfl rfl rfl rfl rfl (by kernel_rfl) Tryz.func4 (by kernel_rfl)
    (of_decide_eq_true (by kernel_rfl)) (by unfold Func.isWrapper; first | (rw [if_pos (by decide+kernel)]; kernel_rfl) | (rw [if_neg (by decide+kernel)]; exact ⟨rfl, rfl⟩))
    (fun os started H enc _=>gateMail_lifted os started H enc)
#print axioms gateMail_proved
theorem gateMail_card:Rows.GateMailCardSaid :=
  Claim7.holds_tied_plain_at .later [] [.data, .data, .data, .data, .data, .data, .sentinel, .sentinel, .pinned] true (true, "a7aafa883f8ad755866d007a519e8581e5dcfa371c87fe61ea40ec0f0a8cb5ae") true
    gateMail_proved (fun _ h=>by cases h) (by kernel_rfl) (fun _ h=>by cases h) gateMail_row_tie rfl ⟨rfl, rfl⟩ (by kernel_rfl) rfl
    (fun f fn hf hfn=>by
      obtain rfl : f = 4 := Option.some.inj ((show Tryz.prog.funcNamed "wherry/wherrylaw23.GateMail" = some 4 by kernel_rfl).symm.trans hf) |>.symm
      obtain rfl:fn=Tryz.f4:=(Option.some.inj (Tryz.func4.symm.trans hfn)).symm
      exact ⟨by kernel_rfl, fun j t ht=>by
        rw [Tryz.params4] at ht
        have hm:t∈[26, 27, 28, 3, 3, 4]:=by
          have:=Array.mem_of_getElem? ht
          simpa using this
        have hall:([26, 27, 28, 3, 3, 4].all fun u => !Tryz.prog.wantsStandIn u)=true:=by kernel_rfl
        exact (show Tryz.prog.wantsStandIn t=false by simpa using List.all_eq_true.1 hall t hm)⟩)
    (by kernel_rfl)
#print axioms gateMail_card
end Go.Proofs.YtjnnkhmhjcjhdaaGreatDoor
