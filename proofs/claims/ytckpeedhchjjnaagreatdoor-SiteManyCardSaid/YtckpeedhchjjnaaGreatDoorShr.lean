import Derived.Test.YtckpeedhchjjnaaGreatDoorProg
import Derived.Test.YtckpeedhchjjnaaGreatDoorB9
import Derived.Deep.LoopGhost
import Derived.KernelRfl
import Derived.BigQuiet
import Derived.Laws.NewBlocks
set_option linter.unusedVariables false
set_option linter.unusedSimpArgs false
set_option maxRecDepth 100000
namespace Go.Proofs
open Go.Abs Go.RowKit

set_option maxHeartbeats 4000000 in
theorem Tryz.shr_walk:zH Tryz.prog 170 171 172 173 125:=by
 intro w b er n2 n3 n4 K1 K2 K3 K4 vY hP1 hP0 hT hS hF hD hK
 go_enter Tryz.func125, Tryz.ntmps125
 go_wp2_with fail
 refine hT.mono ?_
 clear hT
 rintro e1 w1 ⟨l, rfl, k1⟩
 by_cases he:er=0
 · subst he
   have hS':=hS rfl
   have hF':=hF rfl
   have hD':=hD rfl
   clear hS hF hD
   go_wp2_with fail
   refine (hS' _ _ k1).mono ?_
   rintro e2 w2 ⟨p2, rfl, k2⟩
   go_wp2_with fail
   refine (hF' _ _ _ k2).mono ?_
   rintro e3 w3 ⟨p3, rfl, k3⟩
   go_wp2_with fail
   refine (hD' _ _ _ _ k3).mono ?_
   rintro e4 w4 ⟨p4, c2, c3, c4, rfl, k4⟩
   clear hS' hF' hD' k1 k2 k3
   obtain ⟨q2, q3, q4, a2, a3, a4, b2, b3, b4⟩:=hK _ _ _ _ _ _ _ _ k4
   have k4':Hid (K4 l p2 p3 p4 c2 c3 c4 w4):=k4
   clear k4 hK
   go_wp2_with fail
   go_loopg [6, 25] 2 (fun g v6 v25 wx=>∃ (j pb:Nat) (nb:Int) (cb:Value), j≤2∧g=2-j∧v25 = .int .i64 (j:Int)∧v6 = .pointer (some ⟨pb, 0, none⟩)∧Hid ((pb, nb, cb)=Ei (p2, n2, c2) (p3, n3, c3) (p4, n4, c4) j)∧wx.cell? ⟨pb, 1, none⟩=some (.int .i64 nb)∧wx.cell? ⟨pb, 0, none⟩=some cb∧wx.cell? ⟨w4.heap.size, 0, none⟩=some (.pointer (some ⟨p3, 0, none⟩))∧wx.cell? ⟨w4.heap.size, 1, none⟩=some (.pointer (some ⟨p4, 0, none⟩))∧wx.cell? ⟨p3, 1, none⟩=some (.int .i64 n3)∧wx.cell? ⟨p4, 1, none⟩=some (.int .i64 n4)∧wx.cell? ⟨p3, 0, none⟩=some c3∧wx.cell? ⟨p4, 0, none⟩=some c4∧Hid (dq [] w4 wx))
   case atStart =>
    refine ⟨0, p2, n2, c2, by omega, rfl, by go_num, rfl, rfl, ?_, ?_, ?_, ?_, ?_, ?_, ?_, ?_, dq.alloc _ _ _⟩
    · exact (World.cell?_alloc_lt _ _ _ q2).trans b2
    · exact (World.cell?_alloc_lt _ _ _ q2).trans a2
    · rw [World.cell?_alloc_new]; rfl
    · rw [World.cell?_alloc_new]; rfl
    · exact (World.cell?_alloc_lt _ _ _ q3).trans b3
    · exact (World.cell?_alloc_lt _ _ _ q4).trans b4
    · exact (World.cell?_alloc_lt _ _ _ q3).trans a3
    · exact (World.cell?_alloc_lt _ _ _ q4).trans a4
   case round =>
    obtain ⟨j, pb, nb, cb, hj, hg, rfl, rfl, hB, x1, x2, x3, x4, x5, x6, x7, x8, hC⟩:=hrel
    by_cases j0:j=0
    · subst j0
      by_cases hlt:n3<nb
      · have hz:(0:Int)<2:=by omega
        go_wp2_with fail
        go_quiet (fail)
        go_wp2_with fail
        go_roundg 1
        case measure=>omega
        case rel=>exact ⟨1, p3, n3, c3, by omega, by omega, by go_num, rfl, (JE hB.out hlt), x5, x7, x3, x4, x5, x6, x7, x8, hC.out.trans (qY _ _)⟩
      · have hz:(0:Int)<2:=by omega
        go_wp2_with fail
        go_quiet (fail)
        go_wp2_with fail
        go_roundg 1
        case measure=>omega
        case rel=>exact ⟨1, pb, nb, cb, by omega, by omega, by go_num, rfl, (Hl hB.out (Int.not_lt.2 hlt)), x1, x2, x3, x4, x5, x6, x7, x8, hC.out.trans (qY _ _)⟩
    · by_cases j1:j=1
      · subst j1
        by_cases hlt:n4<nb
        · have hz:(1:Int)<2:=by omega
          go_wp2_with fail
          go_quiet (fail)
          go_wp2_with fail
          go_roundg 0
          case measure=>omega
          case rel=>exact ⟨2, p4, n4, c4, by omega, by omega, by go_num, rfl, (Jr hB.out hlt), x6, x8, x3, x4, x5, x6, x7, x8, hC.out.trans (qY _ _)⟩
        · have hz:(1:Int)<2:=by omega
          go_wp2_with fail
          go_quiet (fail)
          go_wp2_with fail
          go_roundg 0
          case measure=>omega
          case rel=>exact ⟨2, pb, nb, cb, by omega, by omega, by go_num, rfl, (Ii hB.out (Int.not_lt.2 hlt)), x1, x2, x3, x4, x5, x6, x7, x8, hC.out.trans (qY _ _)⟩
      · obtain rfl:j=2:=by omega
        go_wp2_with fail
        have hq:=hP0.out (by trivial) l p2 p3 p4 c2 c3 c4 w4 _ k4'.out hC.out
        rw [← hB.out] at hq
        exact hq
 · clear hS hF hD hK hP0
   have hz:(er != 0)=true:=by simp [he]
   go_wp2_with fail
   exact hP1.out he l w1 _ k1 (dq.refl _ _)
end Go.Proofs
