/-
  The model's runs are what is told in Lean.
-/
import Derived.Test.YthceldoojddpiaaDoorProg
import Derived.KernelRfl
import Derived.Test.YthceldoojddpiaaDoorB2
import Derived.Test.YthceldoojddpiaaDoorB5
import Derived.Test.YthceldoojddpiaaDoorC1
import Derived.Test.YthceldoojddpiaaDoorOkc4
set_option linter.unusedVariables false
set_option linter.unusedSimpArgs false
set_option maxHeartbeats 1000000
namespace Go.Proofs.YthceldoojddpiaaDoor
open Go.Abs Go.Abs.Sh Tryd
open List (map flatten)
open Value (int)

theorem ok_wherrylaw07_GrowCut (mx:Int) (b:(List Int)) (cut:Int) (more:Int) (r:Bool) (h:Sh.wherrylaw07_GrowCut b cut more=some r):FnG Tryd.prog (GL mx) 4 [.fl .shr 1 (map (int .u8) b), .v (.int .i64 cut), .v (.int .u8 more)] (.v (.bool r)):=by
  unfold Sh.wherrylaw07_GrowCut at h
  refine yG 67 func4 fun g0 hn hio => ?_
  refine yyy hn 1 [0,1,2,67] ?_
  refine ht_seq ?_
  refine yyy hn 3 [0,1,2,67,15] ?_
  refine ht_cond _ rfl (fun hb1 => ?_) (fun hb1 => ?_)
  ·have h:=cond_t hb1 h
   refine yyy hn 1 [67,6] ?_
   refine ht_ret ?_
   refine pt_pick [1] (by kernel_rfl) (es':=[(_,_)]) rfl ?_
   refine pt_r_then ?_
   obtain rfl:=zi h
   exact pt_ret hio rfl (.tmp _ _ .nil) rfl rfl
  ·have h:=cond_f hb1 h
   refine ht_skip ?_
   refine pt_then (ht_seq ?_)
   obtain ⟨v2, hv2, h⟩:=zn h
   refine yx hn 1 ?_
   refine ys 0 ⟨lk call15 (ok_shrink_Fixed _ _ hv2)⟩ ?_
   refine ym 0 ?_
   refine yx_ 1 ?_
   refine ya 1 ?_
   refine yee [1,2,67,7,8] ?_
   refine ht_seq ?_
   refine ht_seq ?_
   refine ht_joinS h (fun (s3:Bool)=>[(1,vi cut),(2,.v (.int .u8 more)),(67,.glob (GL mx)),(7,.fl (.own 5) 1 (map (int .u8) v2.1)),(27,vb s3)]) ?_ ?_
   ·rintro s3 h
    refine pt_then ?_
    refine ht_cond _ rfl (fun hb7 => ?_) (fun hb7 => ?_)
    ·have h:=cond_t hb7 h
     refine yyy hn 1 [67,6] ?_
     refine ht_ret ?_
     refine pt_pick [1] (by kernel_rfl) (es':=[(_,_)]) rfl ?_
     refine pt_r_then ?_
     obtain rfl:=zi h
     exact pt_ret hio rfl (.tmp _ _ .nil) rfl rfl
    ·have h:=cond_f hb7 h
     refine ht_skip ?_
     refine pt_then (ht_seq ?_)
     refine ht_frz 3 hio (es':=[(1, .v (.int .i64 cut)), (2, .v (.int .u8 more)), (67, .glob (GL mx)), (7, .fl .ro 1 (map (int .u8) v2.1)), (27, .v (.bool s3))]) rfl ?_
     obtain ⟨v8, hv8, h⟩:=zn h
     obtain ⟨v9, hv9, h⟩:=zn h
     obtain ⟨v10, hv10, h⟩:=zn h
     obtain ⟨v11, hv11, h⟩:=zn h
     obtain ⟨v12, hv12, h⟩:=zn h
     obtain ⟨v13, hv13, h⟩:=zn h
     refine yx hn 2 ?_
     refine ys 2 ⟨lv hv8⟩ ?_
     refine ys 0 ⟨lv hv9⟩ ?_
     refine ys 0 ⟨lB (rem_ok hv10)⟩ ?_
     refine ys 0 ⟨lv hv11⟩ ?_
     refine yS (.fl .ro 1 (map (int .u8) v12)) 0 ⟨op_sl _ _ _ 0 v11 _ underlying22 sz5 rfl rfl rfl ⟨_,rfl⟩ hv12⟩ ?_
     refine ys 0 ⟨lg call11 (ok_grow_Grow _ _ _ _ hv13) 67⟩ ?_
     refine ym 0 ?_
     refine yx_ 1 ?_
     refine ya 1 ?_
     refine yee [2,67,7,9,10] ?_
     refine ht_seq ?_
     obtain ⟨v14, hv14, h⟩:=zn h
     obtain ⟨v15, hv15, h⟩:=zn h
     obtain ⟨v16, hv16, h⟩:=zn h
     refine yx hn 1 ?_
     refine ys 1 ⟨lk call16 (ok_wherrykeep_Twin _ _ hv14)⟩ ?_
     refine yS (.fl (.own 5) 1 (map (int .u8) [more])) 0 ⟨op_buildSlice _ _ 1 (.int .u8 0) (map (int .u8) [more]) [(0,.int .u8 more)] underlying22 sz5 zr5 (fun _ V w o a hv hes=>by have e0:=rd_v hv hes (x := .tmp 44) rfl; simp only [List.map_toArray,List.map_cons,List.map_nil,e0]; try rfl) (litfill (by simp [Instr.fill,Value.cells]; rfl) (by simp [List.range,List.range.loop] <;> rfl)) (by simp [Value.oneCell']) rfl (by decide) (by decide) (by decide)⟩ ?_
     refine yp el22 hv15 0 ?_
     refine ys 0 ⟨lg call11 (ok_grow_Grow _ _ _ _ hv16) 67⟩ ?_
     refine ym 0 ?_
     refine yx_ 1 ?_
     refine ya 1 ?_
     refine yee [67,9,10,11,12] ?_
     refine ht_seq ?_
     refine ht_joinS h (fun (s19:Bool)=>[(67,.glob (GL mx)),(6,vb s19)]) ?_ ?_
     ·rintro s19 h
      refine pt_then (ht_ret ?_)
      refine pt_pick [1] (by kernel_rfl) (es':=[(_,_)]) rfl ?_
      obtain rfl:=zi h
      exact pt_ret hio rfl (.tmp _ _ .nil) rfl rfl
     ·intro u20 h hl21 hr22
      refine cond_some h (fun hg8_2 h => ?_) (fun hg8_2 h => ?_)
      ·refine cond_some h (fun hg8_6 h => ?_) (fun hg8_6 h => ?_)
       ·obtain ⟨v17, hv17, h⟩:=zn h
        refine cond_some h (fun hg8_14 h => ?_) (fun hg8_14 h => ?_)
        ·obtain ⟨v18, hv18, h⟩:=zn h
         refine yx hn 3 ?_
         refine yd hg8_2 4 ?_
         refine yd hg8_6 0 ?_
         refine ym 1 ?_
         refine ym 1 ?_
         refine ys 3 ⟨lb hv17⟩ ?_
         refine yd hg8_14 0 ?_
         refine ys 2 ⟨lg call14 (ok_wherrylaw07_wakes _ _ hv18) 67⟩ ?_
         refine ye [67,6] ?_
         exact hl21 _ (zi h).symm
        ·refine yx hn 3 ?_
         refine yd hg8_2 4 ?_
         refine yd hg8_6 0 ?_
         refine ym 1 ?_
         refine ym 1 ?_
         refine ys 3 ⟨lb hv17⟩ ?_
         refine yd hg8_14 3 ?_
         refine ye [67,6] ?_
         exact hl21 _ (zi h).symm
       ·refine yx hn 3 ?_
        refine yd hg8_2 4 ?_
        refine yd hg8_6 11 ?_
        refine ye [67,6] ?_
        exact hl21 _ (zi h).symm
      ·refine yx hn 3 ?_
       refine yd hg8_2 15 ?_
       refine ye [67,6] ?_
       exact hl21 _ (zi h).symm
   ·intro u4 h hl5 hr6
    refine cond_some h (fun hg4_2 h => ?_) (fun hg4_2 h => ?_)
    ·refine yx hn 3 ?_
     refine yd hg4_2 4 ?_
     refine ye [1,2,67,7,27] ?_
     exact hl5 _ (zi h).symm
    ·refine yx hn 3 ?_
     refine yd hg4_2 4 ?_
     refine ye [1,2,67,7,27] ?_
     exact hl5 _ (zi h).symm

end Go.Proofs.YthceldoojddpiaaDoor
