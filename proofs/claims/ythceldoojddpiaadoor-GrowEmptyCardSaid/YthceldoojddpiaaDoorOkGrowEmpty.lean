/-
  The model's runs are what is told in Lean.
-/
import Derived.Test.YthceldoojddpiaaDoorProg
import Derived.KernelRfl
import Derived.Test.YthceldoojddpiaaDoorShelf
import Derived.Test.YthceldoojddpiaaDoorB2
import Derived.Test.YthceldoojddpiaaDoorB4
import Derived.Test.YthceldoojddpiaaDoorB5
import Derived.Test.YthceldoojddpiaaDoorB8
import Derived.Test.YthceldoojddpiaaDoorSrt
import Derived.Test.YthceldoojddpiaaDoorB9
import Derived.Test.YthceldoojddpiaaDoorShr
import Derived.Test.YthceldoojddpiaaDoorC1
import Derived.Test.YthceldoojddpiaaDoorOkc7
set_option linter.unusedVariables false
set_option linter.unusedSimpArgs false
set_option maxHeartbeats 1000000
namespace Go.Proofs.YthceldoojddpiaaDoor
open Go.Abs Go.Abs.Sh Tryd
open List (map flatten)
open Value (int)

theorem ok_wherrylaw07_GrowEmpty (mx:Int) (b:(List Int)) (n:Int) (r:Bool) (h:Sh.wherrylaw07_GrowEmpty b n=some r):FnG Tryd.prog (GL mx) 9 [.fl .shr 1 (map (int .u8) b), .v (.int .i64 n)] (.v (.bool r)):=by
  unfold Sh.wherrylaw07_GrowEmpty at h
  refine yG 68 func9 fun g0 hn hio => ?_
  refine yyy hn 1 [0,1,68] ?_
  refine ht_seq ?_
  refine yyy hn 3 [0,1,68,15] ?_
  refine ht_cond _ rfl (fun hb1 => ?_) (fun hb1 => ?_)
  ·have h:=cond_t hb1 h
   refine yyy hn 1 [68,4] ?_
   refine ht_ret ?_
   refine pt_pick [1] (by kernel_rfl) (es':=[(_,_)]) rfl ?_
   refine pt_r_then ?_
   obtain rfl:=zi h
   exact pt_ret hio rfl (.tmp _ _ .nil) rfl rfl
  ·have h:=cond_f hb1 h
   refine ht_skip ?_
   refine pt_then (ht_seq ?_)
   obtain ⟨v2, hv2, h⟩:=zn h
   obtain ⟨v3, hv3, h⟩:=zn h
   obtain ⟨v4, hv4, h⟩:=zn h
   refine yx hn 1 ?_
   refine ys 0 ⟨lv hv2⟩ ?_
   refine ys 0 ⟨lB (rem_ok hv3)⟩ ?_
   refine ys 0 ⟨lv hv4⟩ ?_
   refine yw [1] 1 ?_
   refine yee [0,68,1] ?_
   refine ht_seq ?_
   obtain ⟨v5, hv5, h⟩:=zn h
   refine yx hn 1 ?_
   refine ys 0 ⟨lg call10 (ok_shrink_Shrink _ _ _ hv5) 68⟩ ?_
   refine ym 0 ?_
   refine yx_ 1 ?_
   refine ya 1 ?_
   refine yee [0,68,1,5,6] ?_
   refine ht_seq ?_
   refine yyy hn 2 [0,68,1,5,26] ?_
   refine ht_cond _ rfl (fun hb6 => ?_) (fun hb6 => ?_)
   ·have h:=cond_t hb6 h
    refine yyy hn 1 [68,4] ?_
    refine ht_ret ?_
    refine pt_pick [1] (by kernel_rfl) (es':=[(_,_)]) rfl ?_
    refine pt_r_then ?_
    obtain rfl:=zi h
    exact pt_ret hio rfl (.tmp _ _ .nil) rfl rfl
   ·have h:=cond_f hb6 h
    refine ht_skip ?_
    refine pt_then ?_
    refine yyy hn 1 [0,68,1,5,7] ?_
    refine ht_seq ?_
    refine yyy hn 1 [0,68,1,5,7,8] ?_
    refine ht_sub (fs:=[(0,fb b),(68,.glob (GL mx)),(1,vi v4),(5,.fl (.own 5) 1 (map (int .u8) v5.1)),(7,.fl (.own 5) 1 (map (int .u8) [])),(8,vi 0)]) (.same _ (.same _ (.same _ (.same _ (.sub _ (sub_nil 5 1) rfl (.same _ .nil)))))) ?_
    refine ht_loopS h (fun ((s13,s14):(List Int)×Int)=>[(0,fb b),(68,.glob (GL mx)),(1,vi v4),(5,.fl (.own 5) 1 (map (int .u8) v5.1)),(7,.fl (.own 5) 1 (map (int .u8) s13)),(8,vi s14)]) (fun (s16:(List Int))=>[(0,fb b),(68,.glob (GL mx)),(1,vi v4),(5,.fl (.own 5) 1 (map (int .u8) v5.1)),(7,.fl (.own 5) 1 (map (int .u8) s16))]) ?_ ?_
    ·rintro s16 h
     refine pt_then (ht_seq ?_)
     obtain ⟨v24, hv24, h⟩:=zn h
     refine yx hn 0 ?_
     refine ym 0 ?_
     refine ym 0 ?_
     refine yp el22 hv24 0 ?_
     refine ya 0 ?_
     refine yee [0,68,1,7] ?_
     refine ht_seq ?_
     obtain ⟨v25, hv25, h⟩:=zn h
     refine yx hn 1 ?_
     refine ys 0 ⟨lg call11 (ok_grow_Grow _ _ _ _ hv25) 68⟩ ?_
     refine ym 0 ?_
     refine yx_ 1 ?_
     refine ya 1 ?_
     refine yee [0,68,1,7,9,10] ?_
     refine ht_seq ?_
     obtain ⟨v26, hv26, h⟩:=zn h
     refine yx hn 0 ?_
     refine ym 0 ?_
     refine ys 0 ⟨lg call12 (ok_grow_Blocks _ _ _ hv26) 68⟩ ?_
     refine ym 4 ?_
     refine yee [0,68,1,9,10,11,12] ?_
     refine ht_seq ?_
     refine ht_joinS h (fun (s30:Bool)=>[(68,.glob (GL mx)),(4,vb s30)]) ?_ ?_
     ·rintro s30 h
      refine pt_then (ht_ret ?_)
      refine pt_pick [1] (by kernel_rfl) (es':=[(_,_)]) rfl ?_
      obtain rfl:=zi h
      exact pt_ret hio rfl (.tmp _ _ .nil) rfl rfl
     ·intro u31 h hl32 hr33
      refine cond_some h (fun hg15_2 h => ?_) (fun hg15_2 h => ?_)
      ·refine cond_some h (fun hg15_6 h => ?_) (fun hg15_6 h => ?_)
       ·obtain ⟨v27, hv27, h⟩:=zn h
        refine cond_some h (fun hg15_12 h => ?_) (fun hg15_12 h => ?_)
        ·obtain ⟨v28, hv28, h⟩:=zn h
         refine cond_some h (fun hg15_17 h => ?_) (fun hg15_17 h => ?_)
         ·obtain ⟨v29, hv29, h⟩:=zn h
          refine yx hn 3 ?_
          refine yd hg15_2 4 ?_
          refine yd hg15_6 2 ?_
          refine ys 3 ⟨lb hv27⟩ ?_
          refine yd hg15_12 0 ?_
          refine ym 1 ?_
          refine ys 2 ⟨lk call13 (ok_wherrykeep_Bytes _ _ _ hv28)⟩ ?_
          refine yd hg15_17 0 ?_
          refine ys 2 ⟨lg call14 (ok_wherrylaw07_wakes _ _ hv29) 68⟩ ?_
          refine ye [68,4] ?_
          exact hl32 _ (zi h).symm
         ·refine yx hn 3 ?_
          refine yd hg15_2 4 ?_
          refine yd hg15_6 2 ?_
          refine ys 3 ⟨lb hv27⟩ ?_
          refine yd hg15_12 0 ?_
          refine ym 1 ?_
          refine ys 2 ⟨lk call13 (ok_wherrykeep_Bytes _ _ _ hv28)⟩ ?_
          refine yd hg15_17 3 ?_
          refine ye [68,4] ?_
          exact hl32 _ (zi h).symm
        ·refine yx hn 3 ?_
         refine yd hg15_2 4 ?_
         refine yd hg15_6 2 ?_
         refine ys 3 ⟨lb hv27⟩ ?_
         refine yd hg15_12 8 ?_
         refine ye [68,4] ?_
         exact hl32 _ (zi h).symm
       ·refine yx hn 3 ?_
        refine yd hg15_2 4 ?_
        refine yd hg15_6 14 ?_
        refine ye [68,4] ?_
        exact hl32 _ (zi h).symm
      ·refine yx hn 3 ?_
       refine yd hg15_2 18 ?_
       refine ye [68,4] ?_
       exact hl32 _ (zi h).symm
    ·rintro u17 hl18 hr19 ⟨s13, s14⟩ rr22 h ho20
     refine ht_seq ?_
     refine yyy hn 3 [0,68,1,5,7,8,29] ?_
     refine ht_cond _ rfl (fun hb23 => ?_) (fun hb23 => ?_)
     ·have h:=cond_t hb23 h
      refine ht_skip ?_
      refine pt_then (ht_seq ?_)
      refine ht_block ?_
      obtain ⟨v8, hv8, h⟩:=zn h
      refine yx hn 0 ?_
      refine ym 0 ?_
      refine yS (.fl (.own 5) 1 (map (int .u8) [0,0,0,255,255])) 0 ⟨op_buildSlice _ _ 1 (.int .u8 0) (map (int .u8) [0,0,0,255,255]) [(0,.int .u8 0),(1,.int .u8 0),(2,.int .u8 0),(3,.int .u8 255),(4,.int .u8 255)] underlying22 sz5 zr5 (fun _ V w o a hv hes=>by simp only [List.map_toArray,List.map_cons,List.map_nil]; try rfl) (litfill (by simp [Instr.fill,Value.cells]; rfl) (by simp [List.range,List.range.loop] <;> rfl)) (by simp [Value.oneCell']) rfl (by decide) (by decide) (by decide)⟩ ?_
      refine yp el22 hv8 0 ?_
      refine ya 0 ?_
      refine ye [0,68,1,5,8,7] ?_
      refine pt_inb ?_
      refine pt_then ?_
      obtain ⟨v9, hv9, h⟩:=zn h
      refine yx hn 1 ?_
      refine ys 0 ⟨lb hv9⟩ ?_
      refine yw [8] 1 ?_
      refine ye [0,68,1,5,7,8] ?_
      exact pt_next _ (zi h).symm rfl
     ·have h:=cond_f hb23 h
      refine ht_exit ?_
      refine pt_x_then ?_
      refine pt_x_then ?_
      refine pt_x_in ?_
      refine pt_pick [0,1,2,3,4] (by kernel_rfl) (es':=[(_,_),(_,_),(_,_),(_,_),(_,_)]) rfl ?_
      exact hl18 _ (ho20 _ (zi h).symm).symm

end Go.Proofs.YthceldoojddpiaaDoor
