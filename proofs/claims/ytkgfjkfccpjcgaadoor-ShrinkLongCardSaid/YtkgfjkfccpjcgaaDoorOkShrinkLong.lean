/-
  The model's runs are what is told in Lean.
-/
import Derived.Test.YtkgfjkfccpjcgaaDoorProg
import Derived.KernelRfl
import Derived.Test.YtkgfjkfccpjcgaaDoorShelf
import Derived.Test.YtkgfjkfccpjcgaaDoorB2
import Derived.Test.YtkgfjkfccpjcgaaDoorB4
import Derived.Test.YtkgfjkfccpjcgaaDoorB5
import Derived.Test.YtkgfjkfccpjcgaaDoorB8
import Derived.Test.YtkgfjkfccpjcgaaDoorSrt
import Derived.Test.YtkgfjkfccpjcgaaDoorB9
import Derived.Test.YtkgfjkfccpjcgaaDoorShr
import Derived.Test.YtkgfjkfccpjcgaaDoorC1
import Derived.Test.YtkgfjkfccpjcgaaDoorOkc7
set_option linter.unusedVariables false
set_option linter.unusedSimpArgs false
set_option maxHeartbeats 1000000
namespace Go.Proofs.YtkgfjkfccpjcgaaDoor
open Go.Abs Go.Abs.Sh Tryd
open List (map flatten)
open Value (int)

theorem ok_wherrylaw06_ShrinkLong (mx:Int) (over:Int) (c:Int) (r:Bool) (h:Sh.wherrylaw06_ShrinkLong over c=some r):FnG Tryd.prog (GL mx) 6 [.v (.int .i64 over), .v (.int .u8 c)] (.v (.bool r)):=by
  unfold Sh.wherrylaw06_ShrinkLong at h
  refine yG 96 func6 fun g0 hn hio => ?_
  refine yyy hn 1 [0,1,96] ?_
  refine ht_seq ?_
  obtain ⟨v1, hv1, h⟩:=zn h
  obtain ⟨v2, hv2, h⟩:=zn h
  obtain ⟨v3, hv3, h⟩:=zn h
  refine yx hn 1 ?_
  refine ys 0 ⟨lv hv1⟩ ?_
  refine ys 0 ⟨lB (rem_ok hv2)⟩ ?_
  refine ys 0 ⟨lv hv3⟩ ?_
  refine yw [0] 1 ?_
  refine yee [1,96,0] ?_
  refine ht_seq ?_
  obtain ⟨v4, hv4, h⟩:=zn h
  obtain ⟨v5, hv5, h⟩:=zn h
  refine yx hn 1 ?_
  refine ys 0 ⟨lb hv4⟩ ?_
  refine yS (.fl (.own 5) 1 (map (int .u8) v5)) 0 ⟨op_mk (f:=int .u8) _ _ _ _ el22 (by decide) zr5 rfl rfl rfl hv5⟩ ?_
  refine ya 0 ?_
  refine yee [1,96,0,5] ?_
  refine ht_seq ?_
  refine yyy hn 1 [1,96,0,5,6] ?_
  refine ht_loopS h (fun ((s13,s14):(List Int)×Int)=>[(1,.v (.int .u8 c)),(96,.glob (GL mx)),(0,vi v3),(5,.fl (.own 5) 1 (map (int .u8) s13)),(6,vi s14)]) (fun (s16:(List Int))=>[(96,.glob (GL mx)),(0,vi v3),(5,.fl (.own 5) 1 (map (int .u8) s16))]) ?_ ?_
  ·rintro s16 h
   refine pt_then (ht_seq ?_)
   obtain ⟨v24, hv24, h⟩:=zn h
   refine yx hn 1 ?_
   refine ys 0 ⟨lg call16 (ok_shrink_Shrink _ _ _ hv24) 96⟩ ?_
   refine ym 0 ?_
   refine yx_ 1 ?_
   refine ya 1 ?_
   refine yee [96,0,5,7,8] ?_
   refine ht_seq ?_
   obtain ⟨v25, hv25, h⟩:=zn h
   refine yx hn 1 ?_
   refine ys 0 ⟨lk call13 (ok_shrink_Stored _ _ hv25)⟩ ?_
   refine ym 0 ?_
   refine yx_ 1 ?_
   refine ya 1 ?_
   refine yee [96,0,5,7,8,9,10] ?_
   refine ht_seq ?_
   refine yyy hn 2 [96,5,7,8,9,10,42] ?_
   refine ht_cond _ rfl (fun hb26 => ?_) (fun hb26 => ?_)
   ·have h:=cond_t hb26 h
    refine ht_seq ?_
    refine ht_joinS h (fun (s29:Bool)=>[(96,.glob (GL mx)),(4,vb s29)]) ?_ ?_
    ·rintro s29 h
     refine pt_then (ht_ret ?_)
     refine pt_pick [1] (by kernel_rfl) (es':=[(_,_)]) rfl ?_
     refine pt_r_then ?_
     obtain rfl:=zi h
     exact pt_ret hio rfl (.tmp _ _ .nil) rfl rfl
    ·intro u30 h hl31 hr32
     refine cond_some h (fun hg10_2 h => ?_) (fun hg10_2 h => ?_)
     ·refine cond_some h (fun hg10_6 h => ?_) (fun hg10_6 h => ?_)
      ·obtain ⟨v27, hv27, h⟩:=zn h
       refine cond_some h (fun hg10_14 h => ?_) (fun hg10_14 h => ?_)
       ·obtain ⟨v28, hv28, h⟩:=zn h
        refine yx hn 3 ?_
        refine yd hg10_2 4 ?_
        refine yd hg10_6 0 ?_
        refine ym 1 ?_
        refine ym 1 ?_
        refine ys 3 ⟨lb hv27⟩ ?_
        refine yd hg10_14 0 ?_
        refine ys 2 ⟨lg call21 (ok_wherrylaw06_wakes _ _ hv28) 96⟩ ?_
        refine ye [96,4] ?_
        exact hl31 _ (zi h).symm
       ·refine yx hn 3 ?_
        refine yd hg10_2 4 ?_
        refine yd hg10_6 0 ?_
        refine ym 1 ?_
        refine ym 1 ?_
        refine ys 3 ⟨lb hv27⟩ ?_
        refine yd hg10_14 3 ?_
        refine ye [96,4] ?_
        exact hl31 _ (zi h).symm
      ·refine yx hn 3 ?_
       refine yd hg10_2 4 ?_
       refine yd hg10_6 11 ?_
       refine ye [96,4] ?_
       exact hl31 _ (zi h).symm
     ·refine yx hn 3 ?_
      refine yd hg10_2 15 ?_
      refine ye [96,4] ?_
      exact hl31 _ (zi h).symm
   ·have h:=cond_f hb26 h
    refine ht_skip ?_
    refine pt_then (ht_seq ?_)
    obtain ⟨v33, hv33, h⟩:=zn h
    refine yx hn 0 ?_
    refine ym 0 ?_
    refine ys 0 ⟨lk call22 (ok_wherryref01_Grow _ _ _ hv33)⟩ ?_
    refine ym 0 ?_
    refine yx_ 2 ?_
    refine ya 2 ?_
    refine yee [96,5,8,9,10,11,12,13] ?_
    refine ht_seq ?_
    refine ht_joinS h (fun (s37:Bool)=>[(96,.glob (GL mx)),(4,vb s37)]) ?_ ?_
    ·rintro s37 h
     refine pt_then (ht_ret ?_)
     refine pt_pick [1] (by kernel_rfl) (es':=[(_,_)]) rfl ?_
     obtain rfl:=zi h
     exact pt_ret hio rfl (.tmp _ _ .nil) rfl rfl
    ·intro u38 h hl39 hr40
     refine cond_some h (fun hg12_2 h => ?_) (fun hg12_2 h => ?_)
     ·refine cond_some h (fun hg12_6 h => ?_) (fun hg12_6 h => ?_)
      ·refine cond_some h (fun hg12_10 h => ?_) (fun hg12_10 h => ?_)
       ·refine cond_some h (fun hg12_14 h => ?_) (fun hg12_14 h => ?_)
        ·obtain ⟨v34, hv34, h⟩:=zn h
         refine cond_some h (fun hg12_19 h => ?_) (fun hg12_19 h => ?_)
         ·obtain ⟨v35, hv35, h⟩:=zn h
          refine cond_some h (fun hg12_27 h => ?_) (fun hg12_27 h => ?_)
          ·obtain ⟨v36, hv36, h⟩:=zn h
           refine yx hn 3 ?_
           refine yd hg12_2 4 ?_
           refine yd hg12_6 4 ?_
           refine yd hg12_10 4 ?_
           refine yd hg12_14 0 ?_
           refine ym 1 ?_
           refine ys 2 ⟨lk call17 (ok_wherrykeep_Bytes _ _ _ hv34)⟩ ?_
           refine yd hg12_19 0 ?_
           refine ym 1 ?_
           refine yw [82] 0 ?_
           refine ym 1 ?_
           refine ys 3 ⟨lb hv35⟩ ?_
           refine yd hg12_27 0 ?_
           refine ys 2 ⟨lg call21 (ok_wherrylaw06_wakes _ _ hv36) 96⟩ ?_
           refine ye [96,4] ?_
           exact hl39 _ (zi h).symm
          ·refine yx hn 3 ?_
           refine yd hg12_2 4 ?_
           refine yd hg12_6 4 ?_
           refine yd hg12_10 4 ?_
           refine yd hg12_14 0 ?_
           refine ym 1 ?_
           refine ys 2 ⟨lk call17 (ok_wherrykeep_Bytes _ _ _ hv34)⟩ ?_
           refine yd hg12_19 0 ?_
           refine ym 1 ?_
           refine yw [82] 0 ?_
           refine ym 1 ?_
           refine ys 3 ⟨lb hv35⟩ ?_
           refine yd hg12_27 3 ?_
           refine ye [96,4] ?_
           exact hl39 _ (zi h).symm
         ·refine yx hn 3 ?_
          refine yd hg12_2 4 ?_
          refine yd hg12_6 4 ?_
          refine yd hg12_10 4 ?_
          refine yd hg12_14 0 ?_
          refine ym 1 ?_
          refine ys 2 ⟨lk call17 (ok_wherrykeep_Bytes _ _ _ hv34)⟩ ?_
          refine yd hg12_19 11 ?_
          refine ye [96,4] ?_
          exact hl39 _ (zi h).symm
        ·refine yx hn 3 ?_
         refine yd hg12_2 4 ?_
         refine yd hg12_6 4 ?_
         refine yd hg12_10 4 ?_
         refine yd hg12_14 16 ?_
         refine ye [96,4] ?_
         exact hl39 _ (zi h).symm
       ·refine yx hn 3 ?_
        refine yd hg12_2 4 ?_
        refine yd hg12_6 4 ?_
        refine yd hg12_10 20 ?_
        refine ye [96,4] ?_
        exact hl39 _ (zi h).symm
      ·refine yx hn 3 ?_
       refine yd hg12_2 4 ?_
       refine yd hg12_6 24 ?_
       refine ye [96,4] ?_
       exact hl39 _ (zi h).symm
     ·refine yx hn 3 ?_
      refine yd hg12_2 28 ?_
      refine ye [96,4] ?_
      exact hl39 _ (zi h).symm
  ·rintro u17 hl18 hr19 ⟨s13, s14⟩ rr22 h ho20
   refine ht_seq ?_
   refine yyy hn 4 [1,96,0,5,6,24] ?_
   refine ht_cond _ rfl (fun hb23 => ?_) (fun hb23 => ?_)
   ·have h:=cond_t hb23 h
    refine ht_skip ?_
    refine pt_then (ht_seq ?_)
    refine ht_block ?_
    obtain ⟨v7, hv7, h⟩:=zn h
    obtain ⟨v8, hv8, h⟩:=zn h
    refine yx hn 3 ?_
    refine ys 0 ⟨li hv7⟩ ?_
    refine yk [5] [30,29] ?_
    refine yt (5,.fl (.own 5) 1 (map (int .u8) v8)) 0 ⟨op_store_e _ _ _ _ _ _ _ _ sz5 rfl rfl rfl (by decide) (map_lt (ix_ok hv7).2) ((map_set (f:=int .u8) _ (ix_ok hv7).2).trans (congrArg (map _) (Option.some.inj hv8)))⟩ ?_
    refine ye [1,96,0,5,6] ?_
    refine pt_inb ?_
    refine pt_then ?_
    obtain ⟨v9, hv9, h⟩:=zn h
    refine yx hn 1 ?_
    refine ys 0 ⟨lb hv9⟩ ?_
    refine yw [6] 1 ?_
    refine ye [1,96,0,5,6] ?_
    exact pt_next _ (zi h).symm rfl
   ·have h:=cond_f hb23 h
    refine ht_exit ?_
    refine pt_x_then ?_
    refine pt_x_then ?_
    refine pt_x_in ?_
    refine pt_pick [1,2,3] (by kernel_rfl) (es':=[(_,_),(_,_),(_,_)]) rfl ?_
    exact hl18 _ (ho20 _ (zi h).symm).symm

end Go.Proofs.YtkgfjkfccpjcgaaDoor
