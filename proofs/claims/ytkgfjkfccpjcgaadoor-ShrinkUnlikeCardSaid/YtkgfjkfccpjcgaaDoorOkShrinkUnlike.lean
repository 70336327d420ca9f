/-
  The model's runs are what is told in Lean.
-/
import Derived.Test.YtkgfjkfccpjcgaaDoorProg
import Derived.KernelRfl
import Derived.Test.YtkgfjkfccpjcgaaDoorShelf
import Derived.Test.YtkgfjkfccpjcgaaDoorB2
import Derived.Test.YtkgfjkfccpjcgaaDoorB4
import Derived.Test.YtkgfjkfccpjcgaaDoorB5
import Derived.Test.YtkgfjkfccpjcgaaDoorB8
import Derived.Test.YtkgfjkfccpjcgaaDoorSrt
import Derived.Test.YtkgfjkfccpjcgaaDoorB9
import Derived.Test.YtkgfjkfccpjcgaaDoorShr
import Derived.Test.YtkgfjkfccpjcgaaDoorC1
import Derived.Test.YtkgfjkfccpjcgaaDoorOkc7
set_option linter.unusedVariables false
set_option linter.unusedSimpArgs false
set_option maxHeartbeats 1000000
namespace Go.Proofs.YtkgfjkfccpjcgaaDoor
open Go.Abs Go.Abs.Sh Tryd
open List (map flatten)
open Value (int)

theorem ok_wherrylaw06_ShrinkUnlike (mx:Int) (a:(List Int)) (b:(List Int)) (r:Bool) (h:Sh.wherrylaw06_ShrinkUnlike a b=some r):FnG Tryd.prog (GL mx) 9 [.fl .shr 1 (map (int .u8) a), .fl .shr 1 (map (int .u8) b)] (.v (.bool r)):=by
  unfold Sh.wherrylaw06_ShrinkUnlike at h
  refine yG 76 func9 fun g0 hn hio => ?_
  refine yyy hn 1 [0,1,76] ?_
  refine ht_seq ?_
  refine ht_seq ?_
  refine ht_joinS h (fun (s1:Bool)=>[(0,fb a),(1,fb b),(76,.glob (GL mx)),(21,vb s1)]) ?_ ?_
  ·rintro s1 h
   refine pt_then ?_
   refine ht_cond _ rfl (fun hb5 => ?_) (fun hb5 => ?_)
   ·have h:=cond_t hb5 h
    refine yyy hn 1 [76,4] ?_
    refine ht_ret ?_
    refine pt_pick [1] (by kernel_rfl) (es':=[(_,_)]) rfl ?_
    refine pt_r_then ?_
    obtain rfl:=zi h
    exact pt_ret hio rfl (.tmp _ _ .nil) rfl rfl
   ·have h:=cond_f hb5 h
    refine ht_skip ?_
    refine pt_then (ht_seq ?_)
    obtain ⟨v6, hv6, h⟩:=zn h
    refine yx hn 2 ?_
    refine ys 1 ⟨lk call17 (ok_wherrykeep_Bytes _ _ _ hv6)⟩ ?_
    refine yee [0,1,76,5] ?_
    refine ht_seq ?_
    obtain ⟨v7, hv7, h⟩:=zn h
    refine yx hn 1 ?_
    refine ys 0 ⟨lg call16 (ok_shrink_Shrink _ _ _ hv7) 76⟩ ?_
    refine ym 0 ?_
    refine yx_ 1 ?_
    refine ya 1 ?_
    refine yee [0,1,76,5,6,7] ?_
    refine ht_seq ?_
    obtain ⟨v8, hv8, h⟩:=zn h
    refine yx hn 1 ?_
    refine ys 0 ⟨lg call16 (ok_shrink_Shrink _ _ _ hv8) 76⟩ ?_
    refine ym 0 ?_
    refine yx_ 1 ?_
    refine ya 1 ?_
    refine yee [0,1,76,5,6,7,8,9] ?_
    refine ht_seq ?_
    obtain ⟨v9, hv9, h⟩:=zn h
    refine yx hn 1 ?_
    refine ys 0 ⟨lg call15 (ok_shrink_Dynamic _ _ _ hv9) 76⟩ ?_
    refine ym 0 ?_
    refine yx_ 1 ?_
    refine ya 1 ?_
    refine yee [1,76,5,6,7,8,9,10,11] ?_
    refine ht_seq ?_
    obtain ⟨v10, hv10, h⟩:=zn h
    refine yx hn 1 ?_
    refine ys 0 ⟨lg call15 (ok_shrink_Dynamic _ _ _ hv10) 76⟩ ?_
    refine ym 0 ?_
    refine yx_ 1 ?_
    refine ya 1 ?_
    refine yee [76,5,6,7,8,9,10,11,12,13] ?_
    refine ht_seq ?_
    refine ht_joinS h (fun (s16:Bool)=>[(76,.glob (GL mx)),(4,vb s16)]) ?_ ?_
    ·rintro s16 h
     refine pt_then (ht_ret ?_)
     refine pt_pick [1] (by kernel_rfl) (es':=[(_,_)]) rfl ?_
     obtain rfl:=zi h
     exact pt_ret hio rfl (.tmp _ _ .nil) rfl rfl
    ·intro u17 h hl18 hr19
     refine cond_some h (fun hg8_2 h => ?_) (fun hg8_2 h => ?_)
     ·refine cond_some h (fun hg8_6 h => ?_) (fun hg8_6 h => ?_)
      ·refine cond_some h (fun hg8_10 h => ?_) (fun hg8_10 h => ?_)
       ·refine cond_some h (fun hg8_14 h => ?_) (fun hg8_14 h => ?_)
        ·obtain ⟨v11, hv11, h⟩:=zn h
         obtain ⟨v12, hv12, h⟩:=zn h
         refine cond_some h (fun hg8_21 h => ?_) (fun hg8_21 h => ?_)
         ·obtain ⟨v13, hv13, h⟩:=zn h
          obtain ⟨v14, hv14, h⟩:=zn h
          refine cond_some h (fun hg8_28 h => ?_) (fun hg8_28 h => ?_)
          ·obtain ⟨v15, hv15, h⟩:=zn h
           refine yx hn 3 ?_
           refine yd hg8_2 4 ?_
           refine yd hg8_6 4 ?_
           refine yd hg8_10 4 ?_
           refine yd hg8_14 0 ?_
           refine ym 0 ?_
           refine ym 0 ?_
           refine ys 1 ⟨lk call17 (ok_wherrykeep_Bytes _ _ _ hv11)⟩ ?_
           refine yS (vb (v11==v6)) 2 ⟨op_beq _ _ _ _ underlying4 rfl rfl⟩ ?_
           refine yd hg8_21 0 ?_
           refine ym 0 ?_
           refine ym 0 ?_
           refine ys 1 ⟨lk call17 (ok_wherrykeep_Bytes _ _ _ hv13)⟩ ?_
           refine yS (vb (v13==v6)) 2 ⟨op_beq _ _ _ _ underlying4 rfl rfl⟩ ?_
           refine yd hg8_28 0 ?_
           refine ys 2 ⟨lg call21 (ok_wherrylaw06_wakes _ _ hv15) 76⟩ ?_
           refine ye [76,4] ?_
           exact hl18 _ (zi h).symm
          ·refine yx hn 3 ?_
           refine yd hg8_2 4 ?_
           refine yd hg8_6 4 ?_
           refine yd hg8_10 4 ?_
           refine yd hg8_14 0 ?_
           refine ym 0 ?_
           refine ym 0 ?_
           refine ys 1 ⟨lk call17 (ok_wherrykeep_Bytes _ _ _ hv11)⟩ ?_
           refine yS (vb (v11==v6)) 2 ⟨op_beq _ _ _ _ underlying4 rfl rfl⟩ ?_
           refine yd hg8_21 0 ?_
           refine ym 0 ?_
           refine ym 0 ?_
           refine ys 1 ⟨lk call17 (ok_wherrykeep_Bytes _ _ _ hv13)⟩ ?_
           refine yS (vb (v13==v6)) 2 ⟨op_beq _ _ _ _ underlying4 rfl rfl⟩ ?_
           refine yd hg8_28 3 ?_
           refine ye [76,4] ?_
           exact hl18 _ (zi h).symm
         ·refine yx hn 3 ?_
          refine yd hg8_2 4 ?_
          refine yd hg8_6 4 ?_
          refine yd hg8_10 4 ?_
          refine yd hg8_14 0 ?_
          refine ym 0 ?_
          refine ym 0 ?_
          refine ys 1 ⟨lk call17 (ok_wherrykeep_Bytes _ _ _ hv11)⟩ ?_
          refine yS (vb (v11==v6)) 2 ⟨op_beq _ _ _ _ underlying4 rfl rfl⟩ ?_
          refine yd hg8_21 10 ?_
          refine ye [76,4] ?_
          exact hl18 _ (zi h).symm
        ·refine yx hn 3 ?_
         refine yd hg8_2 4 ?_
         refine yd hg8_6 4 ?_
         refine yd hg8_10 4 ?_
         refine yd hg8_14 17 ?_
         refine ye [76,4] ?_
         exact hl18 _ (zi h).symm
       ·refine yx hn 3 ?_
        refine yd hg8_2 4 ?_
        refine yd hg8_6 4 ?_
        refine yd hg8_10 21 ?_
        refine ye [76,4] ?_
        exact hl18 _ (zi h).symm
      ·refine yx hn 3 ?_
       refine yd hg8_2 4 ?_
       refine yd hg8_6 25 ?_
       refine ye [76,4] ?_
       exact hl18 _ (zi h).symm
     ·refine yx hn 3 ?_
      refine yd hg8_2 29 ?_
      refine ye [76,4] ?_
      exact hl18 _ (zi h).symm
  ·intro u2 h hl3 hr4
   refine cond_some h (fun hg1_3 h => ?_) (fun hg1_3 h => ?_)
   ·refine yx hn 4 ?_
    refine yd hg1_3 4 ?_
    refine ye [0,1,76,21] ?_
    exact hl3 _ (zi h).symm
   ·refine yx hn 4 ?_
    refine yd hg1_3 4 ?_
    refine ye [0,1,76,21] ?_
    exact hl3 _ (zi h).symm

end Go.Proofs.YtkgfjkfccpjcgaaDoor
