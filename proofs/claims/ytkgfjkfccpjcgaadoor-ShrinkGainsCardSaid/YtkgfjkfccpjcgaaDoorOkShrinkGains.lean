/-
  The model's runs are what is told in Lean.
-/
import Derived.Test.YtkgfjkfccpjcgaaDoorProg
import Derived.KernelRfl
import Derived.Test.YtkgfjkfccpjcgaaDoorShelf
import Derived.Test.YtkgfjkfccpjcgaaDoorB2
import Derived.Test.YtkgfjkfccpjcgaaDoorB4
import Derived.Test.YtkgfjkfccpjcgaaDoorB5
import Derived.Test.YtkgfjkfccpjcgaaDoorB8
import Derived.Test.YtkgfjkfccpjcgaaDoorSrt
import Derived.Test.YtkgfjkfccpjcgaaDoorB9
import Derived.Test.YtkgfjkfccpjcgaaDoorShr
import Derived.Test.YtkgfjkfccpjcgaaDoorC1
import Derived.Test.YtkgfjkfccpjcgaaDoorOkc7
set_option linter.unusedVariables false
set_option linter.unusedSimpArgs false
set_option maxHeartbeats 1000000
namespace Go.Proofs.YtkgfjkfccpjcgaaDoor
open Go.Abs Go.Abs.Sh Tryd
open List (map flatten)
open Value (int)

theorem ok_wherrylaw06_ShrinkGains (mx:Int) (b:(List Int)) (r:Bool) (h:Sh.wherrylaw06_ShrinkGains b=some r):FnG Tryd.prog (GL mx) 11 [.fl .shr 1 (map (int .u8) b)] (.v (.bool r)):=by
  unfold Sh.wherrylaw06_ShrinkGains at h
  refine yG 83 func11 fun g0 hn hio => ?_
  refine yyy hn 1 [0,83] ?_
  refine ht_seq ?_
  refine yyy hn 3 [0,83,15] ?_
  refine ht_cond _ rfl (fun hb1 => ?_) (fun hb1 => ?_)
  ·have h:=cond_t hb1 h
   refine yyy hn 1 [83,2] ?_
   refine ht_ret ?_
   refine pt_pick [1] (by kernel_rfl) (es':=[(_,_)]) rfl ?_
   refine pt_r_then ?_
   obtain rfl:=zi h
   exact pt_ret hio rfl (.tmp _ _ .nil) rfl rfl
  ·have h:=cond_f hb1 h
   refine ht_skip ?_
   refine pt_then (ht_seq ?_)
   obtain ⟨v2, hv2, h⟩:=zn h
   obtain ⟨v3, hv3, h⟩:=zn h
   refine yx hn 1 ?_
   refine ys 1 ⟨lk call12 (ok_wherrykeep_Twin _ _ hv2)⟩ ?_
   refine yp el22 hv3 0 ?_
   refine ya 0 ?_
   refine yee [0,83,3] ?_
   refine ht_seq ?_
   obtain ⟨v4, hv4, h⟩:=zn h
   refine yx hn 1 ?_
   refine ys 0 ⟨lk call14 (ok_shrink_Fixed _ _ hv4)⟩ ?_
   refine ym 0 ?_
   refine yx_ 1 ?_
   refine ya 1 ?_
   refine yee [0,83,3,4,5] ?_
   refine ht_seq ?_
   obtain ⟨v5, hv5, h⟩:=zn h
   refine yx hn 1 ?_
   refine ys 0 ⟨lk call14 (ok_shrink_Fixed _ _ hv5)⟩ ?_
   refine ym 0 ?_
   refine yx_ 1 ?_
   refine ya 1 ?_
   refine yee [0,83,3,4,5,6,7] ?_
   refine ht_seq ?_
   obtain ⟨v6, hv6, h⟩:=zn h
   refine yx hn 1 ?_
   refine ys 0 ⟨lg call16 (ok_shrink_Shrink _ _ _ hv6) 83⟩ ?_
   refine ym 0 ?_
   refine yx_ 1 ?_
   refine ya 1 ?_
   refine yee [0,83,3,4,5,6,7,8,9] ?_
   refine ht_seq ?_
   obtain ⟨v7, hv7, h⟩:=zn h
   refine yx hn 1 ?_
   refine ys 0 ⟨lk call22 (ok_wherryref01_Grow _ _ _ hv7)⟩ ?_
   refine ym 0 ?_
   refine yx_ 2 ?_
   refine ya 2 ?_
   refine yee [0,83,3,4,5,6,7,8,9,10,12] ?_
   refine ht_seq ?_
   refine ht_joinS h (fun (s14:Bool)=>[(83,.glob (GL mx)),(2,vb s14)]) ?_ ?_
   ·rintro s14 h
    refine pt_then (ht_ret ?_)
    refine pt_pick [1] (by kernel_rfl) (es':=[(_,_)]) rfl ?_
    obtain rfl:=zi h
    exact pt_ret hio rfl (.tmp _ _ .nil) rfl rfl
   ·intro u15 h hl16 hr17
    refine cond_some h (fun hg8_2 h => ?_) (fun hg8_2 h => ?_)
    ·refine cond_some h (fun hg8_6 h => ?_) (fun hg8_6 h => ?_)
     ·refine cond_some h (fun hg8_10 h => ?_) (fun hg8_10 h => ?_)
      ·refine cond_some h (fun hg8_14 h => ?_) (fun hg8_14 h => ?_)
       ·obtain ⟨v8, hv8, h⟩:=zn h
        obtain ⟨v9, hv9, h⟩:=zn h
        obtain ⟨v10, hv10, h⟩:=zn h
        obtain ⟨v11, hv11, h⟩:=zn h
        refine cond_some h (fun hg8_27 h => ?_) (fun hg8_27 h => ?_)
        ·refine cond_some h (fun hg8_34 h => ?_) (fun hg8_34 h => ?_)
         ·obtain ⟨v12, hv12, h⟩:=zn h
          refine cond_some h (fun hg8_39 h => ?_) (fun hg8_39 h => ?_)
          ·obtain ⟨v13, hv13, h⟩:=zn h
           refine yx hn 3 ?_
           refine yd hg8_2 4 ?_
           refine yd hg8_6 4 ?_
           refine yd hg8_10 4 ?_
           refine yd hg8_14 2 ?_
           refine ym 3 ?_
           refine ys 0 ⟨lB (quo_ok hv8)⟩ ?_
           refine ys 0 ⟨lb hv9⟩ ?_
           refine ys 0 ⟨lb hv10⟩ ?_
           refine ys 3 ⟨lb hv11⟩ ?_
           refine yd hg8_27 0 ?_
           refine ym 1 ?_
           refine yw [56] 0 ?_
           refine ym 4 ?_
           refine yd hg8_34 0 ?_
           refine ym 0 ?_
           refine ym 0 ?_
           refine ys 2 ⟨lk call17 (ok_wherrykeep_Bytes _ _ _ hv12)⟩ ?_
           refine yd hg8_39 0 ?_
           refine ys 2 ⟨lg call21 (ok_wherrylaw06_wakes _ _ hv13) 83⟩ ?_
           refine ye [83,2] ?_
           exact hl16 _ (zi h).symm
          ·refine yx hn 3 ?_
           refine yd hg8_2 4 ?_
           refine yd hg8_6 4 ?_
           refine yd hg8_10 4 ?_
           refine yd hg8_14 2 ?_
           refine ym 3 ?_
           refine ys 0 ⟨lB (quo_ok hv8)⟩ ?_
           refine ys 0 ⟨lb hv9⟩ ?_
           refine ys 0 ⟨lb hv10⟩ ?_
           refine ys 3 ⟨lb hv11⟩ ?_
           refine yd hg8_27 0 ?_
           refine ym 1 ?_
           refine yw [56] 0 ?_
           refine ym 4 ?_
           refine yd hg8_34 0 ?_
           refine ym 0 ?_
           refine ym 0 ?_
           refine ys 2 ⟨lk call17 (ok_wherrykeep_Bytes _ _ _ hv12)⟩ ?_
           refine yd hg8_39 3 ?_
           refine ye [83,2] ?_
           exact hl16 _ (zi h).symm
         ·refine yx hn 3 ?_
          refine yd hg8_2 4 ?_
          refine yd hg8_6 4 ?_
          refine yd hg8_10 4 ?_
          refine yd hg8_14 2 ?_
          refine ym 3 ?_
          refine ys 0 ⟨lB (quo_ok hv8)⟩ ?_
          refine ys 0 ⟨lb hv9⟩ ?_
          refine ys 0 ⟨lb hv10⟩ ?_
          refine ys 3 ⟨lb hv11⟩ ?_
          refine yd hg8_27 0 ?_
          refine ym 1 ?_
          refine yw [56] 0 ?_
          refine ym 4 ?_
          refine yd hg8_34 8 ?_
          refine ye [83,2] ?_
          exact hl16 _ (zi h).symm
        ·refine yx hn 3 ?_
         refine yd hg8_2 4 ?_
         refine yd hg8_6 4 ?_
         refine yd hg8_10 4 ?_
         refine yd hg8_14 2 ?_
         refine ym 3 ?_
         refine ys 0 ⟨lB (quo_ok hv8)⟩ ?_
         refine ys 0 ⟨lb hv9⟩ ?_
         refine ys 0 ⟨lb hv10⟩ ?_
         refine ys 3 ⟨lb hv11⟩ ?_
         refine yd hg8_27 15 ?_
         refine ye [83,2] ?_
         exact hl16 _ (zi h).symm
       ·refine yx hn 3 ?_
        refine yd hg8_2 4 ?_
        refine yd hg8_6 4 ?_
        refine yd hg8_10 4 ?_
        refine yd hg8_14 28 ?_
        refine ye [83,2] ?_
        exact hl16 _ (zi h).symm
      ·refine yx hn 3 ?_
       refine yd hg8_2 4 ?_
       refine yd hg8_6 4 ?_
       refine yd hg8_10 32 ?_
       refine ye [83,2] ?_
       exact hl16 _ (zi h).symm
     ·refine yx hn 3 ?_
      refine yd hg8_2 4 ?_
      refine yd hg8_6 36 ?_
      refine ye [83,2] ?_
      exact hl16 _ (zi h).symm
    ·refine yx hn 3 ?_
     refine yd hg8_2 40 ?_
     refine ye [83,2] ?_
     exact hl16 _ (zi h).symm

end Go.Proofs.YtkgfjkfccpjcgaaDoor
