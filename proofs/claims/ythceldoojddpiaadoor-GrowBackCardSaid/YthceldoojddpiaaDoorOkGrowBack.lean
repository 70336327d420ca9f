/-
  The model's runs are what is told in Lean.
-/
import Derived.Test.YthceldoojddpiaaDoorProg
import Derived.KernelRfl
import Derived.Test.YthceldoojddpiaaDoorShelf
import Derived.Test.YthceldoojddpiaaDoorB2
import Derived.Test.YthceldoojddpiaaDoorB4
import Derived.Test.YthceldoojddpiaaDoorB5
import Derived.Test.YthceldoojddpiaaDoorB8
import Derived.Test.YthceldoojddpiaaDoorSrt
import Derived.Test.YthceldoojddpiaaDoorB9
import Derived.Test.YthceldoojddpiaaDoorShr
import Derived.Test.YthceldoojddpiaaDoorC1
import Derived.Test.YthceldoojddpiaaDoorOkc7
set_option linter.unusedVariables false
set_option linter.unusedSimpArgs false
set_option maxHeartbeats 1000000
namespace Go.Proofs.YthceldoojddpiaaDoor
open Go.Abs Go.Abs.Sh Tryd
open List (map flatten)
open Value (int)

theorem ok_wherrylaw07_GrowBack (mx:Int) (b:(List Int)) (r:Bool) (h:Sh.wherrylaw07_GrowBack b=some r):FnG Tryd.prog (GL mx) 3 [.fl .shr 1 (map (int .u8) b)] (.v (.bool r)):=by
  unfold Sh.wherrylaw07_GrowBack at h
  refine yG 73 func3 fun g0 hn hio => ?_
  refine yyy hn 1 [0,73] ?_
  refine ht_seq ?_
  refine yyy hn 3 [0,73,13] ?_
  refine ht_cond _ rfl (fun hb1 => ?_) (fun hb1 => ?_)
  ·have h:=cond_t hb1 h
   refine yyy hn 1 [73,2] ?_
   refine ht_ret ?_
   refine pt_pick [1] (by kernel_rfl) (es':=[(_,_)]) rfl ?_
   refine pt_r_then ?_
   obtain rfl:=zi h
   exact pt_ret hio rfl (.tmp _ _ .nil) rfl rfl
  ·have h:=cond_f hb1 h
   refine ht_skip ?_
   refine pt_then (ht_seq ?_)
   obtain ⟨v2, hv2, h⟩:=zn h
   refine yx hn 1 ?_
   refine ys 0 ⟨lg call10 (ok_shrink_Shrink _ _ _ hv2) 73⟩ ?_
   refine ym 0 ?_
   refine yx_ 1 ?_
   refine ya 1 ?_
   refine yee [0,73,3,4] ?_
   refine ht_seq ?_
   obtain ⟨v3, hv3, h⟩:=zn h
   refine yx hn 3 ?_
   refine ys 0 ⟨lg call11 (ok_grow_Grow _ _ _ _ hv3) 73⟩ ?_
   refine ym 0 ?_
   refine yx_ 1 ?_
   refine ya 1 ?_
   refine yee [0,73,3,4,5,6] ?_
   refine ht_seq ?_
   obtain ⟨v4, hv4, h⟩:=zn h
   refine yx hn 1 ?_
   refine ys 0 ⟨lg call12 (ok_grow_Blocks _ _ _ hv4) 73⟩ ?_
   refine ym 4 ?_
   refine yee [0,73,3,4,5,6,7,8] ?_
   refine ht_seq ?_
   refine ht_seq ?_
   refine ht_joinS h (fun (s6:Bool)=>[(0,fb b),(73,.glob (GL mx)),(3,.fl (.own 5) 1 (map (int .u8) v2.1)),(50,vb s6)]) ?_ ?_
   ·rintro s6 h
    refine pt_then ?_
    refine ht_cond _ rfl (fun hb10 => ?_) (fun hb10 => ?_)
    ·have h:=cond_t hb10 h
     refine yyy hn 1 [73,2] ?_
     refine ht_ret ?_
     refine pt_pick [1] (by kernel_rfl) (es':=[(_,_)]) rfl ?_
     refine pt_r_then ?_
     obtain rfl:=zi h
     exact pt_ret hio rfl (.tmp _ _ .nil) rfl rfl
    ·have h:=cond_f hb10 h
     refine ht_skip ?_
     refine pt_then (ht_seq ?_)
     refine yyy hn 3 [0,73,3,53] ?_
     refine ht_cond _ rfl (fun hb11 => ?_) (fun hb11 => ?_)
     ·have h:=cond_t hb11 h
      refine ht_seq ?_
      obtain ⟨v12, hv12, h⟩:=zn h
      refine yx hn 0 ?_
      refine ys 1 ⟨lg call14 (ok_wherrylaw07_wakes _ _ hv12) 73⟩ ?_
      refine yee [73,2] ?_
      refine ht_ret ?_
      refine pt_pick [1] (by kernel_rfl) (es':=[(_,_)]) rfl ?_
      refine pt_r_then ?_
      obtain rfl:=zi h
      exact pt_ret hio rfl (.tmp _ _ .nil) rfl rfl
     ·have h:=cond_f hb11 h
      refine ht_skip ?_
      refine pt_then (ht_seq ?_)
      obtain ⟨v13, hv13, h⟩:=zn h
      obtain ⟨v14, hv14, h⟩:=zn h
      refine yx hn 0 ?_
      refine ym 2 ?_
      refine ys 0 ⟨lb hv13⟩ ?_
      refine ys 0 ⟨lg call11 (ok_grow_Grow _ _ _ _ hv14) 73⟩ ?_
      refine ym 0 ?_
      refine yx_ 1 ?_
      refine ya 1 ?_
      refine yee [73,9,10] ?_
      refine ht_seq ?_
      refine ht_joinS h (fun (s16:Bool)=>[(73,.glob (GL mx)),(2,vb s16)]) ?_ ?_
      ·rintro s16 h
       refine pt_then (ht_ret ?_)
       refine pt_pick [1] (by kernel_rfl) (es':=[(_,_)]) rfl ?_
       obtain rfl:=zi h
       exact pt_ret hio rfl (.tmp _ _ .nil) rfl rfl
      ·intro u17 h hl18 hr19
       refine cond_some h (fun hg11_2 h => ?_) (fun hg11_2 h => ?_)
       ·refine cond_some h (fun hg11_7 h => ?_) (fun hg11_7 h => ?_)
        ·obtain ⟨v15, hv15, h⟩:=zn h
         refine yx hn 3 ?_
         refine yd hg11_2 0 ?_
         refine ym 4 ?_
         refine yd hg11_7 0 ?_
         refine ys 2 ⟨lg call14 (ok_wherrylaw07_wakes _ _ hv15) 73⟩ ?_
         refine ye [73,2] ?_
         exact hl18 _ (zi h).symm
        ·refine yx hn 3 ?_
         refine yd hg11_2 0 ?_
         refine ym 4 ?_
         refine yd hg11_7 3 ?_
         refine ye [73,2] ?_
         exact hl18 _ (zi h).symm
       ·refine yx hn 3 ?_
        refine yd hg11_2 8 ?_
        refine ye [73,2] ?_
        exact hl18 _ (zi h).symm
   ·intro u7 h hl8 hr9
    refine cond_some h (fun hg6_2 h => ?_) (fun hg6_2 h => ?_)
    ·refine yx hn 3 ?_
     refine yd hg6_2 17 ?_
     refine ye [0,73,3,50] ?_
     exact hl8 _ (zi h).symm
    ·refine cond_some h (fun hg6_6 h => ?_) (fun hg6_6 h => ?_)
     ·refine yx hn 3 ?_
      refine yd hg6_2 4 ?_
      refine yd hg6_6 13 ?_
      refine ye [0,73,3,50] ?_
      exact hl8 _ (zi h).symm
     ·refine cond_some h (fun hg6_10 h => ?_) (fun hg6_10 h => ?_)
      ·refine yx hn 3 ?_
       refine yd hg6_2 4 ?_
       refine yd hg6_6 4 ?_
       refine yd hg6_10 9 ?_
       refine ye [0,73,3,50] ?_
       exact hl8 _ (zi h).symm
      ·refine cond_some h (fun hg6_14 h => ?_) (fun hg6_14 h => ?_)
       ·refine yx hn 3 ?_
        refine yd hg6_2 4 ?_
        refine yd hg6_6 4 ?_
        refine yd hg6_10 4 ?_
        refine yd hg6_14 5 ?_
        refine ye [0,73,3,50] ?_
        exact hl8 _ (zi h).symm
       ·obtain ⟨v5, hv5, h⟩:=zn h
        refine yx hn 3 ?_
        refine yd hg6_2 4 ?_
        refine yd hg6_6 4 ?_
        refine yd hg6_10 4 ?_
        refine yd hg6_14 0 ?_
        refine ym 1 ?_
        refine ys 2 ⟨lk call13 (ok_wherrykeep_Bytes _ _ _ hv5)⟩ ?_
        refine ye [0,73,3,50] ?_
        exact hl8 _ (zi h).symm

end Go.Proofs.YthceldoojddpiaaDoor
