/-
  The model's runs are what is told in Lean.
-/
import Derived.Test.YthceldoojddpiaaDoorProg
import Derived.KernelRfl
import Derived.Test.YthceldoojddpiaaDoorShelf
import Derived.Test.YthceldoojddpiaaDoorB2
import Derived.Test.YthceldoojddpiaaDoorB4
import Derived.Test.YthceldoojddpiaaDoorB5
import Derived.Test.YthceldoojddpiaaDoorB8
import Derived.Test.YthceldoojddpiaaDoorSrt
import Derived.Test.YthceldoojddpiaaDoorB9
import Derived.Test.YthceldoojddpiaaDoorShr
import Derived.Test.YthceldoojddpiaaDoorC1
import Derived.Test.YthceldoojddpiaaDoorBA
import Derived.Test.YthceldoojddpiaaDoorOkc7
set_option linter.unusedVariables false
set_option linter.unusedSimpArgs false
set_option maxHeartbeats 1000000
namespace Go.Proofs.YthceldoojddpiaaDoor
open Go.Abs Go.Abs.Sh Tryd
open List (map flatten)
open Value (int)

theorem ok_wherrylaw07_GrowTwo (mx:Int) (a:(List Int)) (b:(List Int)) (r:Bool) (h:Sh.wherrylaw07_GrowTwo a b=some r):FnG Tryd.prog (GL mx) 5 [.fl .shr 1 (map (int .u8) a), .fl .shr 1 (map (int .u8) b)] (.v (.bool r)):=by
  unfold Sh.wherrylaw07_GrowTwo at h
  refine yG 83 func5 fun g0 hn hio => ?_
  refine yyy hn 1 [0,1,83] ?_
  refine ht_seq ?_
  refine ht_seq ?_
  refine ht_joinS h (fun (s1:Bool)=>[(0,fb a),(1,fb b),(83,.glob (GL mx)),(20,vb s1)]) ?_ ?_
  ·rintro s1 h
   refine pt_then ?_
   refine ht_cond _ rfl (fun hb5 => ?_) (fun hb5 => ?_)
   ·have h:=cond_t hb5 h
    refine yyy hn 1 [83,4] ?_
    refine ht_ret ?_
    refine pt_pick [1] (by kernel_rfl) (es':=[(_,_)]) rfl ?_
    refine pt_r_then ?_
    obtain rfl:=zi h
    exact pt_ret hio rfl (.tmp _ _ .nil) rfl rfl
   ·have h:=cond_f hb5 h
    refine ht_skip ?_
    refine pt_then (ht_seq ?_)
    obtain ⟨v6, hv6, h⟩:=zn h
    refine yx hn 1 ?_
    refine ys 0 ⟨lk call17 (ok_shrink_Stored _ _ hv6)⟩ ?_
    refine ym 0 ?_
    refine yx_ 1 ?_
    refine ya 1 ?_
    refine yee [0,1,83,5,6] ?_
    refine ht_seq ?_
    obtain ⟨v7, hv7, h⟩:=zn h
    refine yx hn 1 ?_
    refine ys 0 ⟨lg call10 (ok_shrink_Shrink _ _ _ hv7) 83⟩ ?_
    refine ym 0 ?_
    refine yx_ 1 ?_
    refine ya 1 ?_
    refine yee [0,1,83,5,6,7,8] ?_
    refine ht_seq ?_
    refine ht_seq ?_
    refine ht_joinS h (fun (s8:Bool)=>[(0,fb a),(1,fb b),(83,.glob (GL mx)),(5,.fl (.own 5) 1 (map (int .u8) v6.1)),(7,.fl (.own 5) 1 (map (int .u8) v7.1)),(41,vb s8)]) ?_ ?_
    ·rintro s8 h
     refine pt_then ?_
     refine ht_cond _ rfl (fun hb12 => ?_) (fun hb12 => ?_)
     ·have h:=cond_t hb12 h
      refine yyy hn 1 [83,4] ?_
      refine ht_ret ?_
      refine pt_pick [1] (by kernel_rfl) (es':=[(_,_)]) rfl ?_
      refine pt_r_then ?_
      obtain rfl:=zi h
      exact pt_ret hio rfl (.tmp _ _ .nil) rfl rfl
     ·have h:=cond_f hb12 h
      refine ht_skip ?_
      refine pt_then (ht_seq ?_)
      obtain ⟨v13, hv13, h⟩:=zn h
      obtain ⟨v14, hv14, h⟩:=zn h
      obtain ⟨v15, hv15, h⟩:=zn h
      obtain ⟨v16, hv16, h⟩:=zn h
      obtain ⟨v17, hv17, h⟩:=zn h
      refine yx hn 2 ?_
      refine ys 0 ⟨li hv13⟩ ?_
      refine ys 0 ⟨ll hv14⟩ ?_
      refine ys 0 ⟨lb hv15⟩ ?_
      refine ys 0 ⟨li hv16⟩ ?_
      refine yk [5] [47,46] ?_
      refine yt (5,.fl (.own 5) 1 (map (int .u8) v17)) 0 ⟨op_store_e _ _ _ _ _ _ _ _ sz5 rfl rfl rfl (by decide) (map_lt (ix_ok hv16).2) ((map_set (f:=int .u8) _ (ix_ok hv16).2).trans (congrArg (map _) (Option.some.inj hv17)))⟩ ?_
      refine yee [0,1,83,5,7] ?_
      refine ht_seq ?_
      obtain ⟨v18, hv18, h⟩:=zn h
      obtain ⟨v19, hv19, h⟩:=zn h
      refine yx hn 2 ?_
      refine y2 (t:=5) [(0, fb a), (1, fb b), (83, .glob (GL mx)), (5, .fl (.own 5) 1 (map (int .u8) v17)), (7, .fl (.own 5) 1 (map (int .u8) v7.1)), (9, .fl (.own 5) 1 (map (int .u8) v19.1)), (10, .v (.int .i64 v19.2))] 51 (v17.length) ((map (int .u8) v18)) ?_ (fun k => ?_) (fun k => ?_) ?_
      ·exact op_app_keep el22 rfl rfl (map_len _) (map_len _) hv18 ((List.map_append).symm.trans (congrArg (map _) (app_eq hv18))) rfl
      ·refine yw [] 0 ?_
       refine ys 0 ⟨lg call11 (ok_grow_Grow _ _ _ _ hv19) 83⟩ ?_
       refine ym 0 ?_
       refine yx_ 1 ?_
       refine ya 1 ?_
       refine yu (d:=51) (t:=5) ((map (int .u8) v17)) (keep_take hv18) ?_
       exact yee [0,1,83,5,7,9,10] k
      ·refine yw [] 0 ?_
       refine ys 0 ⟨lg call11 (ok_grow_Grow _ _ _ _ hv19) 83⟩ ?_
       refine ym 0 ?_
       refine yx_ 1 ?_
       refine ya 1 ?_
       exact yee [0,1,83,5,7,9,10] k
      refine ht_seq ?_
      obtain ⟨v20, hv20, h⟩:=zn h
      obtain ⟨v21, hv21, h⟩:=zn h
      refine yx hn 0 ?_
      refine ym 0 ?_
      refine ym 0 ?_
      refine yp el22 hv20 0 ?_
      refine ys 0 ⟨lg call12 (ok_grow_Blocks _ _ _ hv21) 83⟩ ?_
      refine ym 4 ?_
      refine yee [0,1,83,9,10,11,12] ?_
      refine ht_seq ?_
      refine ht_joinS h (fun (s26:Bool)=>[(83,.glob (GL mx)),(4,vb s26)]) ?_ ?_
      ·rintro s26 h
       refine pt_then (ht_ret ?_)
       refine pt_pick [1] (by kernel_rfl) (es':=[(_,_)]) rfl ?_
       obtain rfl:=zi h
       exact pt_ret hio rfl (.tmp _ _ .nil) rfl rfl
      ·intro u27 h hl28 hr29
       refine cond_some h (fun hg10_2 h => ?_) (fun hg10_2 h => ?_)
       ·refine cond_some h (fun hg10_6 h => ?_) (fun hg10_6 h => ?_)
        ·refine cond_some h (fun hg10_10 h => ?_) (fun hg10_10 h => ?_)
         ·obtain ⟨v22, hv22, h⟩:=zn h
          obtain ⟨v23, hv23, h⟩:=zn h
          obtain ⟨v24, hv24, h⟩:=zn h
          refine cond_some h (fun hg10_18 h => ?_) (fun hg10_18 h => ?_)
          ·obtain ⟨v25, hv25, h⟩:=zn h
           refine yx hn 3 ?_
           refine yd hg10_2 4 ?_
           refine yd hg10_6 4 ?_
           refine yd hg10_10 0 ?_
           refine ym 1 ?_
           refine ys 1 ⟨lk call16 (ok_wherrykeep_Twin _ _ hv22)⟩ ?_
           refine yp el22 hv23 0 ?_
           refine ys 2 ⟨lk call13 (ok_wherrykeep_Bytes _ _ _ hv24)⟩ ?_
           refine yd hg10_18 0 ?_
           refine ys 2 ⟨lg call14 (ok_wherrylaw07_wakes _ _ hv25) 83⟩ ?_
           refine ye [83,4] ?_
           exact hl28 _ (zi h).symm
          ·refine yx hn 3 ?_
           refine yd hg10_2 4 ?_
           refine yd hg10_6 4 ?_
           refine yd hg10_10 0 ?_
           refine ym 1 ?_
           refine ys 1 ⟨lk call16 (ok_wherrykeep_Twin _ _ hv22)⟩ ?_
           refine yp el22 hv23 0 ?_
           refine ys 2 ⟨lk call13 (ok_wherrykeep_Bytes _ _ _ hv24)⟩ ?_
           refine yd hg10_18 3 ?_
           refine ye [83,4] ?_
           exact hl28 _ (zi h).symm
         ·refine yx hn 3 ?_
          refine yd hg10_2 4 ?_
          refine yd hg10_6 4 ?_
          refine yd hg10_10 11 ?_
          refine ye [83,4] ?_
          exact hl28 _ (zi h).symm
        ·refine yx hn 3 ?_
         refine yd hg10_2 4 ?_
         refine yd hg10_6 15 ?_
         refine ye [83,4] ?_
         exact hl28 _ (zi h).symm
       ·refine yx hn 3 ?_
        refine yd hg10_2 19 ?_
        refine ye [83,4] ?_
        exact hl28 _ (zi h).symm
    ·intro u9 h hl10 hr11
     refine cond_some h (fun hg5_2 h => ?_) (fun hg5_2 h => ?_)
     ·refine yx hn 3 ?_
      refine yd hg5_2 8 ?_
      refine ye [0,1,83,5,7,41] ?_
      exact hl10 _ (zi h).symm
     ·refine cond_some h (fun hg5_6 h => ?_) (fun hg5_6 h => ?_)
      ·refine yx hn 3 ?_
       refine yd hg5_2 4 ?_
       refine yd hg5_6 4 ?_
       refine ye [0,1,83,5,7,41] ?_
       exact hl10 _ (zi h).symm
      ·refine yx hn 3 ?_
       refine yd hg5_2 4 ?_
       refine yd hg5_6 4 ?_
       refine ye [0,1,83,5,7,41] ?_
       exact hl10 _ (zi h).symm
  ·intro u2 h hl3 hr4
   refine cond_some h (fun hg1_3 h => ?_) (fun hg1_3 h => ?_)
   ·refine yx hn 4 ?_
    refine yd hg1_3 4 ?_
    refine ye [0,1,83,20] ?_
    exact hl3 _ (zi h).symm
   ·refine yx hn 4 ?_
    refine yd hg1_3 4 ?_
    refine ye [0,1,83,20] ?_
    exact hl3 _ (zi h).symm

end Go.Proofs.YthceldoojddpiaaDoor
