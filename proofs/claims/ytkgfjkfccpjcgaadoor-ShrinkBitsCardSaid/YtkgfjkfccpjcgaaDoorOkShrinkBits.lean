/-
  The model's runs are what is told in Lean.
-/
import Derived.Test.YtkgfjkfccpjcgaaDoorProg
import Derived.KernelRfl
import Derived.Test.YtkgfjkfccpjcgaaDoorShelf
import Derived.Test.YtkgfjkfccpjcgaaDoorB2
import Derived.Test.YtkgfjkfccpjcgaaDoorB4
import Derived.Test.YtkgfjkfccpjcgaaDoorB5
import Derived.Test.YtkgfjkfccpjcgaaDoorB8
import Derived.Test.YtkgfjkfccpjcgaaDoorSrt
import Derived.Test.YtkgfjkfccpjcgaaDoorB9
import Derived.Test.YtkgfjkfccpjcgaaDoorShr
import Derived.Test.YtkgfjkfccpjcgaaDoorC1
import Derived.Test.YtkgfjkfccpjcgaaDoorOkc6
set_option linter.unusedVariables false
set_option linter.unusedSimpArgs false
set_option maxHeartbeats 1000000
namespace Go.Proofs.YtkgfjkfccpjcgaaDoor
open Go.Abs Go.Abs.Sh Tryd
open List (map flatten)
open Value (int)

theorem ok_wherrylaw06_ShrinkBits (mx : Int) (b : (List Int)) (r : Bool) (h : Sh.wherrylaw06_ShrinkBits b = some r) : FnG Tryd.prog (GL mx) 8 [.fl .shr 1 (map (int .u8) b)] (.v (.bool r)) := by
  unfold Sh.wherrylaw06_ShrinkBits at h
  refine yG 129 func8 fun g0 hn hio => ?_
  refine yyy hn 1 [0,129] ?_
  refine ht_seq ?_
  refine yyy hn 3 [0,129,26] ?_
  refine ht_cond _ rfl (fun hb1 => ?_) (fun hb1 => ?_)
  ·have h := cond_t hb1 h
   refine yyy hn 1 [129,2] ?_
   refine ht_ret ?_
   refine pt_pick [1] (by kernel_rfl) (es' := [(_,_)]) rfl ?_
   refine pt_r_then ?_
   obtain rfl := zi h
   exact pt_ret hio rfl (.tmp _ _ .nil) rfl rfl
  ·have h := cond_f hb1 h
   refine ht_skip ?_
   refine pt_then (ht_seq ?_)
   obtain ⟨v2, hv2, h⟩ := zn h
   refine yx hn 1 ?_
   refine ys 0 ⟨lk call27 (ok_wherryref01_Tokens _ _ hv2)⟩ ?_
   refine ym 0 ?_
   refine yx_ 1 ?_
   refine ya 1 ?_
   refine yee [0,129,3,4] ?_
   refine ht_seq ?_
   obtain ⟨v3, hv3, h⟩ := zn h
   refine yx hn 1 ?_
   refine ys 0 ⟨lk call28 (ok_wherryref01_Weights _ _ hv3)⟩ ?_
   refine ym 0 ?_
   refine yx_ 0 ?_
   refine yx_ 1 ?_
   refine ya 0 ?_
   refine ya 1 ?_
   refine yee [0,129,3,4,5,6,7] ?_
   refine ht_seq ?_
   obtain ⟨v4, hv4, h⟩ := zn h
   refine yx hn 0 ?_
   refine ys 0 ⟨lk call29 (ok_wherryref01_Fixed _ hv4)⟩ ?_
   refine ym 0 ?_
   refine yx_ 0 ?_
   refine yx_ 0 ?_
   refine ya 0 ?_
   refine ya 0 ?_
   refine yee [0,129,3,4,5,6,7,8,9] ?_
   refine ht_seq ?_
   refine ht_seq ?_
   refine ht_joinS h (fun (s5 : Bool) => [(0,fb b),(129,.glob (GL mx)),(3,.fl (.own 53) 3 (flatten (map T_Tok.enc v2.1))),(5,.fl (.own 3) 1 (map (int .i64) v3.1)),(6,.fl (.own 3) 1 (map (int .i64) v3.2.1)),(8,.fl (.own 3) 1 (map (int .i64) v4.1)),(9,.fl (.own 3) 1 (map (int .i64) v4.2)),(47,vb s5)]) ?_ ?_
   ·rintro s5 h
    refine pt_then ?_
    refine ht_cond _ rfl (fun hb9 => ?_) (fun hb9 => ?_)
    ·have h := cond_t hb9 h
     refine yyy hn 1 [129,2] ?_
     refine ht_ret ?_
     refine pt_pick [1] (by kernel_rfl) (es' := [(_,_)]) rfl ?_
     refine pt_r_then ?_
     obtain rfl := zi h
     exact pt_ret hio rfl (.tmp _ _ .nil) rfl rfl
    ·have h := cond_f hb9 h
     refine ht_skip ?_
     refine pt_then (ht_seq ?_)
     refine ht_frz 5 hio (es' := [(0, fb b), (129, .glob (GL mx)), (3, .fl (.own 53) 3 (flatten (map T_Tok.enc v2.1))), (5, .fl (.own 3) 1 (map (int .i64) v3.1)), (6, .fl (.own 3) 1 (map (int .i64) v3.2.1)), (8, .fl .ro 1 (map (int .i64) v4.1)), (9, .fl (.own 3) 1 (map (int .i64) v4.2)), (47, .v (.bool s5))]) rfl ?_
     obtain ⟨v10, hv10, h⟩ := zn h
     obtain ⟨v11, hv11, h⟩ := zn h
     refine yx hn 0 ?_
     refine ym 1 ?_
     refine yS (.fl .ro 1 (map (int .i64) v10)) 0 ⟨op_sl _ _ _ 0 286 _ underlying37 sz3 rfl rfl rfl ⟨_,rfl⟩ hv10⟩ ?_
     refine ys 0 ⟨lk call30 (ok_tree_Cost _ _ _ hv11)⟩ ?_
     refine ym 4 ?_
     refine yee [0,129,3,6,9,10,11] ?_
     refine ht_seq ?_
     refine ht_frz 4 hio (es' := [(0, fb b), (129, .glob (GL mx)), (3, .fl (.own 53) 3 (flatten (map T_Tok.enc v2.1))), (6, .fl (.own 3) 1 (map (int .i64) v3.2.1)), (9, .fl .ro 1 (map (int .i64) v4.2)), (10, .v (.int .i64 v11.1)), (11, .v (.int .i64 v11.2))]) rfl ?_
     obtain ⟨v12, hv12, h⟩ := zn h
     obtain ⟨v13, hv13, h⟩ := zn h
     refine yx hn 0 ?_
     refine ym 1 ?_
     refine yS (.fl .ro 1 (map (int .i64) v12)) 0 ⟨op_sl _ _ _ 0 30 _ underlying37 sz3 rfl rfl rfl ⟨_,rfl⟩ hv12⟩ ?_
     refine ys 0 ⟨lk call30 (ok_tree_Cost _ _ _ hv13)⟩ ?_
     refine ym 4 ?_
     refine yee [0,129,3,10,11,12,13] ?_
     refine ht_seq ?_
     refine ht_seq ?_
     refine ht_joinS h (fun (s14 : Bool) => [(0,fb b),(129,.glob (GL mx)),(3,.fl (.own 53) 3 (flatten (map T_Tok.enc v2.1))),(10,vi v11.1),(12,vi v13.1),(67,vb s14)]) ?_ ?_
     ·rintro s14 h
      refine pt_then ?_
      refine ht_cond _ rfl (fun hb18 => ?_) (fun hb18 => ?_)
      ·have h := cond_t hb18 h
       refine yyy hn 1 [129,2] ?_
       refine ht_ret ?_
       refine pt_pick [1] (by kernel_rfl) (es' := [(_,_)]) rfl ?_
       refine pt_r_then ?_
       obtain rfl := zi h
       exact pt_ret hio rfl (.tmp _ _ .nil) rfl rfl
      ·have h := cond_f hb18 h
       refine ht_skip ?_
       refine pt_then (ht_seq ?_)
       obtain ⟨v19, hv19, h⟩ := zn h
       obtain ⟨v20, hv20, h⟩ := zn h
       refine yx hn 1 ?_
       refine ys 1 ⟨lb hv19⟩ ?_
       refine ys 0 ⟨lb hv20⟩ ?_
       refine yw [10] 1 ?_
       refine yee [0,129,3,10] ?_
       refine ht_seq ?_
       refine yyy hn 1 [0,129,3,10,14] ?_
       refine ht_loopS h (fun ((s48,s49) : Int × Int) => [(0,fb b),(129,.glob (GL mx)),(3,.fl (.own 53) 3 (flatten (map T_Tok.enc v2.1))),(10,vi s48),(14,vi s49)]) (fun (s57 : Int) => [(0,fb b),(129,.glob (GL mx)),(10,vi s57)]) ?_ ?_
       ·rintro s57 h
        refine pt_then (ht_seq ?_)
        obtain ⟨v71, hv71, h⟩ := zn h
        refine yx hn 1 ?_
        refine ys 0 ⟨lk call14 (ok_shrink_Fixed _ _ hv71)⟩ ?_
        refine ym 0 ?_
        refine yx_ 1 ?_
        refine ya 1 ?_
        refine yee [129,10,23,4] ?_
        refine ht_seq ?_
        refine ht_joinS h (fun (s75 : Bool) => [(129,.glob (GL mx)),(2,vb s75)]) ?_ ?_
        ·rintro s75 h
         refine pt_then (ht_ret ?_)
         refine pt_pick [1] (by kernel_rfl) (es' := [(_,_)]) rfl ?_
         obtain rfl := zi h
         exact pt_ret hio rfl (.tmp _ _ .nil) rfl rfl
        ·intro u76 h hl77 hr78
         refine cond_some h (fun hg21_2 h => ?_) (fun hg21_2 h => ?_)
         ·obtain ⟨v72, hv72, h⟩ := zn h
          obtain ⟨v73, hv73, h⟩ := zn h
          refine cond_some h (fun hg21_10 h => ?_) (fun hg21_10 h => ?_)
          ·obtain ⟨v74, hv74, h⟩ := zn h
           refine yx hn 3 ?_
           refine yd hg21_2 0 ?_
           refine ym 2 ?_
           refine ys 0 ⟨lb hv72⟩ ?_
           refine ys 3 ⟨lB (quo_ok hv73)⟩ ?_
           refine yd hg21_10 0 ?_
           refine ys 2 ⟨lg call21 (ok_wherrylaw06_wakes _ _ hv74) 129⟩ ?_
           refine ye [129,2] ?_
           exact hl77 _ (zi h).symm
          ·refine yx hn 3 ?_
           refine yd hg21_2 0 ?_
           refine ym 2 ?_
           refine ys 0 ⟨lb hv72⟩ ?_
           refine ys 3 ⟨lB (quo_ok hv73)⟩ ?_
           refine yd hg21_10 3 ?_
           refine ye [129,2] ?_
           exact hl77 _ (zi h).symm
         ·refine yx hn 3 ?_
          refine yd hg21_2 11 ?_
          refine ye [129,2] ?_
          exact hl77 _ (zi h).symm
       ·rintro u58 hl59 hr60 ⟨s48, s49⟩ rr63 h ho61
        refine ht_seq ?_
        refine yyy hn 4 [0,129,3,10,14,75] ?_
        refine ht_cond _ rfl (fun hb64 => ?_) (fun hb64 => ?_)
        ·have h := cond_t hb64 h
         refine ht_skip ?_
         refine pt_then (ht_seq ?_)
         refine ht_joinS h (fun (s66 : Int) => [(0,fb b),(129,.glob (GL mx)),(3,.fl (.own 53) 3 (flatten (map T_Tok.enc v2.1))),(14,vi s49),(10,vi s66)]) ?_ ?_
         ·rintro s66 h
          refine pt_then ?_
          obtain ⟨v38, hv38, h⟩ := zn h
          refine yx hn 1 ?_
          refine ys 0 ⟨lb hv38⟩ ?_
          refine yw [14] 1 ?_
          refine ye [0,129,3,10,14] ?_
          exact pt_next _ (zi h).symm rfl
         ·intro u67 h hl68 hr69
          refine ht_block ?_
          refine ht_seq ?_
          obtain ⟨v22, hv22, h⟩ := zn h
          obtain ⟨v23, hv23, h⟩ := zn h
          refine yx hn 2 ?_
          refine ys 1 ⟨lj hv22⟩ ?_
          refine ys 1 ⟨lL hv23⟩ ?_
          refine yee [0,129,3,10,14,83] ?_
          refine ht_cond _ rfl (fun hb70 => ?_) (fun hb70 => ?_)
          ·have h := cond_t hb70 h
           refine ht_seq ?_
           obtain ⟨v25, hv25, h⟩ := zn h
           obtain ⟨v26, hv26, h⟩ := zn h
           obtain ⟨v27, hv27, h⟩ := zn h
           refine yx hn 2 ?_
           refine ys 1 ⟨lj hv25⟩ ?_
           refine ys 0 ⟨lL hv26⟩ ?_
           refine ys 0 ⟨lk call31 (ok_wherryref01_Len _ _ hv27)⟩ ?_
           refine ym 8 ?_
           refine yee [0,129,3,10,14,16] ?_
           refine ht_seq ?_
           obtain ⟨v28, hv28, h⟩ := zn h
           obtain ⟨v29, hv29, h⟩ := zn h
           obtain ⟨v30, hv30, h⟩ := zn h
           refine yx hn 2 ?_
           refine ys 1 ⟨lj hv28⟩ ?_
           refine ys 0 ⟨lL hv29⟩ ?_
           refine ys 0 ⟨lk call32 (ok_wherryref01_Dist _ _ hv30)⟩ ?_
           refine ym 8 ?_
           refine yee [0,129,3,10,14,16,20] ?_
           obtain ⟨v31, hv31, h⟩ := zn h
           obtain ⟨v32, hv32, h⟩ := zn h
           refine yx hn 2 ?_
           refine ys 1 ⟨lb hv31⟩ ?_
           refine ys 0 ⟨lb hv32⟩ ?_
           refine yw [10] 1 ?_
           refine ye [0,129,3,14,10] ?_
           refine pt_inb ?_
           exact hl68 _ (zi h).symm
          ·have h := cond_f hb70 h
           refine ht_skip ?_
           refine pt_inb ?_
           refine pt_pick [0,1,2,4,3] (by kernel_rfl) (es' := [(_,_),(_,_),(_,_),(_,_),(_,_)]) rfl ?_
           exact hl68 _ (zi h).symm
        ·have h := cond_f hb64 h
         refine ht_exit ?_
         refine pt_x_then ?_
         refine pt_x_then ?_
         refine pt_x_in ?_
         refine pt_pick [0,1,3] (by kernel_rfl) (es' := [(_,_),(_,_),(_,_)]) rfl ?_
         exact hl59 _ (ho61 _ (zi h).symm).symm
     ·intro u15 h hl16 hr17
      refine cond_some h (fun hg10_2 h => ?_) (fun hg10_2 h => ?_)
      ·refine yx hn 3 ?_
       refine yd hg10_2 3 ?_
       refine ye [0,129,3,10,12,67] ?_
       exact hl16 _ (zi h).symm
      ·refine yx hn 3 ?_
       refine yd hg10_2 3 ?_
       refine ye [0,129,3,10,12,67] ?_
       exact hl16 _ (zi h).symm
   ·intro u6 h hl7 hr8
    refine cond_some h (fun hg6_2 h => ?_) (fun hg6_2 h => ?_)
    ·refine yx hn 3 ?_
     refine yd hg6_2 3 ?_
     refine ye [0,129,3,5,6,8,9,47] ?_
     exact hl7 _ (zi h).symm
    ·refine yx hn 3 ?_
     refine yd hg6_2 3 ?_
     refine ye [0,129,3,5,6,8,9,47] ?_
     exact hl7 _ (zi h).symm

end Go.Proofs.YtkgfjkfccpjcgaaDoor
