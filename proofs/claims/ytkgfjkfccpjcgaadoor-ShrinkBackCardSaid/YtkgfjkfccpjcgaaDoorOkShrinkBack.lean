/-
  The model's runs are what is told in Lean.
-/
import Derived.Test.YtkgfjkfccpjcgaaDoorProg
import Derived.KernelRfl
import Derived.Test.YtkgfjkfccpjcgaaDoorShelf
import Derived.Test.YtkgfjkfccpjcgaaDoorB2
import Derived.Test.YtkgfjkfccpjcgaaDoorB4
import Derived.Test.YtkgfjkfccpjcgaaDoorB5
import Derived.Test.YtkgfjkfccpjcgaaDoorB8
import Derived.Test.YtkgfjkfccpjcgaaDoorSrt
import Derived.Test.YtkgfjkfccpjcgaaDoorB9
import Derived.Test.YtkgfjkfccpjcgaaDoorShr
import Derived.Test.YtkgfjkfccpjcgaaDoorC1
import Derived.Test.YtkgfjkfccpjcgaaDoorOkc7
set_option linter.unusedVariables false
set_option linter.unusedSimpArgs false
set_option maxHeartbeats 1000000
namespace Go.Proofs.YtkgfjkfccpjcgaaDoor
open Go.Abs Go.Abs.Sh Tryd
open List (map flatten)
open Value (int)

theorem ok_wherrylaw06_ShrinkBack (mx:Int) (b:(List Int)) (r:Bool) (h:Sh.wherrylaw06_ShrinkBack b=some r):FnG Tryd.prog (GL mx) 4 [.fl .shr 1 (map (int .u8) b)] (.v (.bool r)):=by
  unfold Sh.wherrylaw06_ShrinkBack at h
  refine yG 66 func4 fun g0 hn hio => ?_
  refine yyy hn 1 [0,66] ?_
  refine ht_seq ?_
  refine yyy hn 3 [0,66,11] ?_
  refine ht_cond _ rfl (fun hb1 => ?_) (fun hb1 => ?_)
  ·have h:=cond_t hb1 h
   refine yyy hn 1 [66,2] ?_
   refine ht_ret ?_
   refine pt_pick [1] (by kernel_rfl) (es':=[(_,_)]) rfl ?_
   refine pt_r_then ?_
   obtain rfl:=zi h
   exact pt_ret hio rfl (.tmp _ _ .nil) rfl rfl
  ·have h:=cond_f hb1 h
   refine ht_skip ?_
   refine pt_then (ht_seq ?_)
   refine yyy hn 1 [0,66,3] ?_
   refine ht_loopS h (fun (s76:Int)=>[(0,fb b),(66,.glob (GL mx)),(3,vi s76)]) (fun (():Unit)=>[(66,.glob (GL mx))]) ?_ ?_
   ·rintro ⟨⟩ h
    refine pt_then (ht_seq ?_)
    obtain ⟨v149, hv149, h⟩:=zn h
    refine yx hn 0 ?_
    refine ys 1 ⟨lg call21 (ok_wherrylaw06_wakes _ _ hv149) 66⟩ ?_
    refine yee [66,2] ?_
    refine ht_ret ?_
    refine pt_pick [1] (by kernel_rfl) (es':=[(_,_)]) rfl ?_
    obtain rfl:=zi h
    exact pt_ret hio rfl (.tmp _ _ .nil) rfl rfl
   ·rintro u110 hl111 hr112 s76 rr115 h ho113
    refine ht_seq ?_
    refine yyy hn 2 [0,66,3,13] ?_
    refine ht_cond _ rfl (fun hb116 => ?_) (fun hb116 => ?_)
    ·have h:=cond_t hb116 h
     refine ht_skip ?_
     refine pt_then (ht_seq ?_)
     refine ht_block ?_
     refine yyy hn 1 [0,66,3] ?_
     refine yyy hn 1 [0,66,3] ?_
     refine ht_seq ?_
     refine ht_joinS h (fun ((s128,s129):(List Int)×Int)=>[(0,fb b),(66,.glob (GL mx)),(3,vi s76),(4,.fl (.own 5) 1 (map (int .u8) s128)),(5,vi s129)]) ?_ ?_
     ·rintro ⟨s128, s129⟩ h
      refine pt_then (ht_seq ?_)
      obtain ⟨v34, hv34, h⟩:=zn h
      refine yx hn 0 ?_
      refine ym 0 ?_
      refine ys 0 ⟨lk call22 (ok_wherryref01_Grow _ _ _ hv34)⟩ ?_
      refine ym 0 ?_
      refine yx_ 2 ?_
      refine ya 2 ?_
      refine yee [0,66,3,5,6,7,8] ?_
      refine ht_seq ?_
      refine ht_joinS h (fun (s144:Bool)=>[(0,fb b),(66,.glob (GL mx)),(3,vi s76),(64,vb s144)]) ?_ ?_
      ·rintro s144 h
       refine pt_then ?_
       refine ht_cond _ rfl (fun hb148 => ?_) (fun hb148 => ?_)
       ·have h:=cond_t hb148 h
        refine yyy hn 1 [66,2] ?_
        refine ht_ret ?_
        refine pt_pick [1] (by kernel_rfl) (es':=[(_,_)]) rfl ?_
        refine pt_r_in ?_
        refine pt_r_then ?_
        refine pt_r_then ?_
        refine pt_r_in ?_
        refine pt_r_then ?_
        have h:=hr112 _ (ho113 _ (zi h).symm).symm
        obtain rfl:=zi h
        exact pt_ret hio rfl (.tmp _ _ .nil) rfl rfl
       ·have h:=cond_f hb148 h
        refine ht_skip ?_
        refine pt_inb ?_
        refine pt_then ?_
        obtain ⟨v41, hv41, h⟩:=zn h
        refine yx hn 1 ?_
        refine ys 0 ⟨lb hv41⟩ ?_
        refine yw [3] 1 ?_
        refine ye [0,66,3] ?_
        exact pt_next _ (zi h).symm rfl
      ·intro u145 h hl146 hr147
       refine cond_some h (fun hg17_2 h => ?_) (fun hg17_2 h => ?_)
       ·refine yx hn 3 ?_
        refine yd hg17_2 13 ?_
        refine ye [0,66,3,64] ?_
        exact hl146 _ (zi h).symm
       ·refine cond_some h (fun hg17_6 h => ?_) (fun hg17_6 h => ?_)
        ·refine yx hn 3 ?_
         refine yd hg17_2 4 ?_
         refine yd hg17_6 9 ?_
         refine ye [0,66,3,64] ?_
         exact hl146 _ (zi h).symm
        ·refine cond_some h (fun hg17_10 h => ?_) (fun hg17_10 h => ?_)
         ·refine yx hn 3 ?_
          refine yd hg17_2 4 ?_
          refine yd hg17_6 4 ?_
          refine yd hg17_10 5 ?_
          refine ye [0,66,3,64] ?_
          exact hl146 _ (zi h).symm
         ·obtain ⟨v35, hv35, h⟩:=zn h
          refine yx hn 3 ?_
          refine yd hg17_2 4 ?_
          refine yd hg17_6 4 ?_
          refine yd hg17_10 0 ?_
          refine ym 1 ?_
          refine ys 2 ⟨lk call17 (ok_wherrykeep_Bytes _ _ _ hv35)⟩ ?_
          refine ye [0,66,3,64] ?_
          exact hl146 _ (zi h).symm
     ·intro u130 h hl131 hr132
      refine yyy hn 1 [0,66,3,16] ?_
      refine ht_joinS h (fun ((s136,s137):(List Int)×Int)=>[(0,fb b),(66,.glob (GL mx)),(3,vi s76),(4,.fl (.own 5) 1 (map (int .u8) s136)),(5,vi s137)]) ?_ ?_
      ·rintro ⟨s136, s137⟩ h
       exact hl131 _ (zi h).symm
      ·intro u138 h hl139 hr140
       refine ht_block ?_
       refine yyy hn 2 [0,66,3,16,22] ?_
       refine ht_cond _ rfl (fun hb141 => ?_) (fun hb141 => ?_)
       ·have h:=cond_t hb141 h
        obtain ⟨v4, hv4, h⟩:=zn h
        refine yx hn 1 ?_
        refine ys 0 ⟨lk call13 (ok_shrink_Stored _ _ hv4)⟩ ?_
        refine ym 0 ?_
        refine yx_ 1 ?_
        refine ya 1 ?_
        refine ye [0,66,3,4,5] ?_
        refine pt_inb ?_
        exact hl139 _ (zi h).symm
       ·have h:=cond_f hb141 h
        refine yyy hn 2 [0,66,3,16,29] ?_
        refine ht_cond _ rfl (fun hb142 => ?_) (fun hb142 => ?_)
        ·have h:=cond_t hb142 h
         obtain ⟨v6, hv6, h⟩:=zn h
         refine yx hn 1 ?_
         refine ys 0 ⟨lk call14 (ok_shrink_Fixed _ _ hv6)⟩ ?_
         refine ym 0 ?_
         refine yx_ 1 ?_
         refine ya 1 ?_
         refine ye [0,66,3,4,5] ?_
         refine pt_inb ?_
         exact hl139 _ (zi h).symm
        ·have h:=cond_f hb142 h
         refine yyy hn 2 [0,66,3,36] ?_
         refine ht_cond _ rfl (fun hb143 => ?_) (fun hb143 => ?_)
         ·have h:=cond_t hb143 h
          obtain ⟨v8, hv8, h⟩:=zn h
          refine yx hn 1 ?_
          refine ys 0 ⟨lg call15 (ok_shrink_Dynamic _ _ _ hv8) 66⟩ ?_
          refine ym 0 ?_
          refine yx_ 1 ?_
          refine ya 1 ?_
          refine ye [0,66,3,4,5] ?_
          refine pt_inb ?_
          exact hl139 _ (zi h).symm
         ·have h:=cond_f hb143 h
          obtain ⟨v9, hv9, h⟩:=zn h
          refine yx hn 1 ?_
          refine ys 0 ⟨lg call16 (ok_shrink_Shrink _ _ _ hv9) 66⟩ ?_
          refine ym 0 ?_
          refine yx_ 1 ?_
          refine ya 1 ?_
          refine ye [0,66,3,4,5] ?_
          refine pt_inb ?_
          exact hl139 _ (zi h).symm
    ·have h:=cond_f hb116 h
     refine ht_exit ?_
     refine pt_x_then ?_
     refine pt_x_then ?_
     refine pt_x_in ?_
     refine pt_pick [1] (by kernel_rfl) (es':=[(_,_)]) rfl ?_
     exact hl111 _ (ho113 _ (zi h).symm).symm

end Go.Proofs.YtkgfjkfccpjcgaaDoor
