/-
  The model's runs are what is told in Lean.
-/
import Derived.Test.YtkgfjkfccpjcgaaDoorProg
import Derived.KernelRfl
import Derived.Test.YtkgfjkfccpjcgaaDoorShelf
import Derived.Test.YtkgfjkfccpjcgaaDoorB2
import Derived.Test.YtkgfjkfccpjcgaaDoorB4
import Derived.Test.YtkgfjkfccpjcgaaDoorB5
import Derived.Test.YtkgfjkfccpjcgaaDoorB8
import Derived.Test.YtkgfjkfccpjcgaaDoorSrt
import Derived.Test.YtkgfjkfccpjcgaaDoorB9
import Derived.Test.YtkgfjkfccpjcgaaDoorShr
import Derived.Test.YtkgfjkfccpjcgaaDoorC1
import Derived.Test.YtkgfjkfccpjcgaaDoorOkc7
set_option linter.unusedVariables false
set_option linter.unusedSimpArgs false
set_option maxHeartbeats 1000000
namespace Go.Proofs.YtkgfjkfccpjcgaaDoor
open Go.Abs Go.Abs.Sh Tryd
open List (map flatten)
open Value (int)

theorem ok_wherrylaw06_ShrinkLeast (mx:Int) (b:(List Int)) (c:Int) (n:Int) (r:Bool) (h:Sh.wherrylaw06_ShrinkLeast b c n=some r):FnG Tryd.prog (GL mx) 5 [.fl .shr 1 (map (int .u8) b), .v (.int .u8 c), .v (.int .i64 n)] (.v (.bool r)):=by
  unfold Sh.wherrylaw06_ShrinkLeast at h
  refine yG 118 func5 fun g0 hn hio => ?_
  refine yyy hn 1 [0,1,2,118] ?_
  refine ht_seq ?_
  refine yyy hn 3 [0,1,2,118,21] ?_
  refine ht_cond _ rfl (fun hb1 => ?_) (fun hb1 => ?_)
  ·have h:=cond_t hb1 h
   refine yyy hn 1 [118,6] ?_
   refine ht_ret ?_
   refine pt_pick [1] (by kernel_rfl) (es':=[(_,_)]) rfl ?_
   refine pt_r_then ?_
   obtain rfl:=zi h
   exact pt_ret hio rfl (.tmp _ _ .nil) rfl rfl
  ·have h:=cond_f hb1 h
   refine ht_skip ?_
   refine pt_then (ht_seq ?_)
   obtain ⟨v2, hv2, h⟩:=zn h
   refine yx hn 1 ?_
   refine ys 0 ⟨lg call16 (ok_shrink_Shrink _ _ _ hv2) 118⟩ ?_
   refine ym 0 ?_
   refine yx_ 1 ?_
   refine ya 1 ?_
   refine yee [0,1,2,118,7,8] ?_
   refine ht_seq ?_
   obtain ⟨v3, hv3, h⟩:=zn h
   refine yx hn 1 ?_
   refine ys 0 ⟨lk call13 (ok_shrink_Stored _ _ hv3)⟩ ?_
   refine ym 0 ?_
   refine yx_ 1 ?_
   refine ya 1 ?_
   refine yee [0,1,2,118,7,8,9,10] ?_
   refine ht_seq ?_
   obtain ⟨v4, hv4, h⟩:=zn h
   refine yx hn 1 ?_
   refine ys 0 ⟨lk call14 (ok_shrink_Fixed _ _ hv4)⟩ ?_
   refine ym 0 ?_
   refine yx_ 1 ?_
   refine ya 1 ?_
   refine yee [0,1,2,118,7,8,9,10,11,12] ?_
   refine ht_seq ?_
   obtain ⟨v5, hv5, h⟩:=zn h
   refine yx hn 1 ?_
   refine ys 0 ⟨lg call15 (ok_shrink_Dynamic _ _ _ hv5) 118⟩ ?_
   refine ym 0 ?_
   refine yx_ 1 ?_
   refine ya 1 ?_
   refine yee [0,1,2,118,7,8,9,10,11,12,13,14] ?_
   refine ht_seq ?_
   refine ht_seq ?_
   refine ht_joinS h (fun (s7:Bool)=>[(1,.v (.int .u8 c)),(2,vi n),(118,.glob (GL mx)),(84,vb s7)]) ?_ ?_
   ·rintro s7 h
    refine pt_then ?_
    refine ht_cond _ rfl (fun hb11 => ?_) (fun hb11 => ?_)
    ·have h:=cond_t hb11 h
     refine yyy hn 1 [118,6] ?_
     refine ht_ret ?_
     refine pt_pick [1] (by kernel_rfl) (es':=[(_,_)]) rfl ?_
     refine pt_r_then ?_
     obtain rfl:=zi h
     exact pt_ret hio rfl (.tmp _ _ .nil) rfl rfl
    ·have h:=cond_f hb11 h
     refine ht_skip ?_
     refine pt_then (ht_seq ?_)
     obtain ⟨v12, hv12, h⟩:=zn h
     obtain ⟨v13, hv13, h⟩:=zn h
     obtain ⟨v14, hv14, h⟩:=zn h
     refine yx hn 1 ?_
     refine ys 0 ⟨lv hv12⟩ ?_
     refine ys 0 ⟨lB (rem_ok hv13)⟩ ?_
     refine ys 0 ⟨lv hv14⟩ ?_
     refine yw [2] 1 ?_
     refine yee [1,118,2] ?_
     refine yyy hn 1 [1,118,2,15] ?_
     refine ht_seq ?_
     refine yyy hn 1 [1,118,2,15,16] ?_
     refine ht_sub (fs:=[(1,.v (.int .u8 c)),(118,.glob (GL mx)),(2,vi v14),(15,.fl (.own 5) 1 (map (int .u8) [])),(16,vi 0)]) (.same _ (.same _ (.same _ (.sub _ (sub_nil 5 1) rfl (.same _ .nil))))) ?_
     refine ht_loopS h (fun ((s21,s22):(List Int)×Int)=>[(1,.v (.int .u8 c)),(118,.glob (GL mx)),(2,vi v14),(15,.fl (.own 5) 1 (map (int .u8) s21)),(16,vi s22)]) (fun (s24:(List Int))=>[(118,.glob (GL mx)),(2,vi v14),(15,.fl (.own 5) 1 (map (int .u8) s24))]) ?_ ?_
     ·rintro s24 h
      refine pt_then (ht_seq ?_)
      obtain ⟨v32, hv32, h⟩:=zn h
      refine yx hn 0 ?_
      refine ym 0 ?_
      refine ys 0 ⟨lg call16 (ok_shrink_Shrink _ _ _ hv32) 118⟩ ?_
      refine ym 0 ?_
      refine yx_ 1 ?_
      refine ya 1 ?_
      refine yee [118,2,17,18] ?_
      refine ht_seq ?_
      refine ht_joinS h (fun (s38:Bool)=>[(118,.glob (GL mx)),(6,vb s38)]) ?_ ?_
      ·rintro s38 h
       refine pt_then (ht_ret ?_)
       refine pt_pick [1] (by kernel_rfl) (es':=[(_,_)]) rfl ?_
       obtain rfl:=zi h
       exact pt_ret hio rfl (.tmp _ _ .nil) rfl rfl
      ·intro u39 h hl40 hr41
       refine cond_some h (fun hg16_2 h => ?_) (fun hg16_2 h => ?_)
       ·obtain ⟨v33, hv33, h⟩:=zn h
        obtain ⟨v34, hv34, h⟩:=zn h
        obtain ⟨v35, hv35, h⟩:=zn h
        obtain ⟨v36, hv36, h⟩:=zn h
        refine cond_some h (fun hg16_12 h => ?_) (fun hg16_12 h => ?_)
        ·obtain ⟨v37, hv37, h⟩:=zn h
         refine yx hn 3 ?_
         refine yd hg16_2 0 ?_
         refine ym 2 ?_
         refine ys 0 ⟨lB (quo_ok hv33)⟩ ?_
         refine ys 0 ⟨lb hv34⟩ ?_
         refine ys 0 ⟨lb hv35⟩ ?_
         refine ys 3 ⟨lb hv36⟩ ?_
         refine yd hg16_12 0 ?_
         refine ys 2 ⟨lg call21 (ok_wherrylaw06_wakes _ _ hv37) 118⟩ ?_
         refine ye [118,6] ?_
         exact hl40 _ (zi h).symm
        ·refine yx hn 3 ?_
         refine yd hg16_2 0 ?_
         refine ym 2 ?_
         refine ys 0 ⟨lB (quo_ok hv33)⟩ ?_
         refine ys 0 ⟨lb hv34⟩ ?_
         refine ys 0 ⟨lb hv35⟩ ?_
         refine ys 3 ⟨lb hv36⟩ ?_
         refine yd hg16_12 3 ?_
         refine ye [118,6] ?_
         exact hl40 _ (zi h).symm
       ·refine yx hn 3 ?_
        refine yd hg16_2 13 ?_
        refine ye [118,6] ?_
        exact hl40 _ (zi h).symm
     ·rintro u25 hl26 hr27 ⟨s21, s22⟩ rr30 h ho28
      refine ht_seq ?_
      refine yyy hn 3 [1,118,2,15,16,91] ?_
      refine ht_cond _ rfl (fun hb31 => ?_) (fun hb31 => ?_)
      ·have h:=cond_t hb31 h
       refine ht_skip ?_
       refine pt_then (ht_seq ?_)
       refine ht_block ?_
       obtain ⟨v16, hv16, h⟩:=zn h
       refine yx hn 0 ?_
       refine ym 1 ?_
       refine yS (.fl (.own 5) 1 (map (int .u8) [c])) 0 ⟨op_buildSlice _ _ 1 (.int .u8 0) (map (int .u8) [c]) [(0,.int .u8 c)] underlying22 sz5 zr5 (fun _ V w o a hv hes=>by have e0:=rd_v hv hes (x := .tmp 95) rfl; simp only [List.map_toArray,List.map_cons,List.map_nil,e0]; try rfl) (litfill (by simp [Instr.fill,Value.cells]; rfl) (by simp [List.range,List.range.loop] <;> rfl)) (by simp [Value.oneCell']) rfl (by decide) (by decide) (by decide)⟩ ?_
       refine yp el22 hv16 0 ?_
       refine ya 0 ?_
       refine ye [1,118,2,16,15] ?_
       refine pt_inb ?_
       refine pt_then ?_
       obtain ⟨v17, hv17, h⟩:=zn h
       refine yx hn 1 ?_
       refine ys 0 ⟨lb hv17⟩ ?_
       refine yw [16] 1 ?_
       refine ye [1,118,2,15,16] ?_
       exact pt_next _ (zi h).symm rfl
      ·have h:=cond_f hb31 h
       refine ht_exit ?_
       refine pt_x_then ?_
       refine pt_x_then ?_
       refine pt_x_in ?_
       refine pt_pick [1,2,3] (by kernel_rfl) (es':=[(_,_),(_,_),(_,_)]) rfl ?_
       exact hl26 _ (ho28 _ (zi h).symm).symm
   ·intro u8 h hl9 hr10
    refine cond_some h (fun hg7_2 h => ?_) (fun hg7_2 h => ?_)
    ·refine yx hn 3 ?_
     refine yd hg7_2 40 ?_
     refine ye [1,2,118,84] ?_
     exact hl9 _ (zi h).symm
    ·refine cond_some h (fun hg7_6 h => ?_) (fun hg7_6 h => ?_)
     ·refine yx hn 3 ?_
      refine yd hg7_2 4 ?_
      refine yd hg7_6 36 ?_
      refine ye [1,2,118,84] ?_
      exact hl9 _ (zi h).symm
     ·refine cond_some h (fun hg7_10 h => ?_) (fun hg7_10 h => ?_)
      ·refine yx hn 3 ?_
       refine yd hg7_2 4 ?_
       refine yd hg7_6 4 ?_
       refine yd hg7_10 32 ?_
       refine ye [1,2,118,84] ?_
       exact hl9 _ (zi h).symm
      ·refine cond_some h (fun hg7_14 h => ?_) (fun hg7_14 h => ?_)
       ·refine yx hn 3 ?_
        refine yd hg7_2 4 ?_
        refine yd hg7_6 4 ?_
        refine yd hg7_10 4 ?_
        refine yd hg7_14 28 ?_
        refine ye [1,2,118,84] ?_
        exact hl9 _ (zi h).symm
       ·obtain ⟨v6, hv6, h⟩:=zn h
        refine cond_some h (fun hg7_22 h => ?_) (fun hg7_22 h => ?_)
        ·refine yx hn 3 ?_
         refine yd hg7_2 4 ?_
         refine yd hg7_6 4 ?_
         refine yd hg7_10 4 ?_
         refine yd hg7_14 4 ?_
         refine ys 3 ⟨lb hv6⟩ ?_
         refine yd hg7_22 20 ?_
         refine ye [1,2,118,84] ?_
         exact hl9 _ (zi h).symm
        ·refine cond_some h (fun hg7_29 h => ?_) (fun hg7_29 h => ?_)
         ·refine yx hn 3 ?_
          refine yd hg7_2 4 ?_
          refine yd hg7_6 4 ?_
          refine yd hg7_10 4 ?_
          refine yd hg7_14 4 ?_
          refine ys 3 ⟨lb hv6⟩ ?_
          refine yd hg7_22 2 ?_
          refine yw [57] 0 ?_
          refine ym 4 ?_
          refine yd hg7_29 13 ?_
          refine ye [1,2,118,84] ?_
          exact hl9 _ (zi h).symm
         ·refine cond_some h (fun hg7_36 h => ?_) (fun hg7_36 h => ?_)
          ·refine yx hn 3 ?_
           refine yd hg7_2 4 ?_
           refine yd hg7_6 4 ?_
           refine yd hg7_10 4 ?_
           refine yd hg7_14 4 ?_
           refine ys 3 ⟨lb hv6⟩ ?_
           refine yd hg7_22 2 ?_
           refine yw [57] 0 ?_
           refine ym 4 ?_
           refine yd hg7_29 2 ?_
           refine ym 4 ?_
           refine yd hg7_36 6 ?_
           refine ye [1,2,118,84] ?_
           exact hl9 _ (zi h).symm
          ·refine yx hn 3 ?_
           refine yd hg7_2 4 ?_
           refine yd hg7_6 4 ?_
           refine yd hg7_10 4 ?_
           refine yd hg7_14 4 ?_
           refine ys 3 ⟨lb hv6⟩ ?_
           refine yd hg7_22 2 ?_
           refine yw [57] 0 ?_
           refine ym 4 ?_
           refine yd hg7_29 2 ?_
           refine ym 4 ?_
           refine yd hg7_36 0 ?_
           refine yw [65, 72] 0 ?_
           refine ym 1 ?_
           refine ym 3 ?_
           refine ye [1,2,118,84] ?_
           exact hl9 _ (zi h).symm

end Go.Proofs.YtkgfjkfccpjcgaaDoor
