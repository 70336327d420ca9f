/-
  The model's runs are what is told in Lean.
-/
import Derived.Test.YtofbofdggabfiaaGreatDoorProg
import Derived.KernelRfl
import Derived.Test.YtofbofdggabfiaaGreatDoorShelf
import Derived.Test.YtofbofdggabfiaaGreatDoorB3
import Derived.Test.YtofbofdggabfiaaGreatDoorC1
import Derived.Test.YtofbofdggabfiaaGreatDoorOkc1
set_option linter.unusedVariables false
set_option linter.unusedSimpArgs false
set_option maxHeartbeats 1000000
namespace Go.Proofs.YtofbofdggabfiaaGreatDoor
open Go.Abs Go.Abs.Sh Tryz
open List (map flatten)
open Value (int)
theorem ok_path_alphanumeric (c:Int) (r:Bool) (h:Sh.path_alphanumeric c=some r):FnOK Tryz.prog 100 [.v (.int .u8 c)] (.v (.bool r)):=by
  unfold Sh.path_alphanumeric at h
  refine yO 25 func100 fun g0 hn hio => ?_
  refine yyy hn 1 [0] ?_
  refine ht_seq ?_
  refine ht_joinS h (fun (s1:Bool)=>[(2,vb s1)]) ?_ ?_
  ·rintro s1 h
   refine pt_then (ht_ret ?_)
   obtain rfl:=zi h
   exact pt_ret hio rfl (.tmp _ _ .nil) rfl rfl
  ·intro u2 h hl3 hr4
   refine cond_some h (fun hg1_2 h => ?_) (fun hg1_2 h => ?_)
   ·refine cond_some h (fun hg1_6 h => ?_) (fun hg1_6 h => ?_)
    ·refine yx hn 3 ?_
     refine yd hg1_2 4 ?_
     refine yd hg1_6 16 ?_
     refine ye [2] ?_
     exact hl3 _ (zi h).symm
    ·refine cond_some h (fun hg1_9 h => ?_) (fun hg1_9 h => ?_)
     ·refine cond_some h (fun hg1_14 h => ?_) (fun hg1_14 h => ?_)
      ·refine yx hn 3 ?_
       refine yd hg1_2 4 ?_
       refine yd hg1_6 3 ?_
       refine yd hg1_9 5 ?_
       refine yd hg1_14 8 ?_
       refine ye [2] ?_
       exact hl3 _ (zi h).symm
      ·refine cond_some h (fun hg1_17 h => ?_) (fun hg1_17 h => ?_)
       ·refine yx hn 3 ?_
        refine yd hg1_2 4 ?_
        refine yd hg1_6 3 ?_
        refine yd hg1_9 5 ?_
        refine yd hg1_14 3 ?_
        refine yd hg1_17 5 ?_
        refine ye [2] ?_
        exact hl3 _ (zi h).symm
       ·refine yx hn 3 ?_
        refine yd hg1_2 4 ?_
        refine yd hg1_6 3 ?_
        refine yd hg1_9 5 ?_
        refine yd hg1_14 3 ?_
        refine yd hg1_17 5 ?_
        refine ye [2] ?_
        exact hl3 _ (zi h).symm
     ·refine cond_some h (fun hg1_17 h => ?_) (fun hg1_17 h => ?_)
      ·refine yx hn 3 ?_
       refine yd hg1_2 4 ?_
       refine yd hg1_6 3 ?_
       refine yd hg1_9 8 ?_
       refine yd hg1_17 5 ?_
       refine ye [2] ?_
       exact hl3 _ (zi h).symm
      ·refine yx hn 3 ?_
       refine yd hg1_2 4 ?_
       refine yd hg1_6 3 ?_
       refine yd hg1_9 8 ?_
       refine yd hg1_17 5 ?_
       refine ye [2] ?_
       exact hl3 _ (zi h).symm
   ·refine cond_some h (fun hg1_9 h => ?_) (fun hg1_9 h => ?_)
    ·refine cond_some h (fun hg1_14 h => ?_) (fun hg1_14 h => ?_)
     ·refine yx hn 3 ?_
      refine yd hg1_2 7 ?_
      refine yd hg1_9 5 ?_
      refine yd hg1_14 8 ?_
      refine ye [2] ?_
      exact hl3 _ (zi h).symm
     ·refine cond_some h (fun hg1_17 h => ?_) (fun hg1_17 h => ?_)
      ·refine yx hn 3 ?_
       refine yd hg1_2 7 ?_
       refine yd hg1_9 5 ?_
       refine yd hg1_14 3 ?_
       refine yd hg1_17 5 ?_
       refine ye [2] ?_
       exact hl3 _ (zi h).symm
      ·refine yx hn 3 ?_
       refine yd hg1_2 7 ?_
       refine yd hg1_9 5 ?_
       refine yd hg1_14 3 ?_
       refine yd hg1_17 5 ?_
       refine ye [2] ?_
       exact hl3 _ (zi h).symm
    ·refine cond_some h (fun hg1_17 h => ?_) (fun hg1_17 h => ?_)
     ·refine yx hn 3 ?_
      refine yd hg1_2 7 ?_
      refine yd hg1_9 8 ?_
      refine yd hg1_17 5 ?_
      refine ye [2] ?_
      exact hl3 _ (zi h).symm
     ·refine yx hn 3 ?_
      refine yd hg1_2 7 ?_
      refine yd hg1_9 8 ?_
      refine yd hg1_17 5 ?_
      refine ye [2] ?_
      exact hl3 _ (zi h).symm
theorem ok_strings_IndexByte (s:ByteArray) (c r:Int) (h:Sh.strings_IndexByte s c=some r):FnOK Tryz.prog 104 [.v (.string s), .v (.int .u8 c)] (.v (.int .i64 r)):=lib_strings_IndexByte Tryz.strings_IndexByte s c r h
theorem ok_path_atom_1 (c:Int) (r:Bool) (h:Sh.path_atom_1 c=some r):FnOK Tryz.prog 103 [.v (.int .u8 c)] (.v (.bool r)):=by
  unfold Sh.path_atom_1 at h
  refine yO 10 func103 fun g0 hn hio => ?_
  refine yyy hn 1 [0] ?_
  refine ht_seq ?_
  refine ht_joinS h (fun (s3:Bool)=>[(2,vb s3)]) ?_ ?_
  ·rintro s3 h
   refine pt_then (ht_ret ?_)
   obtain rfl:=zi h
   exact pt_ret hio rfl (.tmp _ _ .nil) rfl rfl
  ·intro u4 h hl5 hr6
   obtain ⟨v1, hv1, h⟩:=zn h
   refine cond_some h (fun hg1_2 h => ?_) (fun hg1_2 h => ?_)
   ·refine yx hn 1 ?_
    refine ys 1 ⟨lk call100 (ok_path_alphanumeric _ _ hv1)⟩ ?_
    refine yd hg1_2 5 ?_
    refine ye [2] ?_
    exact hl5 _ (zi h).symm
   ·obtain ⟨v2, hv2, h⟩:=zn h
    refine yx hn 1 ?_
    refine ys 1 ⟨lk call100 (ok_path_alphanumeric _ _ hv1)⟩ ?_
    refine yd hg1_2 1 ?_
    refine ys 3 ⟨lk call104 (ok_strings_IndexByte _ _ _ hv2)⟩ ?_
    refine ye [2] ?_
    exact hl5 _ (zi h).symm
theorem ok_path_all_of_path_atom_1 (s:ByteArray) (r:Bool) (h:Sh.path_all_of_path_atom_1 s=some r):FnOK Tryz.prog 98 [.v (.string s), .v (.func (.func 103) #[] #[])] (.v (.bool r)):=by
  unfold Sh.path_all_of_path_atom_1 at h
  refine yO 18 func98 fun g0 hn hio => ?_
  refine yyy hn 1 [0,1] ?_
  refine ht_seq ?_
  refine yyy hn 3 [0,1,7,8] ?_
  refine ht_loopS h (fun (s9:Int)=>[(0,vs s),(1,.v (.func (.func 103) #[] #[])),(7,vi (s.size:Int)),(8,vi s9)]) (fun (():Unit)=>[]) ?_ ?_
  ·rintro ⟨⟩ h
   refine pt_then ?_
   refine yyy hn 1 [4] ?_
   refine ht_ret ?_
   obtain rfl:=zi h
   exact pt_ret hio rfl (.tmp _ _ .nil) rfl rfl
  ·rintro u12 hl13 hr14 s9 rr17 h ho15
   refine yyy hn 1 [0,1,7,8,9] ?_
   refine ht_seq ?_
   refine ht_cond _ rfl (fun hb18 => ?_) (fun hb18 => ?_)
   ·have h:=cond_t hb18 h
    refine ht_skip ?_
    refine pt_then (ht_seq ?_)
    refine ht_block ?_
    refine yyy hn 2 [0,1,7,8,5] ?_
    refine ht_seq ?_
    obtain ⟨v2, hv2, h⟩:=zn h
    obtain ⟨v3, hv3, h⟩:=zn h
    refine yx hn 3 ?_
    refine ys 0 ⟨lh hv2⟩ ?_
    refine ys 1 ⟨lk call103 (ok_path_atom_1 _ _ hv3)⟩ ?_
    refine yee [0,1,7,8,16] ?_
    refine ht_cond _ rfl (fun hb19 => ?_) (fun hb19 => ?_)
    ·have h:=cond_t hb19 h
     refine yyy hn 1 [4] ?_
     refine ht_ret ?_
     refine pt_r_in ?_
     refine pt_r_then ?_
     refine pt_r_then ?_
     refine pt_r_in ?_
     refine pt_r_then ?_
     have h:=hr14 _ (ho15 _ (zi h).symm).symm
     obtain rfl:=zi h
     exact pt_ret hio rfl (.tmp _ _ .nil) rfl rfl
    ·have h:=cond_f hb19 h
     refine ht_skip ?_
     refine pt_inb ?_
     refine pt_then ?_
     obtain ⟨v5, hv5, h⟩:=zn h
     refine yx hn 0 ?_
     refine ys 0 ⟨lb hv5⟩ ?_
     refine yw [8] 1 ?_
     refine ye [0,1,7,8] ?_
     exact pt_next _ (zi h).symm rfl
   ·have h:=cond_f hb18 h
    refine ht_exit ?_
    refine pt_x_then ?_
    refine pt_x_then ?_
    refine pt_x_in ?_
    refine pt_pick [] (by kernel_rfl) (es':=[]) rfl ?_
    exact hl13 _ (ho15 _ (zi h).symm).symm
theorem ok_path_atom (s:ByteArray) (r:Bool) (h:Sh.path_atom s=some r):FnOK Tryz.prog 93 [.v (.string s)] (.v (.bool r)):=by
  unfold Sh.path_atom at h
  refine yO 9 func93 fun g0 hn hio => ?_
  refine yyy hn 1 [0] ?_
  refine ht_seq ?_
  refine ht_joinS h (fun (s2:Bool)=>[(2,vb s2)]) ?_ ?_
  ·rintro s2 h
   refine pt_then (ht_ret ?_)
   obtain rfl:=zi h
   exact pt_ret hio rfl (.tmp _ _ .nil) rfl rfl
  ·intro u3 h hl4 hr5
   refine cond_some h (fun hg1_2 h => ?_) (fun hg1_2 h => ?_)
   ·obtain ⟨v1, hv1, h⟩:=zn h
    refine yx hn 3 ?_
    refine yd hg1_2 1 ?_
    refine ys 2 ⟨lk call98 (ok_path_all_of_path_atom_1 _ _ hv1)⟩ ?_
    refine ye [2] ?_
    exact hl4 _ (zi h).symm
   ·refine yx hn 3 ?_
    refine yd hg1_2 4 ?_
    refine ye [2] ?_
    exact hl4 _ (zi h).symm
theorem ok_path_dotted_of_path_atom (mx:Int) (s:ByteArray) (r:Bool) (h:Sh.path_dotted_of_path_atom s=some r):FnG Tryz.prog (GL mx) 87 [.v (.string s), .v (.func (.func 93) #[] #[])] (.v (.bool r)):=by
  unfold Sh.path_dotted_of_path_atom at h
  refine yG 13 func87 fun g0 hn hio => ?_
  refine yxx hn 1 ?_
  refine yS (.box 4 [vb false]) 0 ⟨oA (op_alloc _ _ zr4)⟩ ?_
  refine yee [0,13,3,4] ?_
  refine ht_seq ?_
  refine ht_seq ?_
  obtain ⟨v1, hv1, h⟩:=zn h
  refine yx hn 1 ?_
  refine yk [] [6] ?_
  refine yt (7,.cloB 119 [.box 9 [vs v1.1],.box 9 [vs v1.2.1],.box 3 [vi v1.2.2]]) 0 ⟨op_callS _ _ 97 _ _ rfl call97 rfl rfl (ok_strings_SplitSeq s (⟨#[46]⟩:ByteArray) _ hv1) rfl⟩ ?_
  refine yee [13,3,4,7] ?_
  refine ht_block ?_
  refine ht_pick [3,0,1,2] (by kernel_rfl) (es':=[(7,.cloB 119 [.box 9 [vs v1.1],.box 9 [vs v1.2.1],.box 3 [vi v1.2.2]]),(13,.glob (GL mx)),(3,.box 103 [.v (.func (.func 93) #[] #[])]),(4,.box 4 [vb false])]) rfl ?_
  refine ht_rangeF h 119 7 8 14 _ [13, 3, 4] call119 (fun (():Unit)=>[(13, .glob (GL mx)), (3, .box 103 [.v (.func (.func 93) #[] #[])]), (4, .box 4 [.v (.bool false)])]) (fun (():Unit)=>[(13, .glob (GL mx)), (3, .box 103 [.v (.func (.func 93) #[] #[])]), (4, .box 4 [.v (.bool false)])]) (fun l J Y hY t t' h=>ok_strings_splitSeq_1 mx l J Y hY v1.1 v1.2.1 v1.2.2 t t' h) hn rfl (fun _=>rfl) (fun _=>rfl) (fun _=>rfl) rfl rfl (fun _=>⟨rfl, rfl⟩) rfl (glIn_look 13 rfl) ?_ ?_ ?_
  ·rintro kk g0 hn hio x ⟨⟩ u h
   refine ht_es (es':=[(8,vs x),(13,.glob (GL mx)),(3,.box 103 [.v (.func (.func 93) #[] #[])]),(4,.box 4 [vb false]),(13,.v (kk.tm.getD 13 undef)),(3,.v (kk.tm.getD 3 undef)),(4,.v (kk.tm.getD 4 undef)),(14,.inv kk.ready)]) rfl ?_
   refine yy hn 1 [13,3,4,14,5,13,3,4] ?_
   refine pt_pick [0,1,2,4,5,6,7,3] (by kernel_rfl) (es':=[(13,.glob (GL mx)),(3,.box 103 [.v (.func (.func 93) #[] #[])]),(4,.box 4 [vb false]),(5,vs x),(13,.v (kk.tm.getD 13 undef)),(3,.v (kk.tm.getD 3 undef)),(4,.v (kk.tm.getD 4 undef)),(14,.inv kk.ready)]) rfl ?_
   refine pt_begin (es:=[(13,.glob (GL mx)),(3,.box 103 [.v (.func (.func 93) #[] #[])]),(4,.box 4 [vb false]),(5,vs x),(13,.v (kk.tm.getD 13 undef)),(3,.v (kk.tm.getD 3 undef)),(4,.v (kk.tm.getD 4 undef))]) 14 rfl ?_
   refine ht_block ?_
   refine ht_seq ?_
   obtain ⟨v2, hv2, h⟩:=zn h
   refine yx hn 2 ?_
   refine ys 1 ⟨lk call93 (ok_path_atom _ _ hv2)⟩ ?_
   refine yee [13,3,4,14,12,13,3,4] ?_
   refine ht_cond _ rfl (fun hb5 => ?_) (fun hb5 => ?_)
   ·have h:=cond_t hb5 h
    refine yyy hn 1 [13,3,4,14,13,3,4] ?_
    refine ht_ret ?_
    refine pt_r_in ?_
    refine pt_pick [0,1,2,4,5,6,3] (by kernel_rfl) (es':=[(_,_),(_,_),(_,_),(_,_),(_,_),(_,_),(_,_)]) rfl ?_
    obtain rfl:=zi h
    exact pt_rret 14 [13, 3, 4] _ rfl rfl (by kernel_rfl)
   ·have h:=cond_f hb5 h
    refine ht_skip ?_
    refine pt_inb ?_
    refine pt_pick [0,1,2,5,6,7,3] (by kernel_rfl) (es':=[(_,_),(_,_),(_,_),(_,_),(_,_),(_,_),(_,_)]) rfl ?_
    obtain rfl:=zi h
    exact pt_rnext 14 [13, 3, 4] _ rfl rfl (by kernel_rfl)
  ·rintro D ⟨⟩ h
   refine pt_inb ?_
   refine pt_then ?_
   refine yyy hn 1 [13,4] ?_
   refine ht_ret ?_
   refine pt_pick [1] (by kernel_rfl) (es':=[(_,_)]) rfl ?_
   obtain rfl:=zi h
   exact pt_ret hio rfl (.cell1 _ _ _ _ underlying4 rfl .nil) rfl rfl
  ·rintro D ⟨⟩ h
   refine pt_pick [2] (by kernel_rfl) (es':=[(_,_)]) rfl ?_
   refine pt_r_in ?_
   refine pt_r_then ?_
   obtain rfl:=zi h
   exact pt_ret hio rfl (.cell1 _ _ _ _ underlying4 rfl .nil) rfl rfl
theorem ok_path_local (mx:Int) (s:ByteArray) (r:Bool) (h:Sh.path_local s=some r):FnG Tryz.prog (GL mx) 79 [.v (.string s)] (.v (.bool r)):=by
  unfold Sh.path_local at h
  refine yG 10 func79 fun g0 hn hio => ?_
  refine yyy hn 1 [0,10] ?_
  refine ht_seq ?_
  refine ht_joinS h (fun (s2:Bool)=>[(10,.glob (GL mx)),(2,vb s2)]) ?_ ?_
  ·rintro s2 h
   refine pt_then (ht_ret ?_)
   refine pt_pick [1] (by kernel_rfl) (es':=[(_,_)]) rfl ?_
   obtain rfl:=zi h
   exact pt_ret hio rfl (.tmp _ _ .nil) rfl rfl
  ·intro u3 h hl4 hr5
   refine cond_some h (fun hg1_3 h => ?_) (fun hg1_3 h => ?_)
   ·obtain ⟨v1, hv1, h⟩:=zn h
    refine yx hn 4 ?_
    refine yd hg1_3 1 ?_
    refine ys 2 ⟨lg call87 (ok_path_dotted_of_path_atom _ _ _ hv1) 10⟩ ?_
    refine ye [10,2] ?_
    exact hl4 _ (zi h).symm
   ·refine yx hn 4 ?_
    refine yd hg1_3 4 ?_
    refine ye [10,2] ?_
    exact hl4 _ (zi h).symm
theorem ok_path_label_1 (c:Int) (r:Bool) (h:Sh.path_label_1 c=some r):FnOK Tryz.prog 99 [.v (.int .u8 c)] (.v (.bool r)):=by
  unfold Sh.path_label_1 at h
  refine yO 9 func99 fun g0 hn hio => ?_
  refine yyy hn 1 [0] ?_
  refine ht_seq ?_
  refine ht_joinS h (fun (s2:Bool)=>[(2,vb s2)]) ?_ ?_
  ·rintro s2 h
   refine pt_then (ht_ret ?_)
   obtain rfl:=zi h
   exact pt_ret hio rfl (.tmp _ _ .nil) rfl rfl
  ·intro u3 h hl4 hr5
   obtain ⟨v1, hv1, h⟩:=zn h
   refine cond_some h (fun hg1_2 h => ?_) (fun hg1_2 h => ?_)
   ·refine yx hn 1 ?_
    refine ys 1 ⟨lk call100 (ok_path_alphanumeric _ _ hv1)⟩ ?_
    refine yd hg1_2 4 ?_
    refine ye [2] ?_
    exact hl4 _ (zi h).symm
   ·refine yx hn 1 ?_
    refine ys 1 ⟨lk call100 (ok_path_alphanumeric _ _ hv1)⟩ ?_
    refine yd hg1_2 4 ?_
    refine ye [2] ?_
    exact hl4 _ (zi h).symm
theorem ok_path_all_of_path_label_1 (s:ByteArray) (r:Bool) (h:Sh.path_all_of_path_label_1 s=some r):FnOK Tryz.prog 98 [.v (.string s), .v (.func (.func 99) #[] #[])] (.v (.bool r)):=by
  unfold Sh.path_all_of_path_label_1 at h
  refine yO 18 func98 fun g0 hn hio => ?_
  refine yyy hn 1 [0,1] ?_
  refine ht_seq ?_
  refine yyy hn 3 [0,1,7,8] ?_
  refine ht_loopS h (fun (s9:Int)=>[(0,vs s),(1,.v (.func (.func 99) #[] #[])),(7,vi (s.size:Int)),(8,vi s9)]) (fun (():Unit)=>[]) ?_ ?_
  ·rintro ⟨⟩ h
   refine pt_then ?_
   refine yyy hn 1 [4] ?_
   refine ht_ret ?_
   obtain rfl:=zi h
   exact pt_ret hio rfl (.tmp _ _ .nil) rfl rfl
  ·rintro u12 hl13 hr14 s9 rr17 h ho15
   refine yyy hn 1 [0,1,7,8,9] ?_
   refine ht_seq ?_
   refine ht_cond _ rfl (fun hb18 => ?_) (fun hb18 => ?_)
   ·have h:=cond_t hb18 h
    refine ht_skip ?_
    refine pt_then (ht_seq ?_)
    refine ht_block ?_
    refine yyy hn 2 [0,1,7,8,5] ?_
    refine ht_seq ?_
    obtain ⟨v2, hv2, h⟩:=zn h
    obtain ⟨v3, hv3, h⟩:=zn h
    refine yx hn 3 ?_
    refine ys 0 ⟨lh hv2⟩ ?_
    refine ys 1 ⟨lk call99 (ok_path_label_1 _ _ hv3)⟩ ?_
    refine yee [0,1,7,8,16] ?_
    refine ht_cond _ rfl (fun hb19 => ?_) (fun hb19 => ?_)
    ·have h:=cond_t hb19 h
     refine yyy hn 1 [4] ?_
     refine ht_ret ?_
     refine pt_r_in ?_
     refine pt_r_then ?_
     refine pt_r_then ?_
     refine pt_r_in ?_
     refine pt_r_then ?_
     have h:=hr14 _ (ho15 _ (zi h).symm).symm
     obtain rfl:=zi h
     exact pt_ret hio rfl (.tmp _ _ .nil) rfl rfl
    ·have h:=cond_f hb19 h
     refine ht_skip ?_
     refine pt_inb ?_
     refine pt_then ?_
     obtain ⟨v5, hv5, h⟩:=zn h
     refine yx hn 0 ?_
     refine ys 0 ⟨lb hv5⟩ ?_
     refine yw [8] 1 ?_
     refine ye [0,1,7,8] ?_
     exact pt_next _ (zi h).symm rfl
   ·have h:=cond_f hb18 h
    refine ht_exit ?_
    refine pt_x_then ?_
    refine pt_x_then ?_
    refine pt_x_in ?_
    refine pt_pick [] (by kernel_rfl) (es':=[]) rfl ?_
    exact hl13 _ (ho15 _ (zi h).symm).symm
theorem ok_path_label (s:ByteArray) (r:Bool) (h:Sh.path_label s=some r):FnOK Tryz.prog 88 [.v (.string s)] (.v (.bool r)):=by
  unfold Sh.path_label at h
  refine yO 27 func88 fun g0 hn hio => ?_
  refine yyy hn 1 [0] ?_
  refine ht_seq ?_
  refine ht_joinS h (fun (s5:Bool)=>[(2,vb s5)]) ?_ ?_
  ·rintro s5 h
   refine pt_then (ht_ret ?_)
   obtain rfl:=zi h
   exact pt_ret hio rfl (.tmp _ _ .nil) rfl rfl
  ·intro u6 h hl7 hr8
   refine cond_some h (fun hg1_2 h => ?_) (fun hg1_2 h => ?_)
   ·refine cond_some h (fun hg1_7 h => ?_) (fun hg1_7 h => ?_)
    ·obtain ⟨v1, hv1, h⟩:=zn h
     refine cond_some h (fun hg1_12 h => ?_) (fun hg1_12 h => ?_)
     ·obtain ⟨v2, hv2, h⟩:=zn h
      obtain ⟨v3, hv3, h⟩:=zn h
      refine cond_some h (fun hg1_20 h => ?_) (fun hg1_20 h => ?_)
      ·obtain ⟨v4, hv4, h⟩:=zn h
       refine yx hn 3 ?_
       refine yd hg1_2 5 ?_
       refine yd hg1_7 1 ?_
       refine ys 3 ⟨lh hv1⟩ ?_
       refine yd hg1_12 3 ?_
       refine ys 0 ⟨lb hv2⟩ ?_
       refine ys 3 ⟨lh hv3⟩ ?_
       refine yd hg1_20 1 ?_
       refine ys 2 ⟨lk call98 (ok_path_all_of_path_label_1 _ _ hv4)⟩ ?_
       refine ye [2] ?_
       exact hl7 _ (zi h).symm
      ·refine yx hn 3 ?_
       refine yd hg1_2 5 ?_
       refine yd hg1_7 1 ?_
       refine ys 3 ⟨lh hv1⟩ ?_
       refine yd hg1_12 3 ?_
       refine ys 0 ⟨lb hv2⟩ ?_
       refine ys 3 ⟨lh hv3⟩ ?_
       refine yd hg1_20 4 ?_
       refine ye [2] ?_
       exact hl7 _ (zi h).symm
     ·refine yx hn 3 ?_
      refine yd hg1_2 5 ?_
      refine yd hg1_7 1 ?_
      refine ys 3 ⟨lh hv1⟩ ?_
      refine yd hg1_12 12 ?_
      refine ye [2] ?_
      exact hl7 _ (zi h).symm
    ·refine yx hn 3 ?_
     refine yd hg1_2 5 ?_
     refine yd hg1_7 17 ?_
     refine ye [2] ?_
     exact hl7 _ (zi h).symm
   ·refine yx hn 3 ?_
    refine yd hg1_2 22 ?_
    refine ye [2] ?_
    exact hl7 _ (zi h).symm
theorem ok_path_dotted_of_path_label (mx:Int) (s:ByteArray) (r:Bool) (h:Sh.path_dotted_of_path_label s=some r):FnG Tryz.prog (GL mx) 87 [.v (.string s), .v (.func (.func 88) #[] #[])] (.v (.bool r)):=by
  unfold Sh.path_dotted_of_path_label at h
  refine yG 13 func87 fun g0 hn hio => ?_
  refine yxx hn 1 ?_
  refine yS (.box 4 [vb false]) 0 ⟨oA (op_alloc _ _ zr4)⟩ ?_
  refine yee [0,13,3,4] ?_
  refine ht_seq ?_
  refine ht_seq ?_
  obtain ⟨v1, hv1, h⟩:=zn h
  refine yx hn 1 ?_
  refine yk [] [6] ?_
  refine yt (7,.cloB 119 [.box 9 [vs v1.1],.box 9 [vs v1.2.1],.box 3 [vi v1.2.2]]) 0 ⟨op_callS _ _ 97 _ _ rfl call97 rfl rfl (ok_strings_SplitSeq s (⟨#[46]⟩:ByteArray) _ hv1) rfl⟩ ?_
  refine yee [13,3,4,7] ?_
  refine ht_block ?_
  refine ht_pick [3,0,1,2] (by kernel_rfl) (es':=[(7,.cloB 119 [.box 9 [vs v1.1],.box 9 [vs v1.2.1],.box 3 [vi v1.2.2]]),(13,.glob (GL mx)),(3,.box 103 [.v (.func (.func 88) #[] #[])]),(4,.box 4 [vb false])]) rfl ?_
  refine ht_rangeF h 119 7 8 14 _ [13, 3, 4] call119 (fun (():Unit)=>[(13, .glob (GL mx)), (3, .box 103 [.v (.func (.func 88) #[] #[])]), (4, .box 4 [.v (.bool false)])]) (fun (():Unit)=>[(13, .glob (GL mx)), (3, .box 103 [.v (.func (.func 88) #[] #[])]), (4, .box 4 [.v (.bool false)])]) (fun l J Y hY t t' h=>ok_strings_splitSeq_1 mx l J Y hY v1.1 v1.2.1 v1.2.2 t t' h) hn rfl (fun _=>rfl) (fun _=>rfl) (fun _=>rfl) rfl rfl (fun _=>⟨rfl, rfl⟩) rfl (glIn_look 13 rfl) ?_ ?_ ?_
  ·rintro kk g0 hn hio x ⟨⟩ u h
   refine ht_es (es':=[(8,vs x),(13,.glob (GL mx)),(3,.box 103 [.v (.func (.func 88) #[] #[])]),(4,.box 4 [vb false]),(13,.v (kk.tm.getD 13 undef)),(3,.v (kk.tm.getD 3 undef)),(4,.v (kk.tm.getD 4 undef)),(14,.inv kk.ready)]) rfl ?_
   refine yy hn 1 [13,3,4,14,5,13,3,4] ?_
   refine pt_pick [0,1,2,4,5,6,7,3] (by kernel_rfl) (es':=[(13,.glob (GL mx)),(3,.box 103 [.v (.func (.func 88) #[] #[])]),(4,.box 4 [vb false]),(5,vs x),(13,.v (kk.tm.getD 13 undef)),(3,.v (kk.tm.getD 3 undef)),(4,.v (kk.tm.getD 4 undef)),(14,.inv kk.ready)]) rfl ?_
   refine pt_begin (es:=[(13,.glob (GL mx)),(3,.box 103 [.v (.func (.func 88) #[] #[])]),(4,.box 4 [vb false]),(5,vs x),(13,.v (kk.tm.getD 13 undef)),(3,.v (kk.tm.getD 3 undef)),(4,.v (kk.tm.getD 4 undef))]) 14 rfl ?_
   refine ht_block ?_
   refine ht_seq ?_
   obtain ⟨v2, hv2, h⟩:=zn h
   refine yx hn 2 ?_
   refine ys 1 ⟨lk call88 (ok_path_label _ _ hv2)⟩ ?_
   refine yee [13,3,4,14,12,13,3,4] ?_
   refine ht_cond _ rfl (fun hb5 => ?_) (fun hb5 => ?_)
   ·have h:=cond_t hb5 h
    refine yyy hn 1 [13,3,4,14,13,3,4] ?_
    refine ht_ret ?_
    refine pt_r_in ?_
    refine pt_pick [0,1,2,4,5,6,3] (by kernel_rfl) (es':=[(_,_),(_,_),(_,_),(_,_),(_,_),(_,_),(_,_)]) rfl ?_
    obtain rfl:=zi h
    exact pt_rret 14 [13, 3, 4] _ rfl rfl (by kernel_rfl)
   ·have h:=cond_f hb5 h
    refine ht_skip ?_
    refine pt_inb ?_
    refine pt_pick [0,1,2,5,6,7,3] (by kernel_rfl) (es':=[(_,_),(_,_),(_,_),(_,_),(_,_),(_,_),(_,_)]) rfl ?_
    obtain rfl:=zi h
    exact pt_rnext 14 [13, 3, 4] _ rfl rfl (by kernel_rfl)
  ·rintro D ⟨⟩ h
   refine pt_inb ?_
   refine pt_then ?_
   refine yyy hn 1 [13,4] ?_
   refine ht_ret ?_
   refine pt_pick [1] (by kernel_rfl) (es':=[(_,_)]) rfl ?_
   obtain rfl:=zi h
   exact pt_ret hio rfl (.cell1 _ _ _ _ underlying4 rfl .nil) rfl rfl
  ·rintro D ⟨⟩ h
   refine pt_pick [2] (by kernel_rfl) (es':=[(_,_)]) rfl ?_
   refine pt_r_in ?_
   refine pt_r_then ?_
   obtain rfl:=zi h
   exact pt_ret hio rfl (.cell1 _ _ _ _ underlying4 rfl .nil) rfl rfl
theorem ok_path_Domain (mx:Int) (s:ByteArray) (r:Bool) (h:Sh.path_Domain s=some r):FnG Tryz.prog (GL mx) 73 [.v (.string s)] (.v (.bool r)):=by
  unfold Sh.path_Domain at h
  refine yG 10 func73 fun g0 hn hio => ?_
  refine yyy hn 1 [0,10] ?_
  refine ht_seq ?_
  refine ht_joinS h (fun (s2:Bool)=>[(10,.glob (GL mx)),(2,vb s2)]) ?_ ?_
  ·rintro s2 h
   refine pt_then (ht_ret ?_)
   refine pt_pick [1] (by kernel_rfl) (es':=[(_,_)]) rfl ?_
   obtain rfl:=zi h
   exact pt_ret hio rfl (.tmp _ _ .nil) rfl rfl
  ·intro u3 h hl4 hr5
   refine cond_some h (fun hg1_3 h => ?_) (fun hg1_3 h => ?_)
   ·obtain ⟨v1, hv1, h⟩:=zn h
    refine yx hn 4 ?_
    refine yd hg1_3 1 ?_
    refine ys 2 ⟨lg call87 (ok_path_dotted_of_path_label _ _ _ hv1) 10⟩ ?_
    refine ye [10,2] ?_
    exact hl4 _ (zi h).symm
   ·refine yx hn 4 ?_
    refine yd hg1_3 4 ?_
    refine ye [10,2] ?_
    exact hl4 _ (zi h).symm
theorem ok_path_Check (mx:Int) (p:T_Path) (r:Int) (h:Sh.path_Check p=some r):FnG Tryz.prog (GL mx) 65 [.agg [.v (.bool p.Null), .v (.string p.Local), .v (.string p.Domain)]] (.v (.int .i64 r)):=by
  unfold Sh.path_Check at h
  refine yG 27 func65 fun g0 hn hio => ?_
  refine yyy hn 2 [27,1] ?_
  refine yxx hn 1 ?_
  refine yS (.agg [vb true,vs z0,vs z0]) 0 ⟨op_build _ _ _ _ [1,1,1] _ _ underlying24 zr24 (fs24 _ underlying24) (.copy _ Src.nil) rfl rfl rfl⟩ ?_
  refine yS (vb ((p.Null==true)&&((p.Local.toList==z0.toList)&&((p.Domain.toList==z0.toList)&&true)))) 1 ⟨op_eq_st _ _ [.bool p.Null,.string p.Local,.string p.Domain] [.bool true,.string z0,.string z0] (((p.Null==true)&&((p.Local.toList==z0.toList)&&((p.Domain.toList==z0.toList)&&true)))) _ false (by kernel_rfl) (by kernel_rfl) (by kernel_rfl) (by kernel_rfl) (by kernel_rfl) rfl rfl rfl rfl (by kernel_rfl) rfl⟩ ?_
  refine yee [27,1,3] ?_
  refine ht_seq ?_
  refine ht_joinS h (fun (s3:Bool)=>[(27,.glob (GL mx)),(3,vb ((p.Null==true)&&((p.Local.toList==z0.toList)&&((p.Domain.toList==z0.toList)&&true)))),(4,vb s3)]) ?_ ?_
  ·rintro s3 h
   refine pt_then (ht_seq ?_)
   refine ht_seq ?_
   refine ht_joinS h (fun (s7:Bool)=>[(27,.glob (GL mx)),(26,vb s7)]) ?_ ?_
   ·rintro s7 h
    refine pt_then ?_
    refine ht_cond _ rfl (fun hb11 => ?_) (fun hb11 => ?_)
    ·have h:=cond_t hb11 h
     refine yyy hn 1 [27,2] ?_
     refine ht_ret ?_
     refine pt_pick [1] (by kernel_rfl) (es':=[(_,_)]) rfl ?_
     refine pt_r_then ?_
     obtain rfl:=zi h
     exact pt_ret hio rfl (.tmp _ _ .nil) rfl rfl
    ·have h:=cond_f hb11 h
     refine ht_skip ?_
     refine pt_then ?_
     refine yyy hn 1 [27,2] ?_
     refine ht_ret ?_
     refine pt_pick [1] (by kernel_rfl) (es':=[(_,_)]) rfl ?_
     obtain rfl:=zi h
     exact pt_ret hio rfl (.tmp _ _ .nil) rfl rfl
   ·intro u8 h hl9 hr10
    refine cond_some h (fun hg3_2 h => ?_) (fun hg3_2 h => ?_)
    ·refine yx hn 3 ?_
     refine yd hg3_2 3 ?_
     refine ye [27,26] ?_
     exact hl9 _ (zi h).symm
    ·refine yx hn 3 ?_
     refine yd hg3_2 3 ?_
     refine ye [27,26] ?_
     exact hl9 _ (zi h).symm
  ·intro u4 h hl5 hr6
   refine cond_some h (fun hg2_3 h => ?_) (fun hg2_3 h => ?_)
   ·obtain ⟨v1, hv1, h⟩:=zn h
    refine cond_some h (fun hg2_8 h => ?_) (fun hg2_8 h => ?_)
    ·obtain ⟨v2, hv2, h⟩:=zn h
     refine yx hn 4 ?_
     refine yd hg2_3 2 ?_
     refine ys 2 ⟨lg call79 (ok_path_local _ _ _ hv1) 27⟩ ?_
     refine yd hg2_8 2 ?_
     refine ys 2 ⟨lg call73 (ok_path_Domain _ _ _ hv2) 27⟩ ?_
     refine ye [27,3,4] ?_
     exact hl5 _ (zi h).symm
    ·refine yx hn 4 ?_
     refine yd hg2_3 2 ?_
     refine ys 2 ⟨lg call79 (ok_path_local _ _ _ hv1) 27⟩ ?_
     refine yd hg2_8 5 ?_
     refine ye [27,3,4] ?_
     exact hl5 _ (zi h).symm
   ·refine yx hn 4 ?_
    refine yd hg2_3 10 ?_
    refine ye [27,3,4] ?_
    exact hl5 _ (zi h).symm
theorem ok_path_Parse (mx:Int) (s:ByteArray) (r:(T_Path×Int)) (h:Sh.path_Parse s=some r):FnG Tryz.prog (GL mx) 52 [.v (.string s)] (.tup [.agg [.v (.bool r.1.Null), .v (.string r.1.Local), .v (.string r.1.Domain)], .v (.int .i64 r.2)]):=by
  unfold Sh.path_Parse at h
  refine yG 50 func52 fun g0 hn hio => ?_
  refine yxx hn 0 ?_
  refine yS (.box 24 [vb false,vs z0,vs z0]) 1 ⟨oA (op_alloc _ _ zr24)⟩ ?_
  refine yee [0,50,2] ?_
  refine ht_seq ?_
  refine yyy hn 2 [0,50,2,12] ?_
  refine ht_cond _ rfl (fun hb1 => ?_) (fun hb1 => ?_)
  ·have h:=cond_t hb1 h
   refine yxx hn 0 ?_
   refine yS (.agg [vb true,vs z0,vs z0]) 2 ⟨op_build _ _ _ _ [1,1,1] _ _ underlying24 zr24 (fs24 _ underlying24) (.copy _ Src.nil) rfl rfl rfl⟩ ?_
   refine yee [50,2,3] ?_
   refine ht_ret ?_
   refine pt_pick [1,2] (by kernel_rfl) (es':=[(_,_),(_,_)]) rfl ?_
   refine pt_r_then ?_
   obtain rfl:=zi h
   exact pt_ret hio rfl (.cellA _ _ _ _ underlying24 rfl sz24 (.tmp _ _ .nil)) rfl rfl
  ·have h:=cond_f hb1 h
   refine ht_skip ?_
   refine pt_then (ht_seq ?_)
   obtain ⟨v2, hv2, h⟩:=zn h
   refine yx hn 1 ?_
   refine ys 0 ⟨lk call69 (ok_strings_CutPrefix _ _ _ hv2)⟩ ?_
   refine ym 4 ?_
   refine yee [50,2,4,5] ?_
   refine ht_seq ?_
   obtain ⟨v3, hv3, h⟩:=zn h
   refine yx hn 1 ?_
   refine ys 0 ⟨lk call70 (ok_strings_CutSuffix _ _ _ hv3)⟩ ?_
   refine ym 2 ?_
   refine yw [4] 2 ?_
   refine yee [50,2,5,4,6] ?_
   refine ht_seq ?_
   obtain ⟨v4, hv4, h⟩:=zn h
   refine yx hn 1 ?_
   refine ys 0 ⟨lk call71 (ok_strings_Cut _ _ _ hv4)⟩ ?_
   refine ym 6 ?_
   refine yee [50,2,5,6,7,8,9] ?_
   refine yxx hn 2 ?_
   refine yS (.agg [vb false,vs v4.1,vs v4.2.1]) 0 ⟨op_build _ _ _ _ [1,1,1] _ _ underlying24 zr24 (fs24 _ underlying24) (.copy _ (.copy _ Src.nil)) rfl rfl rfl⟩ ?_
   refine yS (.box 24 [vb false,vs z0,vs z0]) 1 ⟨oA (op_alloc _ _ zr24)⟩ ?_
   refine yee [50,2,5,6,9,10] ?_
   refine ht_seq ?_
   refine ht_seq ?_
   refine ht_joinS h (fun (s6:Bool)=>[(50,.glob (GL mx)),(2,.box 24 [vb false,vs z0,vs z0]),(10,.box 24 [vb false,vs v4.1,vs v4.2.1]),(47,vb s6)]) ?_ ?_
   ·rintro s6 h
    refine pt_then ?_
    refine ht_cond _ rfl (fun hb10 => ?_) (fun hb10 => ?_)
    ·have h:=cond_t hb10 h
     refine yxx hn 0 ?_
     refine yS (.agg [vb false,vs z0,vs z0]) 0 ⟨op_build _ _ _ _ [1,1,1] _ _ underlying24 zr24 (fs24 _ underlying24) Src.nil rfl rfl rfl⟩ ?_
     refine yk [48,2] [] ?_
     refine yt (2,.box 24 [vb false,vs z0,vs z0]) 1 ⟨op_store_self _ _ _ 48 2 3 sz24 rfl rfl rfl rfl rfl (.eq _ (.eq _ (.eq _ (.nil _)))) rfl⟩ ?_
     refine yee [50,2,3] ?_
     refine ht_ret ?_
     refine pt_pick [1,2] (by kernel_rfl) (es':=[(_,_),(_,_)]) rfl ?_
     refine pt_r_then ?_
     obtain rfl:=zi h
     exact pt_ret hio rfl (.cellA _ _ _ _ underlying24 rfl sz24 (.tmp _ _ .nil)) rfl rfl
    ·have h:=cond_f hb10 h
     refine ht_skip ?_
     refine pt_then ?_
     refine yyy hn 3 [50,2,3] ?_
     refine ht_ret ?_
     refine pt_pick [1,2] (by kernel_rfl) (es':=[(_,_),(_,_)]) rfl ?_
     obtain rfl:=zi h
     exact pt_ret hio rfl (.cellA _ _ _ _ underlying24 rfl sz24 (.tmp _ _ .nil)) rfl rfl
   ·intro u7 h hl8 hr9
    refine cond_some h (fun hg7_2 h => ?_) (fun hg7_2 h => ?_)
    ·refine yx hn 3 ?_
     refine yd hg7_2 12 ?_
     refine ye [50,2,10,47] ?_
     exact hl8 _ (zi h).symm
    ·refine cond_some h (fun hg7_6 h => ?_) (fun hg7_6 h => ?_)
     ·refine yx hn 3 ?_
      refine yd hg7_2 4 ?_
      refine yd hg7_6 8 ?_
      refine ye [50,2,10,47] ?_
      exact hl8 _ (zi h).symm
     ·refine cond_some h (fun hg7_10 h => ?_) (fun hg7_10 h => ?_)
      ·refine yx hn 3 ?_
       refine yd hg7_2 4 ?_
       refine yd hg7_6 4 ?_
       refine yd hg7_10 4 ?_
       refine ye [50,2,10,47] ?_
       exact hl8 _ (zi h).symm
      ·obtain ⟨v5, hv5, h⟩:=zn h
       refine yx hn 3 ?_
       refine yd hg7_2 4 ?_
       refine yd hg7_6 4 ?_
       refine yd hg7_10 1 ?_
       refine ys 2 ⟨lg call65 (ok_path_Check _ _ _ hv5) 50⟩ ?_
       refine ye [50,2,10,47] ?_
       exact hl8 _ (zi h).symm
theorem ok_path_Text (mx:Int) (p:T_Path) (r:(ByteArray×Int)) (h:Sh.path_Text p=some r):FnG Tryz.prog (GL mx) 86 [.agg [.v (.bool p.Null), .v (.string p.Local), .v (.string p.Domain)]] (.tup [.v (.string r.1), .v (.int .i64 r.2)]):=by
  unfold Sh.path_Text at h
  refine yG 20 func86 fun g0 hn hio => ?_
  refine yyy hn 3 [20,1] ?_
  refine ht_seq ?_
  refine ht_seq ?_
  obtain ⟨v1, hv1, h⟩:=zn h
  refine yx hn 1 ?_
  refine ys 1 ⟨lg call65 (ok_path_Check _ _ _ hv1) 20⟩ ?_
  refine yee [20,1,4] ?_
  refine yyy hn 2 [20,1,4,8] ?_
  refine ht_cond _ rfl (fun hb2 => ?_) (fun hb2 => ?_)
  ·have h:=cond_t hb2 h
   refine yyy hn 3 [20,2,3] ?_
   refine ht_ret ?_
   refine pt_pick [1,2] (by kernel_rfl) (es':=[(_,_),(_,_)]) rfl ?_
   refine pt_r_then ?_
   obtain rfl:=zi h
   exact pt_ret hio rfl (.tmp _ _ (.tmp _ _ .nil)) rfl rfl
  ·have h:=cond_f hb2 h
   refine ht_skip ?_
   refine pt_then (ht_seq ?_)
   refine yyy hn 2 [20,1,11] ?_
   refine ht_cond _ rfl (fun hb3 => ?_) (fun hb3 => ?_)
   ·have h:=cond_t hb3 h
    refine yyy hn 2 [20,2,3] ?_
    refine ht_ret ?_
    refine pt_pick [1,2] (by kernel_rfl) (es':=[(_,_),(_,_)]) rfl ?_
    refine pt_r_then ?_
    obtain rfl:=zi h
    exact pt_ret hio rfl (.tmp _ _ (.tmp _ _ .nil)) rfl rfl
   ·have h:=cond_f hb3 h
    refine ht_skip ?_
    refine pt_then (ht_seq ?_)
    obtain ⟨v4, hv4, h⟩:=zn h
    obtain ⟨v5, hv5, h⟩:=zn h
    obtain ⟨v6, hv6, h⟩:=zn h
    obtain ⟨v7, hv7, h⟩:=zn h
    refine yx hn 2 ?_
    refine ys 0 ⟨lB (cat_ok hv4)⟩ ?_
    refine ys 2 ⟨lB (cat_ok hv5)⟩ ?_
    refine ys 0 ⟨lB (cat_ok hv6)⟩ ?_
    refine ys 2 ⟨lB (cat_ok hv7)⟩ ?_
    refine yee [20,2,3] ?_
    refine ht_ret ?_
    refine pt_pick [1,2] (by kernel_rfl) (es':=[(_,_),(_,_)]) rfl ?_
    obtain rfl:=zi h
    exact pt_ret hio rfl (.tmp _ _ (.tmp _ _ .nil)) rfl rfl
theorem ok_report_text (mx:Int) (p:T_Path) (r:(ByteArray×Bool)) (h:Sh.report_text p=some r):FnG Tryz.prog (GL mx) 72 [.agg [.v (.bool p.Null), .v (.string p.Local), .v (.string p.Domain)]] (.tup [.v (.string r.1), .v (.bool r.2)]):=by
  unfold Sh.report_text at h
  refine yG 19 func72 fun g0 hn hio => ?_
  refine yyy hn 3 [19,1] ?_
  refine ht_seq ?_
  obtain ⟨v1, hv1, h⟩:=zn h
  refine yx hn 1 ?_
  refine ys 0 ⟨lg call86 (ok_path_Text _ _ _ hv1) 19⟩ ?_
  refine ym 4 ?_
  refine yee [19,1,4,5] ?_
  refine ht_seq ?_
  refine ht_joinS h (fun (s2:Bool)=>[(19,.glob (GL mx)),(2,vs v1.1),(3,vb s2)]) ?_ ?_
  ·rintro s2 h
   refine pt_then (ht_ret ?_)
   refine pt_pick [1,2] (by kernel_rfl) (es':=[(_,_),(_,_)]) rfl ?_
   obtain rfl:=zi h
   exact pt_ret hio rfl (.tmp _ _ (.tmp _ _ .nil)) rfl rfl
  ·intro u3 h hl4 hr5
   refine cond_some h (fun hg2_3 h => ?_) (fun hg2_3 h => ?_)
   ·refine wb [[4],[5],[12],[13]] ?_
    refine wd hg2_3 [[14,1],[14,15,1],[14,16],[14,17],[11],[18]] ?_
    refine we hn [19,2,3] ?_
    exact hl4 _ (zi h).symm
   ·refine wb [[4],[5],[12],[13]] ?_
    refine wd hg2_3 [[14],[14],[14],[14],[11],[18]] ?_
    refine we hn [19,2,3] ?_
    exact hl4 _ (zi h).symm
theorem ok_strings_Join (l:List ByteArray) (sep r:ByteArray) (h:Sh.strings_Join l sep=some r):FnOK Tryz.prog 74 [.fl .shr 1 (map Value.string l), .v (.string sep)] (.v (.string r)):=lib_strings_Join Tryz.strings_Join_none Tryz.strings_Join l sep r h
theorem ok_report_Build (mx:Int) (site:ByteArray) (sender:T_Path) (rcpt:T_Path) (r:((List Int)×Int)) (h:Sh.report_Build site sender rcpt=some r):FnG Tryz.prog (GL mx) 53 [.v (.string site), .agg [.v (.bool sender.Null), .v (.string sender.Local), .v (.string sender.Domain)], .agg [.v (.bool rcpt.Null), .v (.string rcpt.Local), .v (.string rcpt.Domain)]] (.tup [.mkr 5 (map (int .u8) r.1), .v (.int .i64 r.2)]):=by
  unfold Sh.report_Build at h
  refine yG 51 func53 fun g0 hn hio => ?_
  refine yyy hn 4 [0,51,4,5] ?_
  refine ht_seq ?_
  obtain ⟨v1, hv1, h⟩:=zn h
  refine yx hn 1 ?_
  refine ys 0 ⟨lg call72 (ok_report_text _ _ _ hv1) 51⟩ ?_
  refine ym 4 ?_
  refine yee [0,51,5,8,9] ?_
  refine ht_seq ?_
  obtain ⟨v2, hv2, h⟩:=zn h
  refine yx hn 1 ?_
  refine ys 0 ⟨lg call72 (ok_report_text _ _ _ hv2) 51⟩ ?_
  refine ym 4 ?_
  refine yee [0,51,8,9,10,11] ?_
  refine ht_seq ?_
  refine ht_seq ?_
  refine ht_joinS h (fun (s19:Bool)=>[(0,vs site),(51,.glob (GL mx)),(8,vs v1.1),(10,vs v2.1),(33,vb s19)]) ?_ ?_
  ·rintro s19 h
   refine pt_then ?_
   refine ht_cond _ rfl (fun hb23 => ?_) (fun hb23 => ?_)
   ·have h:=cond_t hb23 h
    refine yyy hn 2 [51,6,7] ?_
    refine ht_ret ?_
    refine pt_pick [1,2] (by kernel_rfl) (es':=[(_,_),(_,_)]) rfl ?_
    refine pt_sub (fs:=[(6,.mkr 5 (map (int .u8) [])),(7,vi 5)]) (.sub _ (sub_nil_mk 5) rfl (.same _ .nil)) ?_
    refine pt_r_then ?_
    obtain rfl:=zi h
    exact pt_ret hio rfl (.tmp _ _ (.tmp _ _ .nil)) rfl rfl
   ·have h:=cond_f hb23 h
    refine ht_skip ?_
    refine pt_then (ht_seq ?_)
    obtain ⟨v9, hv9, h⟩:=zn h
    obtain ⟨v10, hv10, h⟩:=zn h
    obtain ⟨v11, hv11, h⟩:=zn h
    obtain ⟨v12, hv12, h⟩:=zn h
    obtain ⟨v13, hv13, h⟩:=zn h
    obtain ⟨v14, hv14, h⟩:=zn h
    obtain ⟨v15, hv15, h⟩:=zn h
    refine yx hn 1 ?_
    refine ys 0 ⟨lB (cat_ok hv9)⟩ ?_
    refine ys 1 ⟨lB (cat_ok hv10)⟩ ?_
    refine ys 1 ⟨lB (cat_ok hv11)⟩ ?_
    refine ys 0 ⟨lB (cat_ok hv12)⟩ ?_
    refine ys 1 ⟨lB (cat_ok hv13)⟩ ?_
    refine ys 1 ⟨lB (cat_ok hv14)⟩ ?_
    refine ys 0 ⟨lB (cat_ok hv15)⟩ ?_
    refine yS (.fl (.own 9) 1 (map Value.string ([v10,v11,(⟨#[83,117,98,106,101,99,116,58,32,85,110,100,101,108,105,118,101,114,101,100,32,109,97,105,108]⟩:ByteArray),(⟨#[67,111,110,116,101,110,116,45,84,121,112,101,58,32,109,117,108,116,105,112,97,114,116,47,114,101,112,111,114,116,59,32,114,101,112,111,114,116,45,116,121,112,101,61,100,101,108,105,118,101,114,121,45,115,116,97,116,117,115,59,32,98,111,117,110,100,97,114,121,61,119]⟩:ByteArray),z0,(⟨#[45,45,119]⟩:ByteArray),(⟨#[67,111,110,116,101,110,116,45,84,121,112,101,58,32,116,101,120,116,47,112,108,97,105,110]⟩:ByteArray),z0,v13,(⟨#[45,45,119]⟩:ByteArray),(⟨#[67,111,110,116,101,110,116,45,84,121,112,101,58,32,109,101,115,115,97,103,101,47,100,101,108,105,118,101,114,121,45,115,116,97,116,117,115]⟩:ByteArray),z0,v14,z0,v15,(⟨#[65,99,116,105,111,110,58,32,102,97,105,108,101,100]⟩:ByteArray),(⟨#[83,116,97,116,117,115,58,32,52,46,52,46,55]⟩:ByteArray),(⟨#[45,45,119,45,45]⟩:ByteArray)]))) 0 ⟨op_buildSlice _ _ 1 (.string ByteArray.empty) (map Value.string ([v10,v11,(⟨#[83,117,98,106,101,99,116,58,32,85,110,100,101,108,105,118,101,114,101,100,32,109,97,105,108]⟩:ByteArray),(⟨#[67,111,110,116,101,110,116,45,84,121,112,101,58,32,109,117,108,116,105,112,97,114,116,47,114,101,112,111,114,116,59,32,114,101,112,111,114,116,45,116,121,112,101,61,100,101,108,105,118,101,114,121,45,115,116,97,116,117,115,59,32,98,111,117,110,100,97,114,121,61,119]⟩:ByteArray),z0,(⟨#[45,45,119]⟩:ByteArray),(⟨#[67,111,110,116,101,110,116,45,84,121,112,101,58,32,116,101,120,116,47,112,108,97,105,110]⟩:ByteArray),z0,v13,(⟨#[45,45,119]⟩:ByteArray),(⟨#[67,111,110,116,101,110,116,45,84,121,112,101,58,32,109,101,115,115,97,103,101,47,100,101,108,105,118,101,114,121,45,115,116,97,116,117,115]⟩:ByteArray),z0,v14,z0,v15,(⟨#[65,99,116,105,111,110,58,32,102,97,105,108,101,100]⟩:ByteArray),(⟨#[83,116,97,116,117,115,58,32,52,46,52,46,55]⟩:ByteArray),(⟨#[45,45,119,45,45]⟩:ByteArray)])) [(0,.string v10),(1,.string v11),(2,.string (⟨#[83,117,98,106,101,99,116,58,32,85,110,100,101,108,105,118,101,114,101,100,32,109,97,105,108]⟩:ByteArray)),(3,.string (⟨#[67,111,110,116,101,110,116,45,84,121,112,101,58,32,109,117,108,116,105,112,97,114,116,47,114,101,112,111,114,116,59,32,114,101,112,111,114,116,45,116,121,112,101,61,100,101,108,105,118,101,114,121,45,115,116,97,116,117,115,59,32,98,111,117,110,100,97,114,121,61,119]⟩:ByteArray)),(4,.string ByteArray.empty),(5,.string (⟨#[45,45,119]⟩:ByteArray)),(6,.string (⟨#[67,111,110,116,101,110,116,45,84,121,112,101,58,32,116,101,120,116,47,112,108,97,105,110]⟩:ByteArray)),(7,.string ByteArray.empty),(8,.string v13),(9,.string (⟨#[45,45,119]⟩:ByteArray)),(10,.string (⟨#[67,111,110,116,101,110,116,45,84,121,112,101,58,32,109,101,115,115,97,103,101,47,100,101,108,105,118,101,114,121,45,115,116,97,116,117,115]⟩:ByteArray)),(11,.string ByteArray.empty),(12,.string v14),(13,.string ByteArray.empty),(14,.string v15),(15,.string (⟨#[65,99,116,105,111,110,58,32,102,97,105,108,101,100]⟩:ByteArray)),(16,.string (⟨#[83,116,97,116,117,115,58,32,52,46,52,46,55]⟩:ByteArray)),(17,.string (⟨#[45,45,119,45,45]⟩:ByteArray))] underlying105 sz9 zr9 (fun _ V w o a hv hes=>by have e0:=rd_v hv hes (x := .tmp 36) rfl; have e1:=rd_v hv hes (x := .tmp 38) rfl; have e8:=rd_v hv hes (x := .tmp 41) rfl; have e12:=rd_v hv hes (x := .tmp 43) rfl; have e14:=rd_v hv hes (x := .tmp 45) rfl; simp only [List.map_toArray,List.map_cons,List.map_nil,e0,e1,e8,e12,e14]; try rfl) (litfill (by simp [Instr.fill,Value.cells]; rfl) (by simp [List.range,List.range.loop] <;> rfl)) (by simp [Value.oneCell']) rfl (by decide) (by decide) (by decide)⟩ ?_
    refine ya 0 ?_
    refine yee [51,12] ?_
    refine ht_seq ?_
    obtain ⟨v16, hv16, h⟩:=zn h
    obtain ⟨v17, hv17, h⟩:=zn h
    obtain ⟨v18, hv18, h⟩:=zn h
    refine yx hn 0 ?_
    refine ym 0 ?_
    refine ys 0 ⟨lk call74 (ok_strings_Join _ _ _ hv16)⟩ ?_
    refine ys 0 ⟨lB (cat_ok hv17)⟩ ?_
    refine ys 0 ⟨lU hv18⟩ ?_
    refine ya 1 ?_
    refine yee [51,6,7] ?_
    refine ht_ret ?_
    refine pt_pick [1,2] (by kernel_rfl) (es':=[(_,_),(_,_)]) rfl ?_
    obtain rfl:=zi h
    exact pt_ret hio rfl (.tmp _ _ (.tmp _ _ .nil)) rfl rfl
  ·intro u20 h hl21 hr22
   obtain ⟨v3, hv3, h⟩:=zn h
   refine cond_some h (fun hg3_3 h => ?_) (fun hg3_3 h => ?_)
   ·refine yx hn 1 ?_
    refine ys 2 ⟨lg call73 (ok_path_Domain _ _ _ hv3) 51⟩ ?_
    refine yd hg3_3 7 ?_
    refine ye [0,51,8,10,33] ?_
    exact hl21 _ (zi h).symm
   ·refine cond_some h (fun hg3_7 h => ?_) (fun hg3_7 h => ?_)
    ·refine yx hn 1 ?_
     refine ys 2 ⟨lg call73 (ok_path_Domain _ _ _ hv3) 51⟩ ?_
     refine yd hg3_3 4 ?_
     refine yd hg3_7 3 ?_
     refine ye [0,51,8,10,33] ?_
     exact hl21 _ (zi h).symm
    ·refine yx hn 1 ?_
     refine ys 2 ⟨lg call73 (ok_path_Domain _ _ _ hv3) 51⟩ ?_
     refine yd hg3_3 4 ?_
     refine yd hg3_7 3 ?_
     refine ye [0,51,8,10,33] ?_
     exact hl21 _ (zi h).symm
theorem ok_report_Read (mx:Int) (b:(List Int)) (r:(ByteArray×T_Path×T_Path×Int)) (h:Sh.report_Read b=some r):FnG Tryz.prog (GL mx) 36 [.fl .shr 1 (map (int .u8) b)] (.tup [.v (.string r.1), .agg [.v (.bool r.2.1.Null), .v (.string r.2.1.Local), .v (.string r.2.1.Domain)], .agg [.v (.bool r.2.2.1.Null), .v (.string r.2.2.1.Local), .v (.string r.2.2.1.Domain)], .v (.int .i64 r.2.2.2)]):=by
  unfold Sh.report_Read at h
  refine yG 58 func36 fun g0 hn hio => ?_
  refine yxx hn 1 ?_
  refine yS (.box 24 [vb false,vs z0,vs z0]) 0 ⟨oA (op_alloc _ _ zr24)⟩ ?_
  refine yS (.box 24 [vb false,vs z0,vs z0]) 1 ⟨oA (op_alloc _ _ zr24)⟩ ?_
  refine yee [0,58,3,4] ?_
  refine ht_seq ?_
  obtain ⟨v1, hv1, h⟩:=zn h
  refine yx hn 1 ?_
  refine ys 1 ⟨lg call50 (ok_dots_Lines _ _ _ hv1) 58⟩ ?_
  refine yee [0,58,3,4,6] ?_
  refine ht_seq ?_
  refine yyy hn 3 [0,58,3,4,6,12] ?_
  refine ht_cond _ rfl (fun hb2 => ?_) (fun hb2 => ?_)
  ·have h:=cond_t hb2 h
   refine yxx hn 0 ?_
   refine yS (.agg [vb false,vs z0,vs z0]) 0 ⟨op_build _ _ _ _ [1,1,1] _ _ underlying24 zr24 (fs24 _ underlying24) Src.nil rfl rfl rfl⟩ ?_
   refine yS (.agg [vb false,vs z0,vs z0]) 1 ⟨op_build _ _ _ _ [1,1,1] _ _ underlying24 zr24 (fs24 _ underlying24) Src.nil rfl rfl rfl⟩ ?_
   refine yk [13,3] [] ?_
   refine yt (3,.box 24 [vb false,vs z0,vs z0]) 0 ⟨op_store_self _ _ _ 13 3 3 sz24 rfl rfl rfl rfl rfl (.eq _ (.eq _ (.eq _ (.nil _)))) rfl⟩ ?_
   refine yk [14,4] [] ?_
   refine yt (4,.box 24 [vb false,vs z0,vs z0]) 1 ⟨op_store_self _ _ _ 14 4 3 sz24 rfl rfl rfl rfl rfl (.eq _ (.eq _ (.eq _ (.nil _)))) rfl⟩ ?_
   refine yee [58,3,4,2,5] ?_
   refine ht_ret ?_
   refine pt_pick [3,1,2,4] (by kernel_rfl) (es':=[(_,_),(_,_),(_,_),(_,_)]) rfl ?_
   refine pt_r_then ?_
   obtain rfl:=zi h
   exact pt_ret hio rfl (.tmp _ _ (.cellA _ _ _ _ underlying24 rfl sz24 (.cellA _ _ _ _ underlying24 rfl sz24 (.tmp _ _ .nil)))) rfl rfl
  ·have h:=cond_f hb2 h
   refine ht_skip ?_
   refine pt_then (ht_seq ?_)
   obtain ⟨v3, hv3, h⟩:=zn h
   obtain ⟨v4, hv4, h⟩:=zn h
   obtain ⟨v5, hv5, h⟩:=zn h
   obtain ⟨v6, hv6, h⟩:=zn h
   refine yx hn 1 ?_
   refine ys 0 ⟨lI hv3⟩ ?_
   refine yS (.fl .ro 1 (map (int .u8) v4)) 0 ⟨op_load_fr _ _ _ _ _ _ _ underlying25 rfl rfl rfl (gflat_cell0 Row_int_u8.ilen hv4 rfl) (.fl _ _ rfl)⟩ ?_
   refine ys 0 ⟨lS hv5⟩ ?_
   refine ys 1 ⟨lk call51 (ok_strings_TrimPrefix _ _ _ hv6)⟩ ?_
   refine yee [0,58,3,4,6,2] ?_
   refine ht_seq ?_
   obtain ⟨v7, hv7, h⟩:=zn h
   obtain ⟨v8, hv8, h⟩:=zn h
   obtain ⟨v9, hv9, h⟩:=zn h
   obtain ⟨v10, hv10, h⟩:=zn h
   obtain ⟨v11, hv11, h⟩:=zn h
   refine yx hn 1 ?_
   refine ys 0 ⟨lI hv7⟩ ?_
   refine yS (.fl .ro 1 (map (int .u8) v8)) 0 ⟨op_load_fr _ _ _ _ _ _ _ underlying25 rfl rfl rfl (gflat_cell0 Row_int_u8.ilen hv8 rfl) (.fl _ _ rfl)⟩ ?_
   refine ys 0 ⟨lS hv9⟩ ?_
   refine ys 0 ⟨lk call51 (ok_strings_TrimPrefix _ _ _ hv10)⟩ ?_
   refine ys 0 ⟨lg call52 (ok_path_Parse _ _ _ hv11) 58⟩ ?_
   refine ym 0 ?_
   refine yS (.agg [vb v11.1.Null,vs v11.1.Local,vs v11.1.Domain]) 2 ⟨op_extract_no _ _ _ _ _ _ rfl rfl (zl rfl) rfl rfl⟩ ?_
   refine yee [0,58,3,4,6,2] ?_
   refine ht_seq ?_
   obtain ⟨v12, hv12, h⟩:=zn h
   obtain ⟨v13, hv13, h⟩:=zn h
   obtain ⟨v14, hv14, h⟩:=zn h
   obtain ⟨v15, hv15, h⟩:=zn h
   obtain ⟨v16, hv16, h⟩:=zn h
   refine yx hn 1 ?_
   refine ys 0 ⟨lI hv12⟩ ?_
   refine yS (.fl .ro 1 (map (int .u8) v13)) 0 ⟨op_load_fr _ _ _ _ _ _ _ underlying25 rfl rfl rfl (gflat_cell0 Row_int_u8.ilen hv13 rfl) (.fl _ _ rfl)⟩ ?_
   refine ys 0 ⟨lS hv14⟩ ?_
   refine ys 0 ⟨lk call51 (ok_strings_TrimPrefix _ _ _ hv15)⟩ ?_
   refine ys 0 ⟨lg call52 (ok_path_Parse _ _ _ hv16) 58⟩ ?_
   refine ym 0 ?_
   refine yS (.agg [vb v16.1.Null,vs v16.1.Local,vs v16.1.Domain]) 2 ⟨op_extract_no _ _ _ _ _ _ rfl rfl (zl rfl) rfl rfl⟩ ?_
   refine yee [0,58,3,4,2] ?_
   refine ht_seq ?_
   obtain ⟨v17, hv17, h⟩:=zn h
   refine yx hn 3 ?_
   refine ys 0 ⟨lg call53 (ok_report_Build _ _ _ _ _ hv17) 58⟩ ?_
   refine ym 0 ?_
   refine yx_ 1 ?_
   refine ya 1 ?_
   refine yee [0,58,3,4,2,7,5] ?_
   refine ht_seq ?_
   refine ht_seq ?_
   refine ht_joinS h (fun (s19:Bool)=>[(58,.glob (GL mx)),(3,.box 24 [vb v11.1.Null,vs v11.1.Local,vs v11.1.Domain]),(4,.box 24 [vb v16.1.Null,vs v16.1.Local,vs v16.1.Domain]),(2,vs v6),(52,vb s19)]) ?_ ?_
   ·rintro s19 h
    refine pt_then ?_
    refine ht_cond _ rfl (fun hb23 => ?_) (fun hb23 => ?_)
    ·have h:=cond_t hb23 h
     refine yxx hn 0 ?_
     refine yS (.agg [vb false,vs z0,vs z0]) 0 ⟨op_build _ _ _ _ [1,1,1] _ _ underlying24 zr24 (fs24 _ underlying24) Src.nil rfl rfl rfl⟩ ?_
     refine yS (.agg [vb false,vs z0,vs z0]) 0 ⟨op_build _ _ _ _ [1,1,1] _ _ underlying24 zr24 (fs24 _ underlying24) Src.nil rfl rfl rfl⟩ ?_
     refine yw [2] 4 ?_
     refine yee [58,3,4,2,5] ?_
     refine ht_ret ?_
     refine pt_pick [3,1,2,4] (by kernel_rfl) (es':=[(_,_),(_,_),(_,_),(_,_)]) rfl ?_
     refine pt_r_then ?_
     obtain rfl:=zi h
     exact pt_ret hio rfl (.tmp _ _ (.cellA _ _ _ _ underlying24 rfl sz24 (.cellA _ _ _ _ underlying24 rfl sz24 (.tmp _ _ .nil)))) rfl rfl
    ·have h:=cond_f hb23 h
     refine ht_skip ?_
     refine pt_then (ht_seq ?_)
     refine wb [[2],[3],[4]] ?_
     refine wK [2] [55] ?_
     refine wt [(2,vs v6)] [] ⟨LOp.drop [_] (op_assign _ _ _ _ rfl rfl)⟩ ?_
     refine wK [56,3] [] ?_
     refine wt [(3,.box 24 [vb v11.1.Null,vs v11.1.Local,vs v11.1.Domain])] [] ⟨op_store_self _ _ _ 56 3 3 sz24 rfl rfl rfl rfl rfl (.eq _ (.eq _ (.eq _ (.nil _)))) rfl⟩ ?_
     refine wK [57,4] [] ?_
     refine wt [(4,.box 24 [vb v16.1.Null,vs v16.1.Local,vs v16.1.Domain])] [[]] ⟨op_store_self _ _ _ 57 4 3 sz24 rfl rfl rfl rfl rfl (.eq _ (.eq _ (.eq _ (.nil _)))) rfl⟩ ?_
     refine wee hn [58,3,4,2,5] ?_
     refine ht_ret ?_
     refine pt_pick [3,1,2,4] (by kernel_rfl) (es':=[(_,_),(_,_),(_,_),(_,_)]) rfl ?_
     obtain rfl:=zi h
     exact pt_ret hio rfl (.tmp _ _ (.cellA _ _ _ _ underlying24 rfl sz24 (.cellA _ _ _ _ underlying24 rfl sz24 (.tmp _ _ .nil)))) rfl rfl
   ·intro u20 h hl21 hr22
    refine cond_some h (fun hg8_2 h => ?_) (fun hg8_2 h => ?_)
    ·refine yx hn 3 ?_
     refine yd hg8_2 5 ?_
     refine ye [58,3,4,2,52] ?_
     exact hl21 _ (zi h).symm
    ·obtain ⟨v18, hv18, h⟩:=zn h
     refine yx hn 3 ?_
     refine yd hg8_2 0 ?_
     refine ym 1 ?_
     refine ys 2 ⟨lk call24 (ok_bytes_Equal _ _ _ hv18)⟩ ?_
     refine ye [58,3,4,2,52] ?_
     exact hl21 _ (zi h).symm
theorem ok_tally_reports (mx:Int) (b:(List Int)) (to_:T_Path) (r:Bool) (h:Sh.tally_reports b to_=some r):FnG Tryz.prog (GL mx) 25 [.fl .shr 1 (map (int .u8) b), .agg [.v (.bool to_.Null), .v (.string to_.Local), .v (.string to_.Domain)]] (.v (.bool r)):=by
  unfold Sh.tally_reports at h
  refine yG 23 func25 fun g0 hn hio => ?_
  refine yyy hn 2 [0,23,3] ?_
  refine ht_seq ?_
  obtain ⟨v1, hv1, h⟩:=zn h
  refine yx hn 1 ?_
  refine ys 0 ⟨lg call36 (ok_report_Read _ _ _ hv1) 23⟩ ?_
  refine ym 1 ?_
  refine yS (.agg [vb v1.2.1.Null,vs v1.2.1.Local,vs v1.2.1.Domain]) 0 ⟨op_extract_no _ _ _ _ _ _ rfl rfl (zl rfl) rfl rfl⟩ ?_
  refine yS (.agg [vb v1.2.2.1.Null,vs v1.2.2.1.Local,vs v1.2.2.1.Domain]) 1 ⟨op_extract_no _ _ _ _ _ _ rfl rfl (zl rfl) rfl rfl⟩ ?_
  refine yS (.box 24 [vb false,vs z0,vs z0]) 0 ⟨oA (op_alloc _ _ zr24)⟩ ?_
  refine yS (.box 24 [vb false,vs z0,vs z0]) 4 ⟨oA (op_alloc _ _ zr24)⟩ ?_
  refine yee [23,3,7,8] ?_
  refine ht_seq ?_
  refine ht_joinS h (fun (s2:Bool)=>[(23,.glob (GL mx)),(4,vb s2)]) ?_ ?_
  ·rintro s2 h
   refine pt_then (ht_ret ?_)
   refine pt_pick [1] (by kernel_rfl) (es':=[(_,_)]) rfl ?_
   obtain rfl:=zi h
   exact pt_ret hio rfl (.tmp _ _ .nil) rfl rfl
  ·intro u3 h hl4 hr5
   refine cond_some h (fun hg2_2 h => ?_) (fun hg2_2 h => ?_)
   ·refine yx hn 3 ?_
    refine yd hg2_2 2 ?_
    refine yS (vb ((v1.2.2.1.Null==to_.Null)&&((v1.2.2.1.Local.toList==to_.Local.toList)&&((v1.2.2.1.Domain.toList==to_.Domain.toList)&&true)))) 2 ⟨op_eq_st _ _ [.bool v1.2.2.1.Null,.string v1.2.2.1.Local,.string v1.2.2.1.Domain] [.bool to_.Null,.string to_.Local,.string to_.Domain] (((v1.2.2.1.Null==to_.Null)&&((v1.2.2.1.Local.toList==to_.Local.toList)&&((v1.2.2.1.Domain.toList==to_.Domain.toList)&&true)))) _ false (by kernel_rfl) (by kernel_rfl) (by kernel_rfl) (by kernel_rfl) (by kernel_rfl) rfl rfl rfl rfl (by kernel_rfl) rfl⟩ ?_
    refine ye [23,4] ?_
    exact hl4 _ (zi h).symm
   ·refine yx hn 3 ?_
    refine yd hg2_2 5 ?_
    refine ye [23,4] ?_
    exact hl4 _ (zi h).symm
end Go.Proofs.YtofbofdggabfiaaGreatDoor
