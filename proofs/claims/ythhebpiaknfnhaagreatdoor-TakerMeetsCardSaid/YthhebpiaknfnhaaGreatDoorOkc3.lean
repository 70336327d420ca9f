/-
  The model's runs are what is told in Lean.
-/
import Derived.Test.YthhebpiaknfnhaaGreatDoorProg
import Derived.KernelRfl
import Derived.Test.YthhebpiaknfnhaaGreatDoorShelf
import Derived.Test.YthhebpiaknfnhaaGreatDoorIdx
import Derived.Test.YthhebpiaknfnhaaGreatDoorIns
import Derived.Test.YthhebpiaknfnhaaGreatDoorB1
import Derived.Test.YthhebpiaknfnhaaGreatDoorC1
import Derived.Test.YthhebpiaknfnhaaGreatDoorOkc2
set_option linter.unusedVariables false
set_option linter.unusedSimpArgs false
set_option maxHeartbeats 1000000
namespace Go.Proofs.YthhebpiaknfnhaaGreatDoor
open Go.Abs Go.Abs.Sh Tryz
open List (map flatten)
open Value (int)
theorem ok_path_all_of_path_atom_1 (s:ByteArray) (r:Bool) (h:Sh.path_all_of_path_atom_1 s=some r):FnOK Tryz.prog 80 [.v (.string s), .v (.func (.func 81) #[] #[])] (.v (.bool r)):=by
  unfold Sh.path_all_of_path_atom_1 at h
  refine yO 18 func80 fun g0 hn hio => ?_
  refine yyy hn 1 [0,1] ?_
  refine ht_seq ?_
  refine yyy hn 3 [0,1,7,8] ?_
  refine ht_loopS h (fun (s9:Int)=>[(0,vs s),(1,.v (.func (.func 81) #[] #[])),(7,vi (s.size:Int)),(8,vi s9)]) (fun (():Unit)=>[]) ?_ ?_
  ·rintro ⟨⟩ h
   refine pt_then ?_
   refine yyy hn 1 [4] ?_
   refine ht_ret ?_
   obtain rfl:=zi h
   exact pt_ret hio rfl (.tmp _ _ .nil) rfl rfl
  ·rintro u12 hl13 hr14 s9 rr17 h ho15
   refine yyy hn 1 [0,1,7,8,9] ?_
   refine ht_seq ?_
   refine ht_cond _ rfl (fun hb18 => ?_) (fun hb18 => ?_)
   ·have h:=cond_t hb18 h
    refine ht_skip ?_
    refine pt_then (ht_seq ?_)
    refine ht_block ?_
    refine yyy hn 2 [0,1,7,8,5] ?_
    refine ht_seq ?_
    obtain ⟨v2, hv2, h⟩:=zn h
    obtain ⟨v3, hv3, h⟩:=zn h
    refine yx hn 3 ?_
    refine ys 0 ⟨lh hv2⟩ ?_
    refine ys 1 ⟨lk call81 (ok_path_atom_1 _ _ hv3)⟩ ?_
    refine yee [0,1,7,8,16] ?_
    refine ht_cond _ rfl (fun hb19 => ?_) (fun hb19 => ?_)
    ·have h:=cond_t hb19 h
     refine yyy hn 1 [4] ?_
     refine ht_ret ?_
     refine pt_r_in ?_
     refine pt_r_then ?_
     refine pt_r_then ?_
     refine pt_r_in ?_
     refine pt_r_then ?_
     have h:=hr14 _ (ho15 _ (zi h).symm).symm
     obtain rfl:=zi h
     exact pt_ret hio rfl (.tmp _ _ .nil) rfl rfl
    ·have h:=cond_f hb19 h
     refine ht_skip ?_
     refine pt_inb ?_
     refine pt_then ?_
     obtain ⟨v5, hv5, h⟩:=zn h
     refine yx hn 0 ?_
     refine ys 0 ⟨lb hv5⟩ ?_
     refine yw [8] 1 ?_
     refine ye [0,1,7,8] ?_
     exact pt_next _ (zi h).symm rfl
   ·have h:=cond_f hb18 h
    refine ht_exit ?_
    refine pt_x_then ?_
    refine pt_x_then ?_
    refine pt_x_in ?_
    refine pt_pick [] (by kernel_rfl) (es':=[]) rfl ?_
    exact hl13 _ (ho15 _ (zi h).symm).symm
theorem ok_path_atom (s:ByteArray) (r:Bool) (h:Sh.path_atom s=some r):FnOK Tryz.prog 69 [.v (.string s)] (.v (.bool r)):=by
  unfold Sh.path_atom at h
  refine yO 9 func69 fun g0 hn hio => ?_
  refine yyy hn 1 [0] ?_
  refine ht_seq ?_
  refine ht_joinS h (fun (s2:Bool)=>[(2,vb s2)]) ?_ ?_
  ·rintro s2 h
   refine pt_then (ht_ret ?_)
   obtain rfl:=zi h
   exact pt_ret hio rfl (.tmp _ _ .nil) rfl rfl
  ·intro u3 h hl4 hr5
   refine cond_some h (fun hg1_2 h => ?_) (fun hg1_2 h => ?_)
   ·obtain ⟨v1, hv1, h⟩:=zn h
    refine yx hn 3 ?_
    refine yd hg1_2 1 ?_
    refine ys 2 ⟨lk call80 (ok_path_all_of_path_atom_1 _ _ hv1)⟩ ?_
    refine ye [2] ?_
    exact hl4 _ (zi h).symm
   ·refine yx hn 3 ?_
    refine yd hg1_2 4 ?_
    refine ye [2] ?_
    exact hl4 _ (zi h).symm
theorem ok_path_dotted_of_path_atom (mx:Int) (s:ByteArray) (r:Bool) (h:Sh.path_dotted_of_path_atom s=some r):FnG Tryz.prog (GL mx) 68 [.v (.string s), .v (.func (.func 69) #[] #[])] (.v (.bool r)):=by
  unfold Sh.path_dotted_of_path_atom at h
  refine yG 13 func68 fun g0 hn hio => ?_
  refine yxx hn 1 ?_
  refine yS (.box 4 [vb false]) 0 ⟨oA (op_alloc _ _ zr4)⟩ ?_
  refine yee [0,13,3,4] ?_
  refine ht_seq ?_
  refine ht_seq ?_
  obtain ⟨v1, hv1, h⟩:=zn h
  refine yx hn 1 ?_
  refine yk [] [6] ?_
  refine yt (7,.cloB 98 [.box 9 [vs v1.1],.box 9 [vs v1.2.1],.box 3 [vi v1.2.2]]) 0 ⟨op_callS _ _ 79 _ _ rfl call79 rfl rfl (ok_strings_SplitSeq s (⟨#[46]⟩:ByteArray) _ hv1) rfl⟩ ?_
  refine yee [13,3,4,7] ?_
  refine ht_block ?_
  refine ht_pick [3,0,1,2] (by kernel_rfl) (es':=[(7,.cloB 98 [.box 9 [vs v1.1],.box 9 [vs v1.2.1],.box 3 [vi v1.2.2]]),(13,.glob (GL mx)),(3,.box 110 [.v (.func (.func 69) #[] #[])]),(4,.box 4 [vb false])]) rfl ?_
  refine ht_rangeF h 98 7 8 14 _ [13, 3, 4] call98 (fun (():Unit)=>[(13, .glob (GL mx)), (3, .box 110 [.v (.func (.func 69) #[] #[])]), (4, .box 4 [.v (.bool false)])]) (fun (():Unit)=>[(13, .glob (GL mx)), (3, .box 110 [.v (.func (.func 69) #[] #[])]), (4, .box 4 [.v (.bool false)])]) (fun l J Y hY t t' h=>ok_strings_splitSeq_1 mx l J Y hY v1.1 v1.2.1 v1.2.2 t t' h) hn rfl (fun _=>rfl) (fun _=>rfl) (fun _=>rfl) rfl rfl (fun _=>⟨rfl, rfl⟩) rfl (glIn_look 13 rfl) ?_ ?_ ?_
  ·rintro kk g0 hn hio x ⟨⟩ u h
   refine ht_es (es':=[(8,vs x),(13,.glob (GL mx)),(3,.box 110 [.v (.func (.func 69) #[] #[])]),(4,.box 4 [vb false]),(13,.v (kk.tm.getD 13 undef)),(3,.v (kk.tm.getD 3 undef)),(4,.v (kk.tm.getD 4 undef)),(14,.inv kk.ready)]) rfl ?_
   refine yy hn 1 [13,3,4,14,5,13,3,4] ?_
   refine pt_pick [0,1,2,4,5,6,7,3] (by kernel_rfl) (es':=[(13,.glob (GL mx)),(3,.box 110 [.v (.func (.func 69) #[] #[])]),(4,.box 4 [vb false]),(5,vs x),(13,.v (kk.tm.getD 13 undef)),(3,.v (kk.tm.getD 3 undef)),(4,.v (kk.tm.getD 4 undef)),(14,.inv kk.ready)]) rfl ?_
   refine pt_begin (es:=[(13,.glob (GL mx)),(3,.box 110 [.v (.func (.func 69) #[] #[])]),(4,.box 4 [vb false]),(5,vs x),(13,.v (kk.tm.getD 13 undef)),(3,.v (kk.tm.getD 3 undef)),(4,.v (kk.tm.getD 4 undef))]) 14 rfl ?_
   refine ht_block ?_
   refine ht_seq ?_
   obtain ⟨v2, hv2, h⟩:=zn h
   refine yx hn 2 ?_
   refine ys 1 ⟨lk call69 (ok_path_atom _ _ hv2)⟩ ?_
   refine yee [13,3,4,14,12,13,3,4] ?_
   refine ht_cond _ rfl (fun hb5 => ?_) (fun hb5 => ?_)
   ·have h:=cond_t hb5 h
    refine yyy hn 1 [13,3,4,14,13,3,4] ?_
    refine ht_ret ?_
    refine pt_r_in ?_
    refine pt_pick [0,1,2,4,5,6,3] (by kernel_rfl) (es':=[(_,_),(_,_),(_,_),(_,_),(_,_),(_,_),(_,_)]) rfl ?_
    obtain rfl:=zi h
    exact pt_rret 14 [13, 3, 4] _ rfl rfl (by kernel_rfl)
   ·have h:=cond_f hb5 h
    refine ht_skip ?_
    refine pt_inb ?_
    refine pt_pick [0,1,2,5,6,7,3] (by kernel_rfl) (es':=[(_,_),(_,_),(_,_),(_,_),(_,_),(_,_),(_,_)]) rfl ?_
    obtain rfl:=zi h
    exact pt_rnext 14 [13, 3, 4] _ rfl rfl (by kernel_rfl)
  ·rintro D ⟨⟩ h
   refine pt_inb ?_
   refine pt_then ?_
   refine yyy hn 1 [13,4] ?_
   refine ht_ret ?_
   refine pt_pick [1] (by kernel_rfl) (es':=[(_,_)]) rfl ?_
   obtain rfl:=zi h
   exact pt_ret hio rfl (.cell1 _ _ _ _ underlying4 rfl .nil) rfl rfl
  ·rintro D ⟨⟩ h
   refine pt_pick [2] (by kernel_rfl) (es':=[(_,_)]) rfl ?_
   refine pt_r_in ?_
   refine pt_r_then ?_
   obtain rfl:=zi h
   exact pt_ret hio rfl (.cell1 _ _ _ _ underlying4 rfl .nil) rfl rfl
theorem ok_path_local (mx:Int) (s:ByteArray) (r:Bool) (h:Sh.path_local s=some r):FnG Tryz.prog (GL mx) 62 [.v (.string s)] (.v (.bool r)):=by
  unfold Sh.path_local at h
  refine yG 10 func62 fun g0 hn hio => ?_
  refine yyy hn 1 [0,10] ?_
  refine ht_seq ?_
  refine ht_joinS h (fun (s2:Bool)=>[(10,.glob (GL mx)),(2,vb s2)]) ?_ ?_
  ·rintro s2 h
   refine pt_then (ht_ret ?_)
   refine pt_pick [1] (by kernel_rfl) (es':=[(_,_)]) rfl ?_
   obtain rfl:=zi h
   exact pt_ret hio rfl (.tmp _ _ .nil) rfl rfl
  ·intro u3 h hl4 hr5
   refine cond_some h (fun hg1_3 h => ?_) (fun hg1_3 h => ?_)
   ·obtain ⟨v1, hv1, h⟩:=zn h
    refine yx hn 4 ?_
    refine yd hg1_3 1 ?_
    refine ys 2 ⟨lg call68 (ok_path_dotted_of_path_atom _ _ _ hv1) 10⟩ ?_
    refine ye [10,2] ?_
    exact hl4 _ (zi h).symm
   ·refine yx hn 4 ?_
    refine yd hg1_3 4 ?_
    refine ye [10,2] ?_
    exact hl4 _ (zi h).symm
theorem ok_path_label_1 (c:Int) (r:Bool) (h:Sh.path_label_1 c=some r):FnOK Tryz.prog 84 [.v (.int .u8 c)] (.v (.bool r)):=by
  unfold Sh.path_label_1 at h
  refine yO 9 func84 fun g0 hn hio => ?_
  refine yyy hn 1 [0] ?_
  refine ht_seq ?_
  refine ht_joinS h (fun (s2:Bool)=>[(2,vb s2)]) ?_ ?_
  ·rintro s2 h
   refine pt_then (ht_ret ?_)
   obtain rfl:=zi h
   exact pt_ret hio rfl (.tmp _ _ .nil) rfl rfl
  ·intro u3 h hl4 hr5
   obtain ⟨v1, hv1, h⟩:=zn h
   refine cond_some h (fun hg1_2 h => ?_) (fun hg1_2 h => ?_)
   ·refine yx hn 1 ?_
    refine ys 1 ⟨lk call82 (ok_path_alphanumeric _ _ hv1)⟩ ?_
    refine yd hg1_2 4 ?_
    refine ye [2] ?_
    exact hl4 _ (zi h).symm
   ·refine yx hn 1 ?_
    refine ys 1 ⟨lk call82 (ok_path_alphanumeric _ _ hv1)⟩ ?_
    refine yd hg1_2 4 ?_
    refine ye [2] ?_
    exact hl4 _ (zi h).symm
theorem ok_path_all_of_path_label_1 (s:ByteArray) (r:Bool) (h:Sh.path_all_of_path_label_1 s=some r):FnOK Tryz.prog 80 [.v (.string s), .v (.func (.func 84) #[] #[])] (.v (.bool r)):=by
  unfold Sh.path_all_of_path_label_1 at h
  refine yO 18 func80 fun g0 hn hio => ?_
  refine yyy hn 1 [0,1] ?_
  refine ht_seq ?_
  refine yyy hn 3 [0,1,7,8] ?_
  refine ht_loopS h (fun (s9:Int)=>[(0,vs s),(1,.v (.func (.func 84) #[] #[])),(7,vi (s.size:Int)),(8,vi s9)]) (fun (():Unit)=>[]) ?_ ?_
  ·rintro ⟨⟩ h
   refine pt_then ?_
   refine yyy hn 1 [4] ?_
   refine ht_ret ?_
   obtain rfl:=zi h
   exact pt_ret hio rfl (.tmp _ _ .nil) rfl rfl
  ·rintro u12 hl13 hr14 s9 rr17 h ho15
   refine yyy hn 1 [0,1,7,8,9] ?_
   refine ht_seq ?_
   refine ht_cond _ rfl (fun hb18 => ?_) (fun hb18 => ?_)
   ·have h:=cond_t hb18 h
    refine ht_skip ?_
    refine pt_then (ht_seq ?_)
    refine ht_block ?_
    refine yyy hn 2 [0,1,7,8,5] ?_
    refine ht_seq ?_
    obtain ⟨v2, hv2, h⟩:=zn h
    obtain ⟨v3, hv3, h⟩:=zn h
    refine yx hn 3 ?_
    refine ys 0 ⟨lh hv2⟩ ?_
    refine ys 1 ⟨lk call84 (ok_path_label_1 _ _ hv3)⟩ ?_
    refine yee [0,1,7,8,16] ?_
    refine ht_cond _ rfl (fun hb19 => ?_) (fun hb19 => ?_)
    ·have h:=cond_t hb19 h
     refine yyy hn 1 [4] ?_
     refine ht_ret ?_
     refine pt_r_in ?_
     refine pt_r_then ?_
     refine pt_r_then ?_
     refine pt_r_in ?_
     refine pt_r_then ?_
     have h:=hr14 _ (ho15 _ (zi h).symm).symm
     obtain rfl:=zi h
     exact pt_ret hio rfl (.tmp _ _ .nil) rfl rfl
    ·have h:=cond_f hb19 h
     refine ht_skip ?_
     refine pt_inb ?_
     refine pt_then ?_
     obtain ⟨v5, hv5, h⟩:=zn h
     refine yx hn 0 ?_
     refine ys 0 ⟨lb hv5⟩ ?_
     refine yw [8] 1 ?_
     refine ye [0,1,7,8] ?_
     exact pt_next _ (zi h).symm rfl
   ·have h:=cond_f hb18 h
    refine ht_exit ?_
    refine pt_x_then ?_
    refine pt_x_then ?_
    refine pt_x_in ?_
    refine pt_pick [] (by kernel_rfl) (es':=[]) rfl ?_
    exact hl13 _ (ho15 _ (zi h).symm).symm
theorem ok_path_label (s:ByteArray) (r:Bool) (h:Sh.path_label s=some r):FnOK Tryz.prog 70 [.v (.string s)] (.v (.bool r)):=by
  unfold Sh.path_label at h
  refine yO 27 func70 fun g0 hn hio => ?_
  refine yyy hn 1 [0] ?_
  refine ht_seq ?_
  refine ht_joinS h (fun (s5:Bool)=>[(2,vb s5)]) ?_ ?_
  ·rintro s5 h
   refine pt_then (ht_ret ?_)
   obtain rfl:=zi h
   exact pt_ret hio rfl (.tmp _ _ .nil) rfl rfl
  ·intro u6 h hl7 hr8
   refine cond_some h (fun hg1_2 h => ?_) (fun hg1_2 h => ?_)
   ·refine cond_some h (fun hg1_7 h => ?_) (fun hg1_7 h => ?_)
    ·obtain ⟨v1, hv1, h⟩:=zn h
     refine cond_some h (fun hg1_12 h => ?_) (fun hg1_12 h => ?_)
     ·obtain ⟨v2, hv2, h⟩:=zn h
      obtain ⟨v3, hv3, h⟩:=zn h
      refine cond_some h (fun hg1_20 h => ?_) (fun hg1_20 h => ?_)
      ·obtain ⟨v4, hv4, h⟩:=zn h
       refine yx hn 3 ?_
       refine yd hg1_2 5 ?_
       refine yd hg1_7 1 ?_
       refine ys 3 ⟨lh hv1⟩ ?_
       refine yd hg1_12 3 ?_
       refine ys 0 ⟨lb hv2⟩ ?_
       refine ys 3 ⟨lh hv3⟩ ?_
       refine yd hg1_20 1 ?_
       refine ys 2 ⟨lk call80 (ok_path_all_of_path_label_1 _ _ hv4)⟩ ?_
       refine ye [2] ?_
       exact hl7 _ (zi h).symm
      ·refine yx hn 3 ?_
       refine yd hg1_2 5 ?_
       refine yd hg1_7 1 ?_
       refine ys 3 ⟨lh hv1⟩ ?_
       refine yd hg1_12 3 ?_
       refine ys 0 ⟨lb hv2⟩ ?_
       refine ys 3 ⟨lh hv3⟩ ?_
       refine yd hg1_20 4 ?_
       refine ye [2] ?_
       exact hl7 _ (zi h).symm
     ·refine yx hn 3 ?_
      refine yd hg1_2 5 ?_
      refine yd hg1_7 1 ?_
      refine ys 3 ⟨lh hv1⟩ ?_
      refine yd hg1_12 12 ?_
      refine ye [2] ?_
      exact hl7 _ (zi h).symm
    ·refine yx hn 3 ?_
     refine yd hg1_2 5 ?_
     refine yd hg1_7 17 ?_
     refine ye [2] ?_
     exact hl7 _ (zi h).symm
   ·refine yx hn 3 ?_
    refine yd hg1_2 22 ?_
    refine ye [2] ?_
    exact hl7 _ (zi h).symm
theorem ok_path_dotted_of_path_label (mx:Int) (s:ByteArray) (r:Bool) (h:Sh.path_dotted_of_path_label s=some r):FnG Tryz.prog (GL mx) 68 [.v (.string s), .v (.func (.func 70) #[] #[])] (.v (.bool r)):=by
  unfold Sh.path_dotted_of_path_label at h
  refine yG 13 func68 fun g0 hn hio => ?_
  refine yxx hn 1 ?_
  refine yS (.box 4 [vb false]) 0 ⟨oA (op_alloc _ _ zr4)⟩ ?_
  refine yee [0,13,3,4] ?_
  refine ht_seq ?_
  refine ht_seq ?_
  obtain ⟨v1, hv1, h⟩:=zn h
  refine yx hn 1 ?_
  refine yk [] [6] ?_
  refine yt (7,.cloB 98 [.box 9 [vs v1.1],.box 9 [vs v1.2.1],.box 3 [vi v1.2.2]]) 0 ⟨op_callS _ _ 79 _ _ rfl call79 rfl rfl (ok_strings_SplitSeq s (⟨#[46]⟩:ByteArray) _ hv1) rfl⟩ ?_
  refine yee [13,3,4,7] ?_
  refine ht_block ?_
  refine ht_pick [3,0,1,2] (by kernel_rfl) (es':=[(7,.cloB 98 [.box 9 [vs v1.1],.box 9 [vs v1.2.1],.box 3 [vi v1.2.2]]),(13,.glob (GL mx)),(3,.box 110 [.v (.func (.func 70) #[] #[])]),(4,.box 4 [vb false])]) rfl ?_
  refine ht_rangeF h 98 7 8 14 _ [13, 3, 4] call98 (fun (():Unit)=>[(13, .glob (GL mx)), (3, .box 110 [.v (.func (.func 70) #[] #[])]), (4, .box 4 [.v (.bool false)])]) (fun (():Unit)=>[(13, .glob (GL mx)), (3, .box 110 [.v (.func (.func 70) #[] #[])]), (4, .box 4 [.v (.bool false)])]) (fun l J Y hY t t' h=>ok_strings_splitSeq_1 mx l J Y hY v1.1 v1.2.1 v1.2.2 t t' h) hn rfl (fun _=>rfl) (fun _=>rfl) (fun _=>rfl) rfl rfl (fun _=>⟨rfl, rfl⟩) rfl (glIn_look 13 rfl) ?_ ?_ ?_
  ·rintro kk g0 hn hio x ⟨⟩ u h
   refine ht_es (es':=[(8,vs x),(13,.glob (GL mx)),(3,.box 110 [.v (.func (.func 70) #[] #[])]),(4,.box 4 [vb false]),(13,.v (kk.tm.getD 13 undef)),(3,.v (kk.tm.getD 3 undef)),(4,.v (kk.tm.getD 4 undef)),(14,.inv kk.ready)]) rfl ?_
   refine yy hn 1 [13,3,4,14,5,13,3,4] ?_
   refine pt_pick [0,1,2,4,5,6,7,3] (by kernel_rfl) (es':=[(13,.glob (GL mx)),(3,.box 110 [.v (.func (.func 70) #[] #[])]),(4,.box 4 [vb false]),(5,vs x),(13,.v (kk.tm.getD 13 undef)),(3,.v (kk.tm.getD 3 undef)),(4,.v (kk.tm.getD 4 undef)),(14,.inv kk.ready)]) rfl ?_
   refine pt_begin (es:=[(13,.glob (GL mx)),(3,.box 110 [.v (.func (.func 70) #[] #[])]),(4,.box 4 [vb false]),(5,vs x),(13,.v (kk.tm.getD 13 undef)),(3,.v (kk.tm.getD 3 undef)),(4,.v (kk.tm.getD 4 undef))]) 14 rfl ?_
   refine ht_block ?_
   refine ht_seq ?_
   obtain ⟨v2, hv2, h⟩:=zn h
   refine yx hn 2 ?_
   refine ys 1 ⟨lk call70 (ok_path_label _ _ hv2)⟩ ?_
   refine yee [13,3,4,14,12,13,3,4] ?_
   refine ht_cond _ rfl (fun hb5 => ?_) (fun hb5 => ?_)
   ·have h:=cond_t hb5 h
    refine yyy hn 1 [13,3,4,14,13,3,4] ?_
    refine ht_ret ?_
    refine pt_r_in ?_
    refine pt_pick [0,1,2,4,5,6,3] (by kernel_rfl) (es':=[(_,_),(_,_),(_,_),(_,_),(_,_),(_,_),(_,_)]) rfl ?_
    obtain rfl:=zi h
    exact pt_rret 14 [13, 3, 4] _ rfl rfl (by kernel_rfl)
   ·have h:=cond_f hb5 h
    refine ht_skip ?_
    refine pt_inb ?_
    refine pt_pick [0,1,2,5,6,7,3] (by kernel_rfl) (es':=[(_,_),(_,_),(_,_),(_,_),(_,_),(_,_),(_,_)]) rfl ?_
    obtain rfl:=zi h
    exact pt_rnext 14 [13, 3, 4] _ rfl rfl (by kernel_rfl)
  ·rintro D ⟨⟩ h
   refine pt_inb ?_
   refine pt_then ?_
   refine yyy hn 1 [13,4] ?_
   refine ht_ret ?_
   refine pt_pick [1] (by kernel_rfl) (es':=[(_,_)]) rfl ?_
   obtain rfl:=zi h
   exact pt_ret hio rfl (.cell1 _ _ _ _ underlying4 rfl .nil) rfl rfl
  ·rintro D ⟨⟩ h
   refine pt_pick [2] (by kernel_rfl) (es':=[(_,_)]) rfl ?_
   refine pt_r_in ?_
   refine pt_r_then ?_
   obtain rfl:=zi h
   exact pt_ret hio rfl (.cell1 _ _ _ _ underlying4 rfl .nil) rfl rfl
theorem ok_path_Domain (mx:Int) (s:ByteArray) (r:Bool) (h:Sh.path_Domain s=some r):FnG Tryz.prog (GL mx) 63 [.v (.string s)] (.v (.bool r)):=by
  unfold Sh.path_Domain at h
  refine yG 10 func63 fun g0 hn hio => ?_
  refine yyy hn 1 [0,10] ?_
  refine ht_seq ?_
  refine ht_joinS h (fun (s2:Bool)=>[(10,.glob (GL mx)),(2,vb s2)]) ?_ ?_
  ·rintro s2 h
   refine pt_then (ht_ret ?_)
   refine pt_pick [1] (by kernel_rfl) (es':=[(_,_)]) rfl ?_
   obtain rfl:=zi h
   exact pt_ret hio rfl (.tmp _ _ .nil) rfl rfl
  ·intro u3 h hl4 hr5
   refine cond_some h (fun hg1_3 h => ?_) (fun hg1_3 h => ?_)
   ·obtain ⟨v1, hv1, h⟩:=zn h
    refine yx hn 4 ?_
    refine yd hg1_3 1 ?_
    refine ys 2 ⟨lg call68 (ok_path_dotted_of_path_label _ _ _ hv1) 10⟩ ?_
    refine ye [10,2] ?_
    exact hl4 _ (zi h).symm
   ·refine yx hn 4 ?_
    refine yd hg1_3 4 ?_
    refine ye [10,2] ?_
    exact hl4 _ (zi h).symm
theorem ok_path_Check (mx:Int) (p:T_Path) (r:Int) (h:Sh.path_Check p=some r):FnG Tryz.prog (GL mx) 57 [.agg [.v (.bool p.Null), .v (.string p.Local), .v (.string p.Domain)]] (.v (.int .i64 r)):=by
  unfold Sh.path_Check at h
  refine yG 27 func57 fun g0 hn hio => ?_
  refine yyy hn 2 [27,1] ?_
  refine yxx hn 1 ?_
  refine yS (.agg [vb true,vs z0,vs z0]) 0 ⟨op_build _ _ _ _ [1,1,1] _ _ underlying48 zr48 (fs48 _ underlying48) (.copy _ Src.nil) rfl rfl rfl⟩ ?_
  refine yS (vb ((p.Null==true)&&((p.Local.toList==z0.toList)&&((p.Domain.toList==z0.toList)&&true)))) 1 ⟨op_eq_st _ _ [.bool p.Null,.string p.Local,.string p.Domain] [.bool true,.string z0,.string z0] (((p.Null==true)&&((p.Local.toList==z0.toList)&&((p.Domain.toList==z0.toList)&&true)))) _ false (by kernel_rfl) (by kernel_rfl) (by kernel_rfl) (by kernel_rfl) (by kernel_rfl) rfl rfl rfl rfl (by kernel_rfl) rfl⟩ ?_
  refine yee [27,1,3] ?_
  refine ht_seq ?_
  refine ht_joinS h (fun (s3:Bool)=>[(27,.glob (GL mx)),(3,vb ((p.Null==true)&&((p.Local.toList==z0.toList)&&((p.Domain.toList==z0.toList)&&true)))),(4,vb s3)]) ?_ ?_
  ·rintro s3 h
   refine pt_then (ht_seq ?_)
   refine ht_seq ?_
   refine ht_joinS h (fun (s7:Bool)=>[(27,.glob (GL mx)),(26,vb s7)]) ?_ ?_
   ·rintro s7 h
    refine pt_then ?_
    refine ht_cond _ rfl (fun hb11 => ?_) (fun hb11 => ?_)
    ·have h:=cond_t hb11 h
     refine yyy hn 1 [27,2] ?_
     refine ht_ret ?_
     refine pt_pick [1] (by kernel_rfl) (es':=[(_,_)]) rfl ?_
     refine pt_r_then ?_
     obtain rfl:=zi h
     exact pt_ret hio rfl (.tmp _ _ .nil) rfl rfl
    ·have h:=cond_f hb11 h
     refine ht_skip ?_
     refine pt_then ?_
     refine yyy hn 1 [27,2] ?_
     refine ht_ret ?_
     refine pt_pick [1] (by kernel_rfl) (es':=[(_,_)]) rfl ?_
     obtain rfl:=zi h
     exact pt_ret hio rfl (.tmp _ _ .nil) rfl rfl
   ·intro u8 h hl9 hr10
    refine cond_some h (fun hg3_2 h => ?_) (fun hg3_2 h => ?_)
    ·refine yx hn 3 ?_
     refine yd hg3_2 3 ?_
     refine ye [27,26] ?_
     exact hl9 _ (zi h).symm
    ·refine yx hn 3 ?_
     refine yd hg3_2 3 ?_
     refine ye [27,26] ?_
     exact hl9 _ (zi h).symm
  ·intro u4 h hl5 hr6
   refine cond_some h (fun hg2_3 h => ?_) (fun hg2_3 h => ?_)
   ·obtain ⟨v1, hv1, h⟩:=zn h
    refine cond_some h (fun hg2_8 h => ?_) (fun hg2_8 h => ?_)
    ·obtain ⟨v2, hv2, h⟩:=zn h
     refine yx hn 4 ?_
     refine yd hg2_3 2 ?_
     refine ys 2 ⟨lg call62 (ok_path_local _ _ _ hv1) 27⟩ ?_
     refine yd hg2_8 2 ?_
     refine ys 2 ⟨lg call63 (ok_path_Domain _ _ _ hv2) 27⟩ ?_
     refine ye [27,3,4] ?_
     exact hl5 _ (zi h).symm
    ·refine yx hn 4 ?_
     refine yd hg2_3 2 ?_
     refine ys 2 ⟨lg call62 (ok_path_local _ _ _ hv1) 27⟩ ?_
     refine yd hg2_8 5 ?_
     refine ye [27,3,4] ?_
     exact hl5 _ (zi h).symm
   ·refine yx hn 4 ?_
    refine yd hg2_3 10 ?_
    refine ye [27,3,4] ?_
    exact hl5 _ (zi h).symm
theorem ok_envelope_Valid (mx:Int) (m:T_Mail) (r:Bool) (h:Sh.envelope_Valid m=some r):FnG Tryz.prog (GL mx) 48 [.agg [.v (.bool m.From.Null), .v (.string m.From.Local), .v (.string m.From.Domain), .fl .shr 3 (flatten (map T_Path.enc m.To)), .fl .shr 1 (map (int .u8) m.Body), .v (.bool m.Quiet), .v (.string m.Helo), .v (.int .i64 m.At)]] (.v (.bool r)):=by
  unfold Sh.envelope_Valid at h
  refine yG 36 func48 fun g0 hn hio => ?_
  refine yyy hn 2 [36,1] ?_
  refine ht_seq ?_
  refine ht_seq ?_
  refine ht_joinS h (fun (s2:Bool)=>[(36,.glob (GL mx)),(1,.box 51 (T_Mail.c m [])),(20,vb s2)]) ?_ ?_
  ·rintro s2 h
   refine pt_then ?_
   refine ht_cond _ rfl (fun hb6 => ?_) (fun hb6 => ?_)
   ·have h:=cond_t hb6 h
    refine yyy hn 1 [36,2] ?_
    refine ht_ret ?_
    refine pt_pick [1] (by kernel_rfl) (es':=[(_,_)]) rfl ?_
    refine pt_r_then ?_
    obtain rfl:=zi h
    exact pt_ret hio rfl (.tmp _ _ .nil) rfl rfl
   ·have h:=cond_f hb6 h
    refine ht_skip ?_
    refine pt_then (ht_seq ?_)
    refine yyy hn 4 [36,22,23,24] ?_
    refine ht_loopS h (fun (s24:Int)=>[(36,.glob (GL mx)),(22,.fl .shr 3 (flatten (map T_Path.enc m.To))),(23,vi (m.To.length:Int)),(24,vi s24)]) (fun (():Unit)=>[(36,.glob (GL mx))]) ?_ ?_
    ·rintro ⟨⟩ h
     refine pt_then ?_
     refine yyy hn 1 [36,2] ?_
     refine ht_ret ?_
     refine pt_pick [1] (by kernel_rfl) (es':=[(_,_)]) rfl ?_
     obtain rfl:=zi h
     exact pt_ret hio rfl (.tmp _ _ .nil) rfl rfl
    ·rintro u31 hl32 hr33 s24 rr36 h ho34
     refine yyy hn 1 [36,22,23,24,25] ?_
     refine ht_seq ?_
     refine ht_cond _ rfl (fun hb37 => ?_) (fun hb37 => ?_)
     ·have h:=cond_t hb37 h
      refine ht_skip ?_
      refine pt_then (ht_seq ?_)
      refine ht_block ?_
      refine ht_seq ?_
      obtain ⟨v8, hv8, h⟩:=zn h
      obtain ⟨v9, hv9, h⟩:=zn h
      refine yx hn 0 ?_
      refine ys 0 ⟨lj hv8⟩ ?_
      refine yS (.agg [vb v9.Null,vs v9.Local,vs v9.Domain]) 0 ⟨op_load_eA _ _ _ _ _ _ _ underlying48 rfl sz48 rfl rfl (flat_get T_Path.len hv9) rfl (by decide)⟩ ?_
      refine yS (.box 48 [vb false,vs z0,vs z0]) 1 ⟨oA (op_alloc _ _ zr48)⟩ ?_
      refine yee [36,22,23,24,4] ?_
      refine ht_seq ?_
      refine ht_joinS h (fun (s38:Bool)=>[(36,.glob (GL mx)),(22,.fl .shr 3 (flatten (map T_Path.enc m.To))),(23,vi (m.To.length:Int)),(24,vi s24),(34,vb s38)]) ?_ ?_
      ·rintro s38 h
       refine pt_then ?_
       refine ht_cond _ rfl (fun hb42 => ?_) (fun hb42 => ?_)
       ·have h:=cond_t hb42 h
        refine yyy hn 1 [36,2] ?_
        refine ht_ret ?_
        refine pt_pick [1] (by kernel_rfl) (es':=[(_,_)]) rfl ?_
        refine pt_r_in ?_
        refine pt_r_then ?_
        refine pt_r_then ?_
        refine pt_r_in ?_
        refine pt_r_then ?_
        have h:=hr33 _ (ho34 _ (zi h).symm).symm
        obtain rfl:=zi h
        exact pt_ret hio rfl (.tmp _ _ .nil) rfl rfl
       ·have h:=cond_f hb42 h
        refine ht_skip ?_
        refine pt_inb ?_
        refine pt_then ?_
        obtain ⟨v16, hv16, h⟩:=zn h
        refine yx hn 0 ?_
        refine ys 0 ⟨lb hv16⟩ ?_
        refine yw [24] 1 ?_
        refine ye [36,22,23,24] ?_
        exact pt_next _ (zi h).symm rfl
      ·intro u39 h hl40 hr41
       obtain ⟨v10, hv10, h⟩:=zn h
       refine cond_some h (fun hg6_3 h => ?_) (fun hg6_3 h => ?_)
       ·refine yx hn 1 ?_
        refine ys 2 ⟨lg call57 (ok_path_Check _ _ _ hv10) 36⟩ ?_
        refine yd hg6_3 3 ?_
        refine ye [36,22,23,24,34] ?_
        exact hl40 _ (zi h).symm
       ·refine yx hn 1 ?_
        refine ys 2 ⟨lg call57 (ok_path_Check _ _ _ hv10) 36⟩ ?_
        refine yd hg6_3 3 ?_
        refine ye [36,22,23,24,34] ?_
        exact hl40 _ (zi h).symm
     ·have h:=cond_f hb37 h
      refine ht_exit ?_
      refine pt_x_then ?_
      refine pt_x_then ?_
      refine pt_x_in ?_
      refine pt_pick [0] (by kernel_rfl) (es':=[(_,_)]) rfl ?_
      exact hl32 _ (ho34 _ (zi h).symm).symm
  ·intro u3 h hl4 hr5
   obtain ⟨v1, hv1, h⟩:=zn h
   refine cond_some h (fun hg1_4 h => ?_) (fun hg1_4 h => ?_)
   ·refine yx hn 2 ?_
    refine ys 2 ⟨lg call57 (ok_path_Check _ _ _ hv1) 36⟩ ?_
    refine yd hg1_4 11 ?_
    refine ye [36,1,20] ?_
    exact hl4 _ (zi h).symm
   ·refine cond_some h (fun hg1_10 h => ?_) (fun hg1_10 h => ?_)
    ·refine yx hn 2 ?_
     refine ys 2 ⟨lg call57 (ok_path_Check _ _ _ hv1) 36⟩ ?_
     refine yd hg1_4 6 ?_
     refine yd hg1_10 5 ?_
     refine ye [36,1,20] ?_
     exact hl4 _ (zi h).symm
    ·refine yx hn 2 ?_
     refine ys 2 ⟨lg call57 (ok_path_Check _ _ _ hv1) 36⟩ ?_
     refine yd hg1_4 6 ?_
     refine yd hg1_10 5 ?_
     refine ye [36,1,20] ?_
     exact hl4 _ (zi h).symm
theorem ok_dots_lines (b:(List Int)) (r:(List Int)) (h:Sh.dots_lines b=some r):FnOK Tryz.prog 58 [.fl .shr 1 (map (int .u8) b)] (.cloB 64 [.box 22 [.fl .shr 1 (map (int .u8) r)]]):=by
  unfold Sh.dots_lines at h
  refine yO 4 func58 fun g0 hn hio => ?_
  refine yyy hn 2 [1] ?_
  refine yxx hn 0 ?_
  refine yk [1] [] ?_
  refine yt (3,.cloB 64 [.box 22 [fb b]]) 0 ⟨op_mkclo _ _ [1] [.box 22 [fb b]] rfl rfl rfl⟩ ?_
  refine ya 0 ?_
  refine yee [2] ?_
  refine ht_ret ?_
  obtain rfl:=zi h
  exact pt_ret hio rfl (.tmp _ _ .nil) rfl rfl
theorem ok_bytes_Index (mx:Int) (s sep:List Int) (r:Int) (h:Sh.bytes_Index s sep=some r):FnG Tryz.prog (GL mx) 71 [.fl .shr 1 (map (int .u8) s), .fl .shr 1 (map (int .u8) sep)] (.v (.int .i64 r)) :=
  lib_bytes_Index (gl_mem0 mx) Tryz.bytes_Index_at Tryz.bytes_Index_longer s sep r h
theorem ok_bytes_Cut_sh (mx:Int) (s:(List Int)) (sep:(List Int)) (r:((List Int)×(List Int)×Bool)) (h:Sh.bytes_Cut_sh s sep=some r):FnG Tryz.prog (GL mx) 65 [.fl .shr 1 (map (int .u8) s), .fl .shr 1 (map (int .u8) sep)] (.tup [.fl .shr 1 (map (int .u8) r.1), .fl .shr 1 (map (int .u8) r.2.1), .v (.bool r.2.2)]):=by
  unfold Sh.bytes_Cut_sh at h
  refine yG 23 func65 fun g0 hn hio => ?_
  refine yyy hn 3 [0,1,23] ?_
  refine ht_seq ?_
  refine ht_seq ?_
  obtain ⟨v1, hv1, h⟩:=zn h
  refine yx hn 2 ?_
  refine ys 1 ⟨lg call71 (ok_bytes_Index _ _ _ _ hv1) 23⟩ ?_
  refine yee [0,1,23,7] ?_
  refine yyy hn 2 [0,1,23,7,12] ?_
  refine ht_cond _ rfl (fun hb2 => ?_) (fun hb2 => ?_)
  ·have h:=cond_t hb2 h
   refine ht_seq ?_
   obtain ⟨v3, hv3, h⟩:=zn h
   obtain ⟨v4, hv4, h⟩:=zn h
   obtain ⟨v5, hv5, h⟩:=zn h
   refine wb [[0],[7]] ?_
   refine wN [13,14] ?_
   refine wS (fb v3) [[0],[7],[1],[18]] ⟨op_sl _ _ _ 0 v1 _ underlying22 sz5 rfl rfl rfl ⟨_,rfl⟩ hv3⟩ ?_
   refine wN [17,19] ?_
   refine wo [] ⟨lb hv4⟩ ?_
   refine wN [16,20] ?_
   refine wS (fb v5) [[15],[21],[]] ⟨op_sl _ _ _ v4 (s.length:Int) _ underlying22 sz5 rfl rfl ⟨_,rfl⟩ rfl hv5⟩ ?_
   refine wee hn [23,4,5,6] ?_
   refine ht_ret ?_
   refine pt_pick [1,2,3] (by kernel_rfl) (es':=[(_,_),(_,_),(_,_)]) rfl ?_
   refine pt_r_then ?_
   obtain rfl:=zi h
   exact pt_ret hio rfl (.tmp _ _ (.tmp _ _ (.tmp _ _ .nil))) rfl rfl
  ·have h:=cond_f hb2 h
   refine ht_skip ?_
   refine pt_then ?_
   refine yyy hn 4 [23,4,5,6] ?_
   refine ht_ret ?_
   refine pt_pick [1,2,3] (by kernel_rfl) (es':=[(_,_),(_,_),(_,_)]) rfl ?_
   refine pt_sub (fs:=[(4,fb s),(5,fb []),(6,vb false)]) (.same _ (.sub _ (sub_nil_shr 1) rfl (.same _ .nil))) ?_
   obtain rfl:=zi h
   exact pt_ret hio rfl (.tmp _ _ (.tmp _ _ (.tmp _ _ .nil))) rfl rfl
theorem ok_dots_lines_1 (mx:Int) (l:Nat) {S:Type} (J:S→InvT) (Y:(List Int)→S→Option (S×Bool)) (hY:YieldOK Tryz.prog l (fun x => .fl .shr 1 (map (int .u8) x)) Y J) (c0:(List Int)) (st r:S) (h:Sh.dots_lines_1 Y c0 st=some r):FnI Tryz.prog (GL mx) 64 l [.box 22 [.fl .shr 1 (map (int .u8) c0)]] (J st) (J r):=by
  unfold Sh.dots_lines_1 at h
  refine yI 23 func64 fun g0 hn hio => ?_
  refine ht_loopS h (fun ((s17,s18):(List Int)×S)=>[(0,.v (.func (.yield l) #[] #[])),(1,.box 22 [fb s17]),(23,.glob (GL mx)),(24,.inv (J s18))]) (fun (():Unit)=>[]) ?_ ?_
  ·rintro ⟨⟩ h
   cases h
  ·rintro u25 hl26 hr27 ⟨s17, s18⟩ rr30 h ho28
   refine ht_block ?_
   refine ht_seq ?_
   obtain ⟨v1, hv1, h⟩:=zn h
   refine yx hn 1 ?_
   refine yS (.fl (.own 5) 1 (map (int .u8) [13,10])) 0 ⟨op_buildSlice _ _ 1 (.int .u8 0) (map (int .u8) [13,10]) [(0,.int .u8 13),(1,.int .u8 10)] underlying22 sz5 zr5 (fun _ V w o a hv hes=>by simp only [List.map_toArray,List.map_cons,List.map_nil]; try rfl) (litfill (by simp [Instr.fill,Value.cells]; rfl) (by simp [List.range,List.range.loop] <;> rfl)) (by simp [Value.oneCell']) rfl (by decide) (by decide) (by decide)⟩ ?_
   refine yk [8] [] ?_
   refine yt (9,.fl .ro 1 (map (int .u8) [13,10])) 0 ⟨op_conv_mark _ _ _ underlying22 underlying5 (by intro h; cases h)⟩ ?_
   refine yk [] [7,9,23] ?_
   refine yt (10,.tup [fb v1.1,fb v1.2.1,vb v1.2.2]) 0 ⟨op_callSG _ _ 23 65 _ _ rfl call65 rfl rfl rfl (fun _ h=>h) (ok_bytes_Cut_sh mx s17 [13,10] _ hv1) rfl⟩ ?_
   refine ym 6 ?_
   refine yee [0,1,23,24,3,4,5] ?_
   refine ht_seq ?_
   refine ht_seq ?_
   refine ht_joinS h (fun ((s31,s32):S×Bool)=>[(0,.v (.func (.yield l) #[] #[])),(1,.box 22 [fb s17]),(23,.glob (GL mx)),(24,.inv (J s31)),(4,fb v1.2.1),(21,vb s32)]) ?_ ?_
   ·rintro ⟨s31, s32⟩ h
    refine pt_then ?_
    refine ht_cond _ rfl (fun hb36 => ?_) (fun hb36 => ?_)
    ·have h:=cond_t hb36 h
     refine ht_ret ?_
     refine pt_pick [3] (by kernel_rfl) (es':=[(24,.inv (J s31))]) rfl ?_
     refine pt_r_then ?_
     refine pt_r_in ?_
     refine pt_r_then ?_
     refine pt_r_in ?_
     have h:=hr27 _ (ho28 _ (zi h).symm).symm
     obtain rfl:=zi h
     exact pt_retI hio rfl rfl rfl
    ·have h:=cond_f hb36 h
     refine ht_skip ?_
     refine pt_then ?_
     refine yy hn 2 [0,1,23,24] ?_
     refine pt_inb ?_
     exact pt_next _ (zi h).symm rfl
   ·intro u33 h hl34 hr35
    refine cond_some h (fun hg1_2 h => ?_) (fun hg1_2 h => ?_)
    ·refine yx hn 3 ?_
     refine yd hg1_2 5 ?_
     refine ye [0,1,23,24,4,21] ?_
     exact hl34 _ (zi h).symm
    ·obtain ⟨v2, hv2, h⟩:=zn h
     refine yx hn 3 ?_
     refine yd hg1_2 2 ?_
     refine yk [24] [18,17] ?_
     refine ytt (24,.inv (J v2.1)) (19,vb v2.2) 2 ⟨op_yield _ _ 24 l v1.1 s18 v2 hY hv2 rfl rfl rfl⟩ ?_
     refine ye [0,1,23,24,4,21] ?_
     exact hl34 _ (zi h).symm
theorem ok_bytes_IndexAny (mx:Int) (s:List Int) (c:ByteArray) (r:Int) (h:Sh.bytes_IndexAny s c=some r):FnG Tryz.prog (GL mx) 66 [.fl .shr 1 (map (int .u8) s), .v (.string c)] (.v (.int .i64 r)) :=
  lib_bytes_IndexAny (gl_mem0 mx) (gl_mem1 mx) (gl_mem2 mx) (fun s b off c w hs hnc hb hm hmb k1 k2 HG hp=>Tryz.idx_crlf s b off c w mx hs hnc hb hm hmb (tabs_lists utf8_first utf8_accept (by kernel_rfl) (by kernel_rfl) k1 k2) HG hp) Tryz.idx_none s c r h
theorem ok_bytes_ContainsAny (mx:Int) (b:(List Int)) (chars:ByteArray) (r:Bool) (h:Sh.bytes_ContainsAny b chars=some r):FnG Tryz.prog (GL mx) 59 [.fl .shr 1 (map (int .u8) b), .v (.string chars)] (.v (.bool r)):=by
  unfold Sh.bytes_ContainsAny at h
  refine yG 9 func59 fun g0 hn hio => ?_
  refine yyy hn 1 [0,1,9] ?_
  refine ht_seq ?_
  obtain ⟨v1, hv1, h⟩:=zn h
  refine yx hn 2 ?_
  refine ys 2 ⟨lg call66 (ok_bytes_IndexAny _ _ _ _ hv1) 9⟩ ?_
  refine yee [9,4] ?_
  refine ht_ret ?_
  refine pt_pick [1] (by kernel_rfl) (es':=[(_,_)]) rfl ?_
  obtain rfl:=zi h
  exact pt_ret hio rfl (.tmp _ _ .nil) rfl rfl
theorem ok_dots_Check (mx:Int) (b:(List Int)) (r:Int) (h:Sh.dots_Check b=some r):FnG Tryz.prog (GL mx) 49 [.fl .shr 1 (map (int .u8) b)] (.v (.int .i64 r)):=by
  unfold Sh.dots_Check at h
  refine yG 19 func49 fun g0 hn hio => ?_
  refine yxx hn 0 ?_
  refine yS (.box 27 [vi 0]) 0 ⟨oA (op_alloc _ _ zr27)⟩ ?_
  refine yee [0,19,2] ?_
  refine yxx hn 0 ?_
  refine yS (.box 3 [vi 0]) 1 ⟨oA (op_alloc _ _ zr3)⟩ ?_
  refine yee [0,19,2,3] ?_
  refine ht_seq ?_
  refine ht_seq ?_
  obtain ⟨v1, hv1, h⟩:=zn h
  refine yx hn 1 ?_
  refine yk [] [5] ?_
  refine yt (6,.cloB 64 [.box 22 [fb v1]]) 0 ⟨op_callS _ _ 58 _ _ rfl call58 rfl rfl (ok_dots_lines b _ hv1) rfl⟩ ?_
  refine yee [0,19,2,3,6] ?_
  refine ht_block ?_
  refine ht_pick [4,0,1,2,3] (by kernel_rfl) (es':=[(6,.cloB 64 [.box 22 [fb v1]]),(0,fb b),(19,.glob (GL mx)),(2,.box 27 [vi 0]),(3,.box 3 [vi 0])]) rfl ?_
  refine ht_rangeF h 64 6 7 20 _ [0, 19, 2, 3] call64 (fun (s8:Int)=>[(0, fb b), (19, .glob (GL mx)), (2, .box 27 [.v (.int .i64 0)]), (3, .box 3 [.v (.int .i64 s8)])]) (fun (s10:Int)=>[(0, fb b), (19, .glob (GL mx)), (2, .box 27 [.v (.int .i64 5)]), (3, .box 3 [.v (.int .i64 s10)])]) (fun l J Y hY t t' h=>ok_dots_lines_1 mx l J Y hY v1 t t' h) hn rfl (fun _=>rfl) (fun _=>rfl) (fun _=>rfl) rfl rfl (fun _=>⟨rfl, rfl⟩) rfl (glIn_look 19 rfl) ?_ ?_ ?_
  ·rintro kk g0 hn hio x s8 u h
   refine ht_es (es':=[(7,fb x),(0,fb b),(19,.glob (GL mx)),(2,.box 27 [vi 0]),(3,.box 3 [vi s8]),(0,.v (kk.tm.getD 0 undef)),(19,.v (kk.tm.getD 19 undef)),(2,.v (kk.tm.getD 2 undef)),(3,.v (kk.tm.getD 3 undef)),(20,.inv kk.ready)]) rfl ?_
   refine yy hn 1 [0,19,2,3,20,4,0,19,2,3] ?_
   refine pt_pick [0,1,2,3,5,6,7,8,9,4] (by kernel_rfl) (es':=[(0,fb b),(19,.glob (GL mx)),(2,.box 27 [vi 0]),(3,.box 3 [vi s8]),(4,fb x),(0,.v (kk.tm.getD 0 undef)),(19,.v (kk.tm.getD 19 undef)),(2,.v (kk.tm.getD 2 undef)),(3,.v (kk.tm.getD 3 undef)),(20,.inv kk.ready)]) rfl ?_
   refine pt_begin (es:=[(0,fb b),(19,.glob (GL mx)),(2,.box 27 [vi 0]),(3,.box 3 [vi s8]),(4,fb x),(0,.v (kk.tm.getD 0 undef)),(19,.v (kk.tm.getD 19 undef)),(2,.v (kk.tm.getD 2 undef)),(3,.v (kk.tm.getD 3 undef))]) 20 rfl ?_
   refine ht_block ?_
   refine ht_seq ?_
   refine ht_seq ?_
   obtain ⟨v2, hv2, h⟩:=zn h
   refine yx hn 1 ?_
   refine ys 0 ⟨lg call59 (ok_bytes_ContainsAny _ _ _ _ hv2) 19⟩ ?_
   refine yee [0,19,2,3,4,20,9,0,19,2,3] ?_
   refine ht_cond _ rfl (fun hb11 => ?_) (fun hb11 => ?_)
   ·have h:=cond_t hb11 h
    refine yyy hn 1 [0,19,2,3,20,0,19,2,3] ?_
    refine ht_ret ?_
    refine pt_r_then ?_
    refine pt_r_in ?_
    refine pt_pick [0,1,2,3,5,6,7,8,4] (by kernel_rfl) (es':=[(_,_),(_,_),(_,_),(_,_),(_,_),(_,_),(_,_),(_,_),(_,_)]) rfl ?_
    obtain rfl:=zi h
    exact pt_rret 20 [0, 19, 2, 3] _ rfl rfl (by kernel_rfl)
   ·have h:=cond_f hb11 h
    refine ht_skip ?_
    refine pt_then ?_
    obtain ⟨v4, hv4, h⟩:=zn h
    obtain ⟨v5, hv5, h⟩:=zn h
    refine yx hn 3 ?_
    refine ys 0 ⟨lb hv4⟩ ?_
    refine ys 1 ⟨lb hv5⟩ ?_
    refine ye [0,19,2,3,20,0,19,2,3] ?_
    refine pt_inb ?_
    refine pt_pick [0,1,2,3,5,6,7,8,4] (by kernel_rfl) (es':=[(_,_),(_,_),(_,_),(_,_),(_,_),(_,_),(_,_),(_,_),(_,_)]) rfl ?_
    obtain rfl:=zi h
    exact pt_rnext 20 [0, 19, 2, 3] _ rfl rfl (by kernel_rfl)
  ·rintro D s8 h
   refine pt_inb ?_
   refine pt_then (ht_seq ?_)
   refine yyy hn 4 [19,2,18] ?_
   refine ht_cond _ rfl (fun hb12 => ?_) (fun hb12 => ?_)
   ·have h:=cond_t hb12 h
    refine yyy hn 1 [19,2] ?_
    refine ht_ret ?_
    refine pt_pick [1] (by kernel_rfl) (es':=[(_,_)]) rfl ?_
    refine pt_r_then ?_
    obtain rfl:=zi h
    exact pt_ret hio rfl (.cell1 _ _ _ _ underlying27 rfl .nil) rfl rfl
   ·have h:=cond_f hb12 h
    refine ht_skip ?_
    refine pt_then ?_
    refine yyy hn 1 [19,2] ?_
    refine ht_ret ?_
    refine pt_pick [1] (by kernel_rfl) (es':=[(_,_)]) rfl ?_
    obtain rfl:=zi h
    exact pt_ret hio rfl (.cell1 _ _ _ _ underlying27 rfl .nil) rfl rfl
  ·rintro D s10 h
   refine pt_pick [2] (by kernel_rfl) (es':=[(_,_)]) rfl ?_
   refine pt_r_in ?_
   refine pt_r_then ?_
   obtain rfl:=zi h
   exact pt_ret hio rfl (.cell1 _ _ _ _ underlying27 rfl .nil) rfl rfl
theorem ok_spool_validMail (mx:Int) (m:T_Mail) (r:Bool) (h:Sh.spool_validMail m=some r):FnG Tryz.prog (GL mx) 34 [.agg [.v (.bool m.From.Null), .v (.string m.From.Local), .v (.string m.From.Domain), .fl .shr 3 (flatten (map T_Path.enc m.To)), .fl .shr 1 (map (int .u8) m.Body), .v (.bool m.Quiet), .v (.string m.Helo), .v (.int .i64 m.At)]] (.v (.bool r)):=by
  unfold Sh.spool_validMail at h
  refine yG 21 func34 fun g0 hn hio => ?_
  refine yyy hn 2 [21,1] ?_
  refine ht_seq ?_
  refine ht_joinS h (fun (s3:Bool)=>[(21,.glob (GL mx)),(2,vb s3)]) ?_ ?_
  ·rintro s3 h
   refine pt_then (ht_ret ?_)
   refine pt_pick [1] (by kernel_rfl) (es':=[(_,_)]) rfl ?_
   obtain rfl:=zi h
   exact pt_ret hio rfl (.tmp _ _ .nil) rfl rfl
  ·intro u4 h hl5 hr6
   obtain ⟨v1, hv1, h⟩:=zn h
   refine cond_some h (fun hg1_2 h => ?_) (fun hg1_2 h => ?_)
   ·obtain ⟨v2, hv2, h⟩:=zn h
    refine cond_some h (fun hg1_8 h => ?_) (fun hg1_8 h => ?_)
    ·refine cond_some h (fun hg1_13 h => ?_) (fun hg1_13 h => ?_)
     ·refine yx hn 1 ?_
      refine ys 1 ⟨lg call48 (ok_envelope_Valid _ _ _ hv1) 21⟩ ?_
      refine yd hg1_2 2 ?_
      refine ys 3 ⟨lg call49 (ok_dots_Check _ _ _ hv2) 21⟩ ?_
      refine yd hg1_8 5 ?_
      refine yd hg1_13 5 ?_
      refine ye [21,2] ?_
      exact hl5 _ (zi h).symm
     ·refine yx hn 1 ?_
      refine ys 1 ⟨lg call48 (ok_envelope_Valid _ _ _ hv1) 21⟩ ?_
      refine yd hg1_2 2 ?_
      refine ys 3 ⟨lg call49 (ok_dots_Check _ _ _ hv2) 21⟩ ?_
      refine yd hg1_8 5 ?_
      refine yd hg1_13 5 ?_
      refine ye [21,2] ?_
      exact hl5 _ (zi h).symm
    ·refine yx hn 1 ?_
     refine ys 1 ⟨lg call48 (ok_envelope_Valid _ _ _ hv1) 21⟩ ?_
     refine yd hg1_2 2 ?_
     refine ys 3 ⟨lg call49 (ok_dots_Check _ _ _ hv2) 21⟩ ?_
     refine yd hg1_8 10 ?_
     refine ye [21,2] ?_
     exact hl5 _ (zi h).symm
   ·refine yx hn 1 ?_
    refine ys 1 ⟨lg call48 (ok_envelope_Valid _ _ _ hv1) 21⟩ ?_
    refine yd hg1_2 16 ?_
    refine ye [21,2] ?_
    exact hl5 _ (zi h).symm
theorem ok_spool_find_1_cap (bx:Nat) (x:T_Item) (cap:Int) (r:Bool) (h:Sh.spool_find_1_cap x cap=some r):FnG Tryz.prog [(bx, [.int .i64 cap])] 52 [.agg [.v (.int .i64 x.Id), .v (.bool x.Mail.From.Null), .v (.string x.Mail.From.Local), .v (.string x.Mail.From.Domain), .fl .shr 3 (flatten (map T_Path.enc x.Mail.To)), .fl .shr 1 (map (int .u8) x.Mail.Body), .v (.bool x.Mail.Quiet), .v (.string x.Mail.Helo), .v (.int .i64 x.Mail.At), .v (.int .i64 x.State), .v (.int .i64 x.Pack)], .v (.pointer (some ⟨bx, 0, none⟩))] (.v (.bool r)):=by
  unfold Sh.spool_find_1_cap at h
  refine yG 8 func52 fun g0 hn hio => ?_
  refine yyy hn 2 [1,8,2] ?_
  refine yxx hn 2 ?_
  refine yS (vi cap) 2 ⟨op_load_glob _ _ 8 bx 0 _ _ underlying3 rfl rfl rfl (.head _) rfl⟩ ?_
  refine yee [8,3] ?_
  refine ht_ret ?_
  refine pt_pick [1] (by kernel_rfl) (es':=[(_,_)]) rfl ?_
  obtain rfl:=zi h
  exact pt_ret hio rfl (.tmp _ _ .nil) rfl rfl
theorem ok_slices_IndexFunc_api_Item_api_Item_of_spool_find_1 (bx:Nat) (s:(List T_Item)) (cap:Int) (r:Int) (h:Sh.slices_IndexFunc_api_Item_api_Item_of_spool_find_1 s cap=some r):FnG Tryz.prog [(bx, [.int .i64 cap])] 51 [.fr .shr true 11 (flatten (map T_Item.ienc s)), .v (.func (.func 52) #[] #[.pointer (some ⟨bx, 0, none⟩)])] (.v (.int .i64 r)):=by
  unfold Sh.slices_IndexFunc_api_Item_api_Item_of_spool_find_1 at h
  refine yG 19 func51 fun g0 hn hio => ?_
  refine yyy hn 1 [0,1,19] ?_
  refine ht_seq ?_
  refine yyy hn 3 [0,1,19,7,8] ?_
  refine ht_loopS h (fun (s10:Int)=>[(0,.fr .shr true 11 (flatten (map T_Item.ienc s))),(1,.v (.func (.func 52) #[] #[.pointer (some ⟨bx,0,none⟩)])),(19,.glob [(bx,[.int .i64 cap])]),(7,vi (s.length:Int)),(8,vi s10)]) (fun (():Unit)=>[(19,.glob [(bx,[.int .i64 cap])])]) ?_ ?_
  ·rintro ⟨⟩ h
   refine pt_then ?_
   refine yyy hn 1 [19,4] ?_
   refine ht_ret ?_
   refine pt_pick [1] (by kernel_rfl) (es':=[(_,_)]) rfl ?_
   obtain rfl:=zi h
   exact pt_ret hio rfl (.tmp _ _ .nil) rfl rfl
  ·rintro u13 hl14 hr15 s10 rr18 h ho16
   refine yyy hn 1 [0,1,19,7,8,9] ?_
   refine ht_seq ?_
   refine ht_cond _ rfl (fun hb19 => ?_) (fun hb19 => ?_)
   ·have h:=cond_t hb19 h
    refine ht_skip ?_
    refine pt_then (ht_seq ?_)
    refine ht_block ?_
    refine yyy hn 2 [0,1,19,7,8,5] ?_
    refine ht_seq ?_
    obtain ⟨v2, hv2, h⟩:=zn h
    obtain ⟨v3, hv3, h⟩:=zn h
    obtain ⟨v4, hv4, h⟩:=zn h
    refine yx hn 3 ?_
    refine ys 0 ⟨lI hv2⟩ ?_
    refine yS (.agg (T_Item.c v3 [])) 0 ⟨op_loadA_fr _ _ _ _ _ _ _ _ underlying88 rfl sz88 rfl rfl (gflat_get T_Item.ilen hv3) (.cons (.v _) (.cons (.v _) (.cons (.v _) (.cons (.v _) (.cons (.fl _ _ rfl) (.cons (.fl _ _ rfl) (.cons (.v _) (.cons (.v _) (.cons (.v _) (.cons (.v _) (.cons (.v _) (.nil)))))))))))) rfl (by decide)⟩ ?_
    refine yS (vb v4) 0 ⟨op_callV _ _ 19 52 (.pointer (some ⟨bx,0,none⟩)) _ _ rfl call52 rfl rfl (fun _ h=>h) (ok_spool_find_1_cap bx ((T_Item.mk v3.Id ((T_Mail.mk (T_Path.mk v3.Mail.From.Null v3.Mail.From.Local v3.Mail.From.Domain) v3.Mail.To v3.Mail.Body v3.Mail.Quiet v3.Mail.Helo v3.Mail.At)) v3.State v3.Pack)) cap _ hv4) rfl rfl⟩ ?_
    refine yee [0,1,19,7,8,5,16] ?_
    refine ht_cond _ rfl (fun hb20 => ?_) (fun hb20 => ?_)
    ·have h:=cond_t hb20 h
     refine yyy hn 2 [19,4] ?_
     refine ht_ret ?_
     refine pt_pick [1] (by kernel_rfl) (es':=[(_,_)]) rfl ?_
     refine pt_r_in ?_
     refine pt_r_then ?_
     refine pt_r_then ?_
     refine pt_r_in ?_
     refine pt_r_then ?_
     have h:=hr15 _ (ho16 _ (zi h).symm).symm
     obtain rfl:=zi h
     exact pt_ret hio rfl (.tmp _ _ .nil) rfl rfl
    ·have h:=cond_f hb20 h
     refine ht_skip ?_
     refine pt_inb ?_
     refine pt_then ?_
     obtain ⟨v6, hv6, h⟩:=zn h
     refine yx hn 0 ?_
     refine ys 0 ⟨lb hv6⟩ ?_
     refine yw [8] 1 ?_
     refine ye [0,1,19,7,8] ?_
     exact pt_next _ (zi h).symm rfl
   ·have h:=cond_f hb19 h
    refine ht_exit ?_
    refine pt_x_then ?_
    refine pt_x_then ?_
    refine pt_x_in ?_
    refine pt_pick [2] (by kernel_rfl) (es':=[(_,_)]) rfl ?_
    exact hl14 _ (ho16 _ (zi h).symm).symm
theorem ok_spool_find (s:T_Spool) (p_id:Int) (r:Int) (h:Sh.spool_find s p_id=some r):FnOK Tryz.prog 43 [.agg [.fr .shr true 11 (flatten (map T_Item.ienc s.Items)), .v (.int .i64 s.Packs), .fl .shr 1 (map (int .i64) s.Sent), .fl .shr 1 (map (int .u8) s.Part), .v (.int .i64 s.Of), .fl .shr 1 (map (int .i64) s.Done)], .v (.int .i64 p_id)] (.v (.int .i64 r)):=by
  unfold Sh.spool_find at h
  refine yO 9 func43 fun g0 hn hio => ?_
  refine yyy hn 3 [2,3] ?_
  refine ht_seq ?_
  obtain ⟨v1, hv1, h⟩:=zn h
  refine yx hn 2 ?_
  refine yS (.clo 52 [3]) 0 ⟨op_makeFunc_name _ _ _ 3 (by decide)⟩ ?_
  refine yS (vi v1) 1 ⟨op_callC _ 8 3 7 51 52 [.int .i64 p_id] [.tmp 6] _ _ rfl call51 rfl rfl rfl rfl (fun bx=>ok_slices_IndexFunc_api_Item_api_Item_of_spool_find_1 bx s.Items p_id _ hv1) rfl rfl⟩ ?_
  refine yee [4] ?_
  refine ht_ret ?_
  obtain rfl:=zi h
  exact pt_ret hio rfl (.tmp _ _ .nil) rfl rfl
theorem ok_spool_waits (s:T_Spool) (p_id:Int) (r:Bool) (h:Sh.spool_waits s p_id=some r):FnOK Tryz.prog 36 [.agg [.fr .shr true 11 (flatten (map T_Item.ienc s.Items)), .v (.int .i64 s.Packs), .fl .shr 1 (map (int .i64) s.Sent), .fl .shr 1 (map (int .u8) s.Part), .v (.int .i64 s.Of), .fl .shr 1 (map (int .i64) s.Done)], .v (.int .i64 p_id)] (.v (.bool r)):=by
  unfold Sh.spool_waits at h
  refine yO 20 func36 fun g0 hn hio => ?_
  refine yyy hn 2 [1,2] ?_
  refine ht_seq ?_
  obtain ⟨v1, hv1, h⟩:=zn h
  refine yx hn 2 ?_
  refine ys 1 ⟨lk call43 (ok_spool_find _ _ _ hv1)⟩ ?_
  refine yee [2,5] ?_
  refine ht_seq ?_
  refine ht_joinS h (fun (s4:Bool)=>[(4,vb s4)]) ?_ ?_
  ·rintro s4 h
   refine pt_then (ht_ret ?_)
   obtain rfl:=zi h
   exact pt_ret hio rfl (.tmp _ _ .nil) rfl rfl
  ·intro u5 h hl6 hr7
   refine cond_some h (fun hg2_2 h => ?_) (fun hg2_2 h => ?_)
   ·obtain ⟨v2, hv2, h⟩:=zn h
    obtain ⟨v3, hv3, h⟩:=zn h
    refine yx hn 3 ?_
    refine yd hg2_2 3 ?_
    refine ys 1 ⟨lI hv2⟩ ?_
    refine yS (vi v3.State) 3 ⟨op_load_fr _ _ _ _ _ _ _ underlying3 rfl rfl rfl (gflat_cell T_Item.ilen hv3 rfl) (.v _)⟩ ?_
    refine ye [4] ?_
    exact hl6 _ (zi h).symm
   ·refine yx hn 3 ?_
    refine yd hg2_2 9 ?_
    refine ye [4] ?_
    exact hl6 _ (zi h).symm
theorem ok_spool_validIds (s:T_Spool) (ids:(List Int)) (r:Bool) (h:Sh.spool_validIds s ids=some r):FnOK Tryz.prog 35 [.agg [.fr .shr true 11 (flatten (map T_Item.ienc s.Items)), .v (.int .i64 s.Packs), .fl .shr 1 (map (int .i64) s.Sent), .fl .shr 1 (map (int .u8) s.Part), .v (.int .i64 s.Of), .fl .shr 1 (map (int .i64) s.Done)], .fl .shr 1 (map (int .i64) ids)] (.v (.bool r)):=by
  unfold Sh.spool_validIds at h
  refine yO 40 func35 fun g0 hn hio => ?_
  refine yyy hn 2 [1,2] ?_
  refine ht_seq ?_
  refine ht_seq ?_
  refine ht_joinS h (fun (s1:Bool)=>[(1,fi ids),(2,.box 33 (T_Spool.c s [])),(14,vb s1)]) ?_ ?_
  ·rintro s1 h
   refine pt_then ?_
   refine ht_cond _ rfl (fun hb5 => ?_) (fun hb5 => ?_)
   ·have h:=cond_t hb5 h
    refine yyy hn 1 [4] ?_
    refine ht_ret ?_
    refine pt_r_then ?_
    obtain rfl:=zi h
    exact pt_ret hio rfl (.tmp _ _ .nil) rfl rfl
   ·have h:=cond_f hb5 h
    refine ht_skip ?_
    refine pt_then (ht_seq ?_)
    refine yyy hn 3 [1,2,15,16,17] ?_
    refine ht_loopS h (fun (s27:Int)=>[(1,fi ids),(2,.box 33 (T_Spool.c s [])),(15,fi ids),(16,vi (ids.length:Int)),(17,vi s27)]) (fun (():Unit)=>[]) ?_ ?_
    ·rintro ⟨⟩ h
     refine pt_then ?_
     refine yyy hn 1 [4] ?_
     refine ht_ret ?_
     obtain rfl:=zi h
     exact pt_ret hio rfl (.tmp _ _ .nil) rfl rfl
    ·rintro u34 hl35 hr36 s27 rr39 h ho37
     refine yyy hn 1 [1,2,15,16,17,18] ?_
     refine ht_seq ?_
     refine ht_cond _ rfl (fun hb40 => ?_) (fun hb40 => ?_)
     ·have h:=cond_t hb40 h
      refine ht_skip ?_
      refine pt_then (ht_seq ?_)
      refine ht_block ?_
      refine ht_seq ?_
      obtain ⟨v7, hv7, h⟩:=zn h
      obtain ⟨v8, hv8, h⟩:=zn h
      refine yx hn 1 ?_
      refine ys 0 ⟨li hv7⟩ ?_
      refine ys 2 ⟨ll hv8⟩ ?_
      refine yee [1,2,15,16,17,5,6] ?_
      refine ht_seq ?_
      refine ht_joinS h (fun (s41:Bool)=>[(1,fi ids),(2,.box 33 (T_Spool.c s [])),(15,fi ids),(16,vi (ids.length:Int)),(17,vi s27),(38,vb s41)]) ?_ ?_
      ·rintro s41 h
       refine pt_then ?_
       refine ht_cond _ rfl (fun hb45 => ?_) (fun hb45 => ?_)
       ·have h:=cond_t hb45 h
        refine yyy hn 1 [4] ?_
        refine ht_ret ?_
        refine pt_r_in ?_
        refine pt_r_then ?_
        refine pt_r_then ?_
        refine pt_r_in ?_
        refine pt_r_then ?_
        have h:=hr36 _ (ho37 _ (zi h).symm).symm
        obtain rfl:=zi h
        exact pt_ret hio rfl (.tmp _ _ .nil) rfl rfl
       ·have h:=cond_f hb45 h
        refine ht_skip ?_
        refine pt_inb ?_
        refine pt_then ?_
        obtain ⟨v19, hv19, h⟩:=zn h
        refine yx hn 0 ?_
        refine ys 0 ⟨lb hv19⟩ ?_
        refine yw [17] 1 ?_
        refine ye [1,2,15,16,17] ?_
        exact pt_next _ (zi h).symm rfl
      ·intro u42 h hl43 hr44
       refine cond_some h (fun hg6_2 h => ?_) (fun hg6_2 h => ?_)
       ·obtain ⟨v9, hv9, h⟩:=zn h
        obtain ⟨v10, hv10, h⟩:=zn h
        obtain ⟨v11, hv11, h⟩:=zn h
        refine cond_some h (fun hg6_11 h => ?_) (fun hg6_11 h => ?_)
        ·refine yx hn 3 ?_
         refine yd hg6_2 3 ?_
         refine ys 0 ⟨lb hv9⟩ ?_
         refine ys 0 ⟨li hv10⟩ ?_
         refine ys 3 ⟨ll hv11⟩ ?_
         refine yd hg6_11 5 ?_
         refine ye [1,2,15,16,17,38] ?_
         exact hl43 _ (zi h).symm
        ·obtain ⟨v12, hv12, h⟩:=zn h
         refine yx hn 3 ?_
         refine yd hg6_2 3 ?_
         refine ys 0 ⟨lb hv9⟩ ?_
         refine ys 0 ⟨li hv10⟩ ?_
         refine ys 3 ⟨ll hv11⟩ ?_
         refine yd hg6_11 2 ?_
         refine ys 2 ⟨lk call36 (ok_spool_waits _ _ _ hv12)⟩ ?_
         refine ye [1,2,15,16,17,38] ?_
         exact hl43 _ (zi h).symm
       ·obtain ⟨v13, hv13, h⟩:=zn h
        refine yx hn 3 ?_
        refine yd hg6_2 11 ?_
        refine ys 2 ⟨lk call36 (ok_spool_waits _ _ _ hv13)⟩ ?_
        refine ye [1,2,15,16,17,38] ?_
        exact hl43 _ (zi h).symm
     ·have h:=cond_f hb40 h
      refine ht_exit ?_
      refine pt_x_then ?_
      refine pt_x_then ?_
      refine pt_x_in ?_
      refine pt_pick [] (by kernel_rfl) (es':=[]) rfl ?_
      exact hl35 _ (ho37 _ (zi h).symm).symm
  ·intro u2 h hl3 hr4
   refine cond_some h (fun hg1_3 h => ?_) (fun hg1_3 h => ?_)
   ·refine yx hn 4 ?_
    refine yd hg1_3 4 ?_
    refine ye [1,2,14] ?_
    exact hl3 _ (zi h).symm
   ·refine yx hn 4 ?_
    refine yd hg1_3 4 ?_
    refine ye [1,2,14] ?_
    exact hl3 _ (zi h).symm
theorem ok_spool_open (s:T_Spool) (number:Int) (r:Bool) (h:Sh.spool_open s number=some r):FnOK Tryz.prog 37 [.agg [.fr .shr true 11 (flatten (map T_Item.ienc s.Items)), .v (.int .i64 s.Packs), .fl .shr 1 (map (int .i64) s.Sent), .fl .shr 1 (map (int .u8) s.Part), .v (.int .i64 s.Of), .fl .shr 1 (map (int .i64) s.Done)], .v (.int .i64 number)] (.v (.bool r)):=by
  unfold Sh.spool_open at h
  refine yO 18 func37 fun g0 hn hio => ?_
  refine yyy hn 2 [1,2] ?_
  refine ht_seq ?_
  refine ht_joinS h (fun (s2:Bool)=>[(4,vb s2)]) ?_ ?_
  ·rintro s2 h
   refine pt_then (ht_ret ?_)
   obtain rfl:=zi h
   exact pt_ret hio rfl (.tmp _ _ .nil) rfl rfl
  ·intro u3 h hl4 hr5
   refine cond_some h (fun hg1_2 h => ?_) (fun hg1_2 h => ?_)
   ·refine cond_some h (fun hg1_6 h => ?_) (fun hg1_6 h => ?_)
    ·obtain ⟨v1, hv1, h⟩:=zn h
     refine yx hn 3 ?_
     refine yd hg1_2 4 ?_
     refine yd hg1_6 3 ?_
     refine ys 3 ⟨lk call28 (ok_slices_Contains_int_int _ _ _ hv1)⟩ ?_
     refine ye [4] ?_
     exact hl4 _ (zi h).symm
    ·refine yx hn 3 ?_
     refine yd hg1_2 4 ?_
     refine yd hg1_6 7 ?_
     refine ye [4] ?_
     exact hl4 _ (zi h).symm
   ·refine yx hn 3 ?_
    refine yd hg1_2 11 ?_
    refine ye [4] ?_
    exact hl4 _ (zi h).symm
theorem ok_spool_validChunk (s:T_Spool) (p_r:T_Rec) (r:Bool) (h:Sh.spool_validChunk s p_r=some r):FnOK Tryz.prog 38 [.agg [.fr .shr true 11 (flatten (map T_Item.ienc s.Items)), .v (.int .i64 s.Packs), .fl .shr 1 (map (int .i64) s.Sent), .fl .shr 1 (map (int .u8) s.Part), .v (.int .i64 s.Of), .fl .shr 1 (map (int .i64) s.Done)], .agg [.v (.int .i64 p_r.Kind), .v (.bool p_r.Mail.From.Null), .v (.string p_r.Mail.From.Local), .v (.string p_r.Mail.From.Domain), .fl .shr 3 (flatten (map T_Path.enc p_r.Mail.To)), .fl .shr 1 (map (int .u8) p_r.Mail.Body), .v (.bool p_r.Mail.Quiet), .v (.string p_r.Mail.Helo), .v (.int .i64 p_r.Mail.At), .v (.int .i64 p_r.Id), .fl .shr 1 (map (int .i64) p_r.Ids), .v (.int .i64 p_r.Origin), .v (.int .i64 p_r.Number), .v (.int .i64 p_r.Offset), .fl .shr 1 (map (int .u8) p_r.Data)]] (.v (.bool r)):=by
  unfold Sh.spool_validChunk at h
  refine yO 41 func38 fun g0 hn hio => ?_
  refine yyy hn 3 [2,3] ?_
  refine ht_seq ?_
  refine ht_seq ?_
  refine ht_joinS h (fun (s1:Bool)=>[(2,.box 33 (T_Spool.c s [])),(3,.box 53 (T_Rec.c p_r [])),(14,vb s1)]) ?_ ?_
  ·rintro s1 h
   refine pt_then ?_
   refine ht_cond _ rfl (fun hb5 => ?_) (fun hb5 => ?_)
   ·have h:=cond_t hb5 h
    refine yyy hn 1 [4] ?_
    refine ht_ret ?_
    refine pt_r_then ?_
    obtain rfl:=zi h
    exact pt_ret hio rfl (.tmp _ _ .nil) rfl rfl
   ·have h:=cond_f hb5 h
    refine ht_skip ?_
    refine pt_then (ht_seq ?_)
    refine yyy hn 3 [2,3,17] ?_
    refine ht_cond _ rfl (fun hb6 => ?_) (fun hb6 => ?_)
    ·have h:=cond_t hb6 h
     refine yyy hn 1 [4] ?_
     refine ht_ret ?_
     refine pt_r_then ?_
     obtain rfl:=zi h
     exact pt_ret hio rfl (.tmp _ _ .nil) rfl rfl
    ·have h:=cond_f hb6 h
     refine ht_skip ?_
     refine pt_then (ht_seq ?_)
     refine ht_joinS h (fun (s8:Bool)=>[(4,vb s8)]) ?_ ?_
     ·rintro s8 h
      refine pt_then (ht_ret ?_)
      obtain rfl:=zi h
      exact pt_ret hio rfl (.tmp _ _ .nil) rfl rfl
     ·intro u9 h hl10 hr11
      refine cond_some h (fun hg5_5 h => ?_) (fun hg5_5 h => ?_)
      ·refine cond_some h (fun hg5_13 h => ?_) (fun hg5_13 h => ?_)
       ·obtain ⟨v7, hv7, h⟩:=zn h
        refine yx hn 6 ?_
        refine yd hg5_5 8 ?_
        refine yd hg5_13 6 ?_
        refine ys 3 ⟨lb hv7⟩ ?_
        refine ye [4] ?_
        exact hl10 _ (zi h).symm
       ·refine yx hn 6 ?_
        refine yd hg5_5 8 ?_
        refine yd hg5_13 10 ?_
        refine ye [4] ?_
        exact hl10 _ (zi h).symm
      ·refine yx hn 6 ?_
       refine yd hg5_5 18 ?_
       refine ye [4] ?_
       exact hl10 _ (zi h).symm
  ·intro u2 h hl3 hr4
   refine cond_some h (fun hg1_4 h => ?_) (fun hg1_4 h => ?_)
   ·refine yx hn 5 ?_
    refine yd hg1_4 5 ?_
    refine ye [2,3,14] ?_
    exact hl3 _ (zi h).symm
   ·refine yx hn 5 ?_
    refine yd hg1_4 5 ?_
    refine ye [2,3,14] ?_
    exact hl3 _ (zi h).symm
end Go.Proofs.YthhebpiaknfnhaaGreatDoor
