/-
  The model's runs are what is told in Lean.
-/
import Derived.Test.YtkgfjkfccpjcgaaDoorProg
import Derived.KernelRfl
import Derived.Test.YtkgfjkfccpjcgaaDoorShelf
import Derived.Test.YtkgfjkfccpjcgaaDoorB2
import Derived.Test.YtkgfjkfccpjcgaaDoorB4
import Derived.Test.YtkgfjkfccpjcgaaDoorB5
import Derived.Test.YtkgfjkfccpjcgaaDoorB8
import Derived.Test.YtkgfjkfccpjcgaaDoorSrt
import Derived.Test.YtkgfjkfccpjcgaaDoorB9
import Derived.Test.YtkgfjkfccpjcgaaDoorShr
import Derived.Test.YtkgfjkfccpjcgaaDoorC1
import Derived.Test.YtkgfjkfccpjcgaaDoorOkc5
set_option linter.unusedVariables false
set_option linter.unusedSimpArgs false
set_option maxHeartbeats 1000000
namespace Go.Proofs.YtkgfjkfccpjcgaaDoor
open Go.Abs Go.Abs.Sh Tryd
open List (map flatten)
open Value (int)
theorem ok_wherryref01_RightLengths (l:(List Int)) (r:Bool) (h:Sh.wherryref01_RightLengths l=some r):FnOK Tryd.prog 113 [.fl .shr 1 (map (int .i64) l)] (.v (.bool r)):=by
  unfold Sh.wherryref01_RightLengths at h
  refine yO 19 func113 fun g0 hn hio => ?_
  refine yyy hn 1 [0] ?_
  refine ht_seq ?_
  refine yyy hn 3 [0,6] ?_
  refine ht_cond _ rfl (fun hb1 => ?_) (fun hb1 => ?_)
  ·have h:=cond_t hb1 h
   refine yyy hn 1 [2] ?_
   refine ht_ret ?_
   refine pt_r_then ?_
   obtain rfl:=zi h
   exact pt_ret hio rfl (.tmp _ _ .nil) rfl rfl
  ·have h:=cond_f hb1 h
   refine ht_skip ?_
   refine pt_then (ht_seq ?_)
   refine yyy hn 1 [0,3] ?_
   refine ht_loopS h (fun (s11:Int)=>[(0,fi l),(3,vi s11)]) (fun (():Unit)=>[]) ?_ ?_
   ·rintro ⟨⟩ h
    refine pt_then ?_
    refine yyy hn 1 [2] ?_
    refine ht_ret ?_
    obtain rfl:=zi h
    exact pt_ret hio rfl (.tmp _ _ .nil) rfl rfl
   ·rintro u14 hl15 hr16 s11 rr19 h ho17
    refine ht_seq ?_
    refine yyy hn 4 [0,3,10] ?_
    refine ht_cond _ rfl (fun hb20 => ?_) (fun hb20 => ?_)
    ·have h:=cond_t hb20 h
     refine ht_skip ?_
     refine pt_then (ht_seq ?_)
     refine ht_block ?_
     refine ht_seq ?_
     obtain ⟨v3, hv3, h⟩:=zn h
     obtain ⟨v4, hv4, h⟩:=zn h
     obtain ⟨v5, hv5, h⟩:=zn h
     refine yx hn 2 ?_
     refine ys 0 ⟨li hv3⟩ ?_
     refine ys 0 ⟨ll hv4⟩ ?_
     refine ys 1 ⟨lk call50 (ok_wherryref01_in _ _ _ _ hv5)⟩ ?_
     refine yee [0,3,18] ?_
     refine ht_cond _ rfl (fun hb21 => ?_) (fun hb21 => ?_)
     ·have h:=cond_t hb21 h
      refine yyy hn 1 [2] ?_
      refine ht_ret ?_
      refine pt_r_in ?_
      refine pt_r_then ?_
      refine pt_r_then ?_
      refine pt_r_in ?_
      refine pt_r_then ?_
      have h:=hr16 _ (ho17 _ (zi h).symm).symm
      obtain rfl:=zi h
      exact pt_ret hio rfl (.tmp _ _ .nil) rfl rfl
     ·have h:=cond_f hb21 h
      refine ht_skip ?_
      refine pt_inb ?_
      refine pt_then ?_
      obtain ⟨v7, hv7, h⟩:=zn h
      refine yx hn 1 ?_
      refine ys 0 ⟨lb hv7⟩ ?_
      refine yw [3] 1 ?_
      refine ye [0,3] ?_
      exact pt_next _ (zi h).symm rfl
    ·have h:=cond_f hb20 h
     refine ht_exit ?_
     refine pt_x_then ?_
     refine pt_x_then ?_
     refine pt_x_in ?_
     refine pt_pick [] (by kernel_rfl) (es':=[]) rfl ?_
     exact hl15 _ (ho17 _ (zi h).symm).symm
theorem ok_wherryref01_Weigh (l:(List Int)) (r:Int) (h:Sh.wherryref01_Weigh l=some r):FnOK Tryd.prog 98 [.fl .shr 1 (map (int .i64) l)] (.v (.int .i64 r)):=by
  unfold Sh.wherryref01_Weigh at h
  refine yO 29 func98 fun g0 hn hio => ?_
  refine yyy hn 1 [0] ?_
  refine ht_seq ?_
  refine ht_seq ?_
  obtain ⟨v1, hv1, h⟩:=zn h
  refine yx hn 1 ?_
  refine ys 1 ⟨lk call113 (ok_wherryref01_RightLengths _ _ hv1)⟩ ?_
  refine yee [0,7] ?_
  refine ht_cond _ rfl (fun hb2 => ?_) (fun hb2 => ?_)
  ·have h:=cond_t hb2 h
   refine yyy hn 1 [2] ?_
   refine ht_ret ?_
   refine pt_r_then ?_
   obtain rfl:=zi h
   exact pt_ret hio rfl (.tmp _ _ .nil) rfl rfl
  ·have h:=cond_f hb2 h
   refine ht_skip ?_
   refine pt_then ?_
   refine yyy hn 1 [0,3] ?_
   refine ht_seq ?_
   refine yyy hn 1 [0,3,4] ?_
   refine ht_loopS h (fun ((s28,s29):Int×Int)=>[(0,fi l),(3,vi s28),(4,vi s29)]) (fun (s37:Int)=>[(3,vi s37)]) ?_ ?_
   ·rintro s37 h
    refine pt_then ?_
    refine yyy hn 2 [2] ?_
    refine ht_ret ?_
    obtain rfl:=zi h
    exact pt_ret hio rfl (.tmp _ _ .nil) rfl rfl
   ·rintro u38 hl39 hr40 ⟨s28, s29⟩ rr43 h ho41
    refine ht_seq ?_
    refine yyy hn 4 [0,3,4,11] ?_
    refine ht_cond _ rfl (fun hb44 => ?_) (fun hb44 => ?_)
    ·have h:=cond_t hb44 h
     refine ht_skip ?_
     refine pt_then (ht_seq ?_)
     refine ht_joinS h (fun (s46:Int)=>[(0,fi l),(4,vi s29),(3,vi s46)]) ?_ ?_
     ·rintro s46 h
      refine pt_then ?_
      obtain ⟨v18, hv18, h⟩:=zn h
      refine yx hn 1 ?_
      refine ys 0 ⟨lb hv18⟩ ?_
      refine yw [4] 1 ?_
      refine ye [0,3,4] ?_
      exact pt_next _ (zi h).symm rfl
     ·intro u47 h hl48 hr49
      refine ht_block ?_
      refine ht_seq ?_
      obtain ⟨v4, hv4, h⟩:=zn h
      obtain ⟨v5, hv5, h⟩:=zn h
      refine yx hn 2 ?_
      refine ys 0 ⟨li hv4⟩ ?_
      refine ys 1 ⟨ll hv5⟩ ?_
      refine yee [0,3,4,18] ?_
      refine ht_cond _ rfl (fun hb50 => ?_) (fun hb50 => ?_)
      ·have h:=cond_t hb50 h
       obtain ⟨v7, hv7, h⟩:=zn h
       obtain ⟨v8, hv8, h⟩:=zn h
       obtain ⟨v9, hv9, h⟩:=zn h
       obtain ⟨v10, hv10, h⟩:=zn h
       obtain ⟨v11, hv11, h⟩:=zn h
       obtain ⟨v12, hv12, h⟩:=zn h
       refine yx hn 3 ?_
       refine ys 0 ⟨li hv7⟩ ?_
       refine ys 0 ⟨ll hv8⟩ ?_
       refine ys 0 ⟨lb hv9⟩ ?_
       refine ys 0 ⟨lv hv10⟩ ?_
       refine ys 0 ⟨lB (shl_ok hv11)⟩ ?_
       refine ys 0 ⟨lb hv12⟩ ?_
       refine yw [3] 1 ?_
       refine ye [0,4,3] ?_
       refine pt_inb ?_
       exact hl48 _ (zi h).symm
      ·have h:=cond_f hb50 h
       refine ht_skip ?_
       refine pt_inb ?_
       refine pt_pick [0,2,1] (by kernel_rfl) (es':=[(_,_),(_,_),(_,_)]) rfl ?_
       exact hl48 _ (zi h).symm
    ·have h:=cond_f hb44 h
     refine ht_exit ?_
     refine pt_x_then ?_
     refine pt_x_then ?_
     refine pt_x_in ?_
     refine pt_pick [1] (by kernel_rfl) (es':=[(_,_)]) rfl ?_
     exact hl39 _ (ho41 _ (zi h).symm).symm
theorem ok_wherryref01_makes (l:(List Int)) (r:Bool) (h:Sh.wherryref01_makes l=some r):FnOK Tryd.prog 77 [.fl .shr 1 (map (int .i64) l)] (.v (.bool r)):=by
  unfold Sh.wherryref01_makes at h
  refine yO 38 func77 fun g0 hn hio => ?_
  refine yyy hn 1 [0] ?_
  refine yyy hn 2 [0,3,4] ?_
  refine ht_seq ?_
  refine yyy hn 1 [0,3,4,5] ?_
  refine ht_loopS h (fun ((s26,s27,s28):Int×Int×Int)=>[(0,fi l),(3,vi s26),(4,vi s27),(5,vi s28)]) (fun ((s37,s38):Int×Int)=>[(0,fi l),(3,vi s37),(4,vi s38)]) ?_ ?_
  ·rintro ⟨s37, s38⟩ h
   refine pt_then (ht_seq ?_)
   refine ht_joinS h (fun (s55:Bool)=>[(2,vb s55)]) ?_ ?_
   ·rintro s55 h
    refine pt_then (ht_ret ?_)
    obtain rfl:=zi h
    exact pt_ret hio rfl (.tmp _ _ .nil) rfl rfl
   ·intro u56 h hl57 hr58
    refine cond_some h (fun hg7_2 h => ?_) (fun hg7_2 h => ?_)
    ·refine yx hn 3 ?_
     refine yd hg7_2 13 ?_
     refine ye [2] ?_
     exact hl57 _ (zi h).symm
    ·refine cond_some h (fun hg7_5 h => ?_) (fun hg7_5 h => ?_)
     ·refine cond_some h (fun hg7_10 h => ?_) (fun hg7_10 h => ?_)
      ·refine yx hn 3 ?_
       refine yd hg7_2 3 ?_
       refine yd hg7_5 5 ?_
       refine yd hg7_10 5 ?_
       refine ye [2] ?_
       exact hl57 _ (zi h).symm
      ·obtain ⟨v53, hv53, h⟩:=zn h
       refine yx hn 3 ?_
       refine yd hg7_2 3 ?_
       refine yd hg7_5 5 ?_
       refine yd hg7_10 1 ?_
       refine ys 3 ⟨lk call98 (ok_wherryref01_Weigh _ _ hv53)⟩ ?_
       refine ye [2] ?_
       exact hl57 _ (zi h).symm
     ·obtain ⟨v54, hv54, h⟩:=zn h
      refine yx hn 3 ?_
      refine yd hg7_2 3 ?_
      refine yd hg7_5 6 ?_
      refine ys 3 ⟨lk call98 (ok_wherryref01_Weigh _ _ hv54)⟩ ?_
      refine ye [2] ?_
      exact hl57 _ (zi h).symm
  ·rintro u39 hl40 hr41 ⟨s26, s27, s28⟩ rr44 h ho42
   refine ht_seq ?_
   refine yyy hn 4 [0,3,4,5,9] ?_
   refine ht_cond _ rfl (fun hb45 => ?_) (fun hb45 => ?_)
   ·have h:=cond_t hb45 h
    refine ht_skip ?_
    refine pt_then (ht_seq ?_)
    refine ht_joinS h (fun ((s47,s48):Int×Int)=>[(0,fi l),(5,vi s28),(3,vi s47),(4,vi s48)]) ?_ ?_
    ·rintro ⟨s47, s48⟩ h
     refine pt_then ?_
     obtain ⟨v14, hv14, h⟩:=zn h
     refine yx hn 1 ?_
     refine ys 0 ⟨lb hv14⟩ ?_
     refine yw [5] 1 ?_
     refine ye [0,3,4,5] ?_
     exact pt_next _ (zi h).symm rfl
    ·intro u49 h hl50 hr51
     refine ht_block ?_
     refine ht_seq ?_
     obtain ⟨v2, hv2, h⟩:=zn h
     obtain ⟨v3, hv3, h⟩:=zn h
     refine yx hn 2 ?_
     refine ys 0 ⟨li hv2⟩ ?_
     refine ys 1 ⟨ll hv3⟩ ?_
     refine yee [0,3,4,5,16] ?_
     refine ht_cond _ rfl (fun hb52 => ?_) (fun hb52 => ?_)
     ·have h:=cond_t hb52 h
      obtain ⟨v5, hv5, h⟩:=zn h
      obtain ⟨v6, hv6, h⟩:=zn h
      obtain ⟨v7, hv7, h⟩:=zn h
      refine wb [[3]] ?_
      refine wN [17] ?_
      refine wo [[0],[5]] ⟨lb hv5⟩ ?_
      refine wN [19,20] ?_
      refine wo [] ⟨li hv6⟩ ?_
      refine wN [21,19] ?_
      refine wo [] ⟨ll hv7⟩ ?_
      refine wK [3] [18] ?_
      refine wt [(3,vi v5)] [] ⟨LOp.drop [_] (op_assign _ _ _ _ rfl rfl)⟩ ?_
      refine wK [4] [22] ?_
      refine wt [(4,vi v7)] [] ⟨LOp.drop [_] (op_assign _ _ _ _ rfl rfl)⟩ ?_
      refine we hn [0,5,3,4] ?_
      refine pt_inb ?_
      exact hl50 _ (zi h).symm
     ·have h:=cond_f hb52 h
      refine ht_skip ?_
      refine pt_inb ?_
      refine pt_pick [0,3,1,2] (by kernel_rfl) (es':=[(_,_),(_,_),(_,_),(_,_)]) rfl ?_
      exact hl50 _ (zi h).symm
   ·have h:=cond_f hb45 h
    refine ht_exit ?_
    refine pt_x_then ?_
    refine pt_x_then ?_
    refine pt_x_in ?_
    refine pt_pick [0,1,2] (by kernel_rfl) (es':=[(_,_),(_,_),(_,_)]) rfl ?_
    exact hl40 _ (ho42 _ (zi h).symm).symm
theorem ok_wherryref01_reader_dynamic (p_r:T_wherryref01_reader) (r:T_wherryref01_reader) (h:Sh.wherryref01_reader_dynamic p_r=some r):FnP Tryd.prog 43 [.box 67 [.fl .shr 1 (map (int .u8) p_r.b), .v (.int .i64 p_r.at_), .v (.int .i64 p_r.bad), .fl (.own 5) 1 (map (int .u8) p_r.out), .v (.int .i64 p_r.most)]] [.box 67 [.fl .shr 1 (map (int .u8) r.b), .v (.int .i64 r.at_), .v (.int .i64 r.bad), .fl (.own 5) 1 (map (int .u8) r.out), .v (.int .i64 r.most)]] (.tup []):=by
  unfold Sh.wherryref01_reader_dynamic at h
  refine yP 176 func43 fun args0 hargs0 g0 hn hio => ?_
  refine ht_seq ?_
  obtain ⟨v1, hv1, h⟩:=zn h
  obtain ⟨v2, hv2, h⟩:=zn h
  obtain ⟨v3, hv3, h⟩:=zn h
  obtain ⟨v4, hv4, h⟩:=zn h
  obtain ⟨v5, hv5, h⟩:=zn h
  obtain ⟨v6, hv6, h⟩:=zn h
  refine yx hn 1 ?_
  refine yq call40 (ok_wherryref01_reader_get _ _ _ hv1) 0 [13] 0 ?_
  refine ys 1 ⟨lb hv2⟩ ?_
  refine yq call40 (ok_wherryref01_reader_get _ _ _ hv3) 0 [16] 0 ?_
  refine ys 1 ⟨lb hv4⟩ ?_
  refine yq call40 (ok_wherryref01_reader_get _ _ _ hv5) 0 [19] 0 ?_
  refine ys 3 ⟨lb hv6⟩ ?_
  refine yee [0,2,3,4,0] ?_
  refine ht_seq ?_
  refine ht_joinS h (fun ((s13,s14,s15,s16,s17):(List Int)×Int×Int×(List Int)×Int)=>[(0,.box 67 [fb s13,vi s14,vi s15,.fl (.own 5) 1 (map (int .u8) s16),vi s17]),(2,vi v2),(3,vi v4),(4,vi v6),(0,.v (List.getD args0 0 undef))]) ?_ ?_
  ·rintro ⟨s13, s14, s15, s16, s17⟩ h
   refine pt_then (ht_seq ?_)
   obtain ⟨v26, hv26, h⟩:=zn h
   refine yx hn 0 ?_
   refine yS (.fl (.own 3) 1 (map (int .i64) v26)) 0 ⟨op_mk (f:=int .i64) _ _ _ _ el37 (by decide) zr3 rfl rfl rfl hv26⟩ ?_
   refine ya 0 ?_
   refine yee [0,2,3,4,5,0] ?_
   refine ht_seq ?_
   obtain ⟨v27, hv27, h⟩:=zn h
   refine yx hn 0 ?_
   refine ys 0 ⟨lk call70 (ok_wherryref01_order _ hv27)⟩ ?_
   refine ya 0 ?_
   refine yee [0,2,3,4,5,6,0] ?_
   refine ht_seq ?_
   refine yyy hn 1 [0,2,3,4,5,6,7,0] ?_
   refine ht_loopS h (fun ((s51,s52,s53,s54,s55,s56,s57):(List Int)×Int×Int×(List Int)×Int×(List Int)×Int)=>[(0,.box 67 [fb s51,vi s52,vi s53,.fl (.own 5) 1 (map (int .u8) s54),vi s55]),(2,vi v2),(3,vi v4),(4,vi v6),(5,.fl (.own 3) 1 (map (int .i64) s56)),(6,.fl (.own 3) 1 (map (int .i64) v27)),(7,vi s57),(0,.v (List.getD args0 0 undef))]) (fun ((s63,s64,s65,s66,s67,s68):(List Int)×Int×Int×(List Int)×Int×(List Int))=>[(0,.box 67 [fb s63,vi s64,vi s65,.fl (.own 5) 1 (map (int .u8) s66),vi s67]),(2,vi v2),(3,vi v4),(5,.fl (.own 3) 1 (map (int .i64) s68)),(0,.v (List.getD args0 0 undef))]) ?_ ?_
   ·rintro ⟨s63, s64, s65, s66, s67, s68⟩ h
    refine pt_then (ht_seq ?_)
    refine ht_seq ?_
    refine ht_joinS h (fun (s81:Bool)=>[(0,.box 67 [fb s63,vi s64,vi s65,.fl (.own 5) 1 (map (int .u8) s66),vi s67]),(2,vi v2),(3,vi v4),(5,.fl (.own 3) 1 (map (int .i64) s68)),(68,vb s81),(0,.v (List.getD args0 0 undef))]) ?_ ?_
    ·rintro s81 h
     refine pt_then ?_
     refine ht_cond _ rfl (fun hb85 => ?_) (fun hb85 => ?_)
     ·have h:=cond_t hb85 h
      refine ht_seq ?_
      obtain ⟨v86, hv86, h⟩:=zn h
      refine yx hn 1 ?_
      refine yq call44 (ok_wherryref01_reader_none _ _ hv86) 0 [69] 0 ?_
      refine yee [0,0] ?_
      refine ht_ret ?_
      refine pt_r_then ?_
      obtain rfl:=zi h
      exact pt_retP (es:=[]) (posts:=[.box 67 [fb v86.b,.v (.int .i64 v86.at_),.v (.int .i64 v86.bad),.fl (.own 5) 1 (map (int .u8) v86.out),.v (.int .i64 v86.most)]]) hio rfl rfl .nil rfl rfl hargs0 rfl
     ·have h:=cond_f hb85 h
      refine ht_skip ?_
      refine pt_then (ht_seq ?_)
      obtain ⟨v87, hv87, h⟩:=zn h
      refine yx hn 1 ?_
      refine ys 0 ⟨lk call71 (ok_wherryref01_codes _ _ hv87)⟩ ?_
      refine ya 0 ?_
      refine yee [0,2,3,5,8,0] ?_
      refine yyy hn 1 [0,2,3,5,8,9,0] ?_
      refine ht_seq ?_
      refine ht_frzE 3 hio (es':=[(0, .box 67 [fb s63,.v (.int .i64 s64),.v (.int .i64 s65),.fl (.own 5) 1 (map (int .u8) s66),.v (.int .i64 s67)]), (2, .v (.int .i64 v2)), (3, .v (.int .i64 v4)), (5, .fl .ro 1 (map (int .i64) s68)), (8, .fl (.own 3) 1 (map (int .i64) v87)), (9, vz), (0, .v (List.getD args0 0 undef))]) rfl ?_
      refine ht_frzE 4 hio (es':=[(0, .box 67 [fb s63,.v (.int .i64 s64),.v (.int .i64 s65),.fl (.own 5) 1 (map (int .u8) s66),.v (.int .i64 s67)]), (2, .v (.int .i64 v2)), (3, .v (.int .i64 v4)), (5, .fl .ro 1 (map (int .i64) s68)), (8, .fl .ro 1 (map (int .i64) v87)), (9, vz), (0, .v (List.getD args0 0 undef))]) rfl ?_
      refine ht_sub (fs:=[(0,.box 67 [fb s63,vi s64,vi s65,.fl (.own 5) 1 (map (int .u8) s66),vi s67]),(2,vi v2),(3,vi v4),(5,.fl .ro 1 (map (int .i64) s68)),(8,.fl .ro 1 (map (int .i64) v87)),(9,.fl (.own 3) 1 (map (int .i64) [])),(0,.v (List.getD args0 0 undef))]) (.same _ (.same _ (.same _ (.same _ (.same _ (.sub _ (sub_nil 3 1) rfl (.same _ .nil))))))) ?_
      refine ht_loopS h (fun ((s274,s275,s276,s277,s278,s279,s280,s281):(List Int)×Int×Int×(List Int)×Int×(List Int)×(List Int)×(List Int))=>[(0,.box 67 [fb s274,vi s275,vi s276,.fl (.own 5) 1 (map (int .u8) s277),vi s278]),(2,vi v2),(3,vi v4),(5,.fl .ro 1 (map (int .i64) s279)),(8,.fl .ro 1 (map (int .i64) s280)),(9,.fl (.own 3) 1 (map (int .i64) s281)),(0,.v (List.getD args0 0 undef))]) (fun ((s364,s365,s366,s367,s368,s369):(List Int)×Int×Int×(List Int)×Int×(List Int))=>[(0,.box 67 [fb s364,vi s365,vi s366,.fl (.own 5) 1 (map (int .u8) s367),vi s368]),(2,vi v2),(3,vi v4),(9,.fl (.own 3) 1 (map (int .i64) s369)),(0,.v (List.getD args0 0 undef))]) ?_ ?_
      ·rintro ⟨s364, s365, s366, s367, s368, s369⟩ h
       refine pt_then (ht_seq ?_)
       refine ht_seq ?_
       refine ht_frzE 3 hio (es':=[(0, .box 67 [fb s364,.v (.int .i64 s365),.v (.int .i64 s366),.fl (.own 5) 1 (map (int .u8) s367),.v (.int .i64 s368)]), (2, .v (.int .i64 v2)), (3, .v (.int .i64 v4)), (9, .fl .ro 1 (map (int .i64) s369)), (0, .v (List.getD args0 0 undef))]) rfl ?_
       refine ht_joinS h (fun (s465:Bool)=>[(0,.box 67 [fb s364,vi s365,vi s366,.fl (.own 5) 1 (map (int .u8) s367),vi s368]),(2,vi v2),(9,.fl .ro 1 (map (int .i64) s369)),(165,vb s465),(0,.v (List.getD args0 0 undef))]) ?_ ?_
       ·rintro s465 h
        refine pt_then ?_
        refine ht_cond _ rfl (fun hb469 => ?_) (fun hb469 => ?_)
        ·have h:=cond_t hb469 h
         refine ht_seq ?_
         obtain ⟨v470, hv470, h⟩:=zn h
         refine yx hn 1 ?_
         refine yq call44 (ok_wherryref01_reader_none _ _ hv470) 0 [166] 0 ?_
         refine yee [0,0] ?_
         refine ht_ret ?_
         refine pt_r_then ?_
         obtain rfl:=zi h
         exact pt_retP (es:=[]) (posts:=[.box 67 [fb v470.b,.v (.int .i64 v470.at_),.v (.int .i64 v470.bad),.fl (.own 5) 1 (map (int .u8) v470.out),.v (.int .i64 v470.most)]]) hio rfl rfl .nil rfl rfl hargs0 rfl
        ·have h:=cond_f hb469 h
         refine ht_skip ?_
         refine pt_then ?_
         obtain ⟨v471, hv471, h⟩:=zn h
         obtain ⟨v472, hv472, h⟩:=zn h
         obtain ⟨v473, hv473, h⟩:=zn h
         refine wb [[0],[9],[2]] ?_
         refine wN [169,170] ?_
         refine wS (.fl .ro 1 (map (int .i64) v471)) [[9],[2]] ⟨op_sl _ _ _ 0 v2 _ underlying37 sz3 rfl rfl rfl ⟨_,rfl⟩ hv471⟩ ?_
         refine wN [172,173] ?_
         refine wS (.fl .ro 1 (map (int .i64) v472)) [] ⟨op_sl _ _ _ v2 (s369.length:Int) _ underlying37 sz3 rfl rfl ⟨_,rfl⟩ rfl hv472⟩ ?_
         refine wK [0] [168,171,174] ?_
         refine wt [(0,.box 67 [fb v473.b,vi v473.at_,vi v473.bad,.fl (.own 5) 1 (map (int .u8) v473.out),vi v473.most]),(175,.tup [])] [] ⟨op_callPS _ _ _ _ 175 42 [.tmp 168] [.tmp 171,.tmp 174] _ _ _ rfl call42 rfl rfl rfl (ok_wherryref01_reader_text (T_wherryref01_reader.mk s364 s365 s366 s367 s368) v471 v472 _ hv473) (zl rfl) rfl rfl rfl rfl rfl rfl rfl⟩ ?_
         refine we hn [0,0] ?_
         obtain rfl:=zi h
         exact pt_endP (es:=[]) (posts:=[.box 67 [fb v473.b,.v (.int .i64 v473.at_),.v (.int .i64 v473.bad),.fl (.own 5) 1 (map (int .u8) v473.out),.v (.int .i64 v473.most)]]) hio rfl rfl .nil rfl rfl hargs0 rfl
       ·intro u466 h hl467 hr468
        refine cond_some h (fun hg28_5 h => ?_) (fun hg28_5 h => ?_)
        ·refine yx hn 6 ?_
         refine yd hg28_5 27 ?_
         refine ye [0,2,9,165,0] ?_
         exact hl467 _ (zi h).symm
        ·obtain ⟨v458, hv458, h⟩:=zn h
         refine cond_some h (fun hg28_13 h => ?_) (fun hg28_13 h => ?_)
         ·refine yx hn 6 ?_
          refine yd hg28_5 4 ?_
          refine ys 3 ⟨lb hv458⟩ ?_
          refine yd hg28_13 19 ?_
          refine ye [0,2,9,165,0] ?_
          exact hl467 _ (zi h).symm
         ·obtain ⟨v459, hv459, h⟩:=zn h
          obtain ⟨v460, hv460, h⟩:=zn h
          refine cond_some h (fun hg28_20 h => ?_) (fun hg28_20 h => ?_)
          ·refine yx hn 6 ?_
           refine yd hg28_5 4 ?_
           refine ys 3 ⟨lb hv458⟩ ?_
           refine yd hg28_13 2 ?_
           refine yS (.fl .ro 1 (map (int .i64) v459)) 0 ⟨op_sl _ _ _ 0 v2 _ underlying37 sz3 rfl rfl rfl ⟨_,rfl⟩ hv459⟩ ?_
           refine ys 3 ⟨lk call77 (ok_wherryref01_makes _ _ hv460)⟩ ?_
           refine yd hg28_20 12 ?_
           refine ye [0,2,9,165,0] ?_
           exact hl467 _ (zi h).symm
          ·obtain ⟨v461, hv461, h⟩:=zn h
           obtain ⟨v462, hv462, h⟩:=zn h
           refine cond_some h (fun hg28_27 h => ?_) (fun hg28_27 h => ?_)
           ·refine yx hn 6 ?_
            refine yd hg28_5 4 ?_
            refine ys 3 ⟨lb hv458⟩ ?_
            refine yd hg28_13 2 ?_
            refine yS (.fl .ro 1 (map (int .i64) v459)) 0 ⟨op_sl _ _ _ 0 v2 _ underlying37 sz3 rfl rfl rfl ⟨_,rfl⟩ hv459⟩ ?_
            refine ys 3 ⟨lk call77 (ok_wherryref01_makes _ _ hv460)⟩ ?_
            refine yd hg28_20 2 ?_
            refine yS (.fl .ro 1 (map (int .i64) v461)) 0 ⟨op_sl _ _ _ v2 (s369.length:Int) _ underlying37 sz3 rfl rfl ⟨_,rfl⟩ rfl hv461⟩ ?_
            refine ys 3 ⟨lk call77 (ok_wherryref01_makes _ _ hv462)⟩ ?_
            refine yd hg28_27 5 ?_
            refine ye [0,2,9,165,0] ?_
            exact hl467 _ (zi h).symm
           ·obtain ⟨v463, hv463, h⟩:=zn h
            obtain ⟨v464, hv464, h⟩:=zn h
            refine yx hn 6 ?_
            refine yd hg28_5 4 ?_
            refine ys 3 ⟨lb hv458⟩ ?_
            refine yd hg28_13 2 ?_
            refine yS (.fl .ro 1 (map (int .i64) v459)) 0 ⟨op_sl _ _ _ 0 v2 _ underlying37 sz3 rfl rfl rfl ⟨_,rfl⟩ hv459⟩ ?_
            refine ys 3 ⟨lk call77 (ok_wherryref01_makes _ _ hv460)⟩ ?_
            refine yd hg28_20 2 ?_
            refine yS (.fl .ro 1 (map (int .i64) v461)) 0 ⟨op_sl _ _ _ v2 (s369.length:Int) _ underlying37 sz3 rfl rfl ⟨_,rfl⟩ rfl hv461⟩ ?_
            refine ys 3 ⟨lk call77 (ok_wherryref01_makes _ _ hv462)⟩ ?_
            refine yd hg28_27 1 ?_
            refine ys 0 ⟨li hv463⟩ ?_
            refine ys 2 ⟨ll hv464⟩ ?_
            refine ye [0,2,9,165,0] ?_
            exact hl467 _ (zi h).symm
      ·rintro u370 hl371 hr372 ⟨s274, s275, s276, s277, s278, s279, s280, s281⟩ rr375 h ho373
       refine ht_seq ?_
       refine ht_seq ?_
       refine ht_joinS h (fun (s376:Bool)=>[(0,.box 67 [fb s274,vi s275,vi s276,.fl (.own 5) 1 (map (int .u8) s277),vi s278]),(2,vi v2),(3,vi v4),(5,.fl .ro 1 (map (int .i64) s279)),(8,.fl .ro 1 (map (int .i64) s280)),(9,.fl (.own 3) 1 (map (int .i64) s281)),(85,vb s376),(0,.v (List.getD args0 0 undef))]) ?_ ?_
       ·rintro s376 h
        refine pt_then ?_
        refine ht_cond _ rfl (fun hb380 => ?_) (fun hb380 => ?_)
        ·have h:=cond_t hb380 h
         refine ht_skip ?_
         refine pt_then ?_
         refine ht_block ?_
         refine ht_seq ?_
         obtain ⟨v94, hv94, h⟩:=zn h
         refine yx hn 3 ?_
         refine yq call76 (ok_wherryref01_reader_sym _ _ _ _ hv94) 0 [86,87,88] 1 ?_
         refine yee [0,2,3,5,8,9,10,0] ?_
         refine yyy hn 3 [0,2,3,5,8,9,10,11,12,0] ?_
         refine ht_seq ?_
         refine ht_joinS h (fun ((s399,s400,s401,s402,s403,s404,s405):(List Int)×Int×Int×(List Int)×Int×Int×Int)=>[(0,.box 67 [fb s399,vi s400,vi s401,.fl (.own 5) 1 (map (int .u8) s402),vi s403]),(2,vi v2),(3,vi v4),(5,.fl .ro 1 (map (int .i64) s279)),(8,.fl .ro 1 (map (int .i64) s280)),(9,.fl (.own 3) 1 (map (int .i64) s281)),(11,vi s404),(12,vi s405),(0,.v (List.getD args0 0 undef))]) ?_ ?_
         ·rintro ⟨s399, s400, s401, s402, s403, s404, s405⟩ h
          refine pt_then ?_
          refine ht_loopS h (fun ((s439,s440):(List Int)×Int)=>[(0,.box 67 [fb s399,vi s400,vi s401,.fl (.own 5) 1 (map (int .u8) s402),vi s403]),(2,vi v2),(3,vi v4),(5,.fl .ro 1 (map (int .i64) s279)),(8,.fl .ro 1 (map (int .i64) s280)),(9,.fl (.own 3) 1 (map (int .i64) s439)),(11,vi s404),(12,vi s440),(0,.v (List.getD args0 0 undef))]) (fun (s446:(List Int))=>[(0,.box 67 [fb s399,vi s400,vi s401,.fl (.own 5) 1 (map (int .u8) s402),vi s403]),(2,vi v2),(3,vi v4),(5,.fl .ro 1 (map (int .i64) s279)),(8,.fl .ro 1 (map (int .i64) s280)),(9,.fl (.own 3) 1 (map (int .i64) s446)),(0,.v (List.getD args0 0 undef))]) ?_ ?_
          ·rintro s446 h
           refine pt_inb ?_
           exact pt_next _ (zi h).symm rfl
          ·rintro u447 hl448 hr449 ⟨s439, s440⟩ rr452 h ho450
           refine ht_seq ?_
           refine ht_seq ?_
           refine ht_joinS h (fun (s453:Bool)=>[(0,.box 67 [fb s399,vi s400,vi s401,.fl (.own 5) 1 (map (int .u8) s402),vi s403]),(2,vi v2),(3,vi v4),(5,.fl .ro 1 (map (int .i64) s279)),(8,.fl .ro 1 (map (int .i64) s280)),(9,.fl (.own 3) 1 (map (int .i64) s439)),(11,vi s404),(12,vi s440),(126,vb s453),(0,.v (List.getD args0 0 undef))]) ?_ ?_
           ·rintro s453 h
            refine pt_then ?_
            refine ht_cond _ rfl (fun hb457 => ?_) (fun hb457 => ?_)
            ·have h:=cond_t hb457 h
             refine ht_skip ?_
             refine pt_then (ht_seq ?_)
             refine ht_block ?_
             obtain ⟨v152, hv152, h⟩:=zn h
             refine yx hn 0 ?_
             refine ym 1 ?_
             refine yS (.fl (.own 3) 1 (map (int .i64) [s404])) 0 ⟨op_buildSlice _ _ 1 (.int .i64 0) (map (int .i64) [s404]) [(0,.int .i64 s404)] underlying37 sz3 zr3 (fun _ V w o a hv hes=>by have e0:=rd_v hv hes (x := .tmp 130) rfl; simp only [List.map_toArray,List.map_cons,List.map_nil,e0]; try rfl) (litfill (by simp [Instr.fill,Value.cells]; rfl) (by simp [List.range,List.range.loop] <;> rfl)) (by simp [Value.oneCell']) rfl (by decide) (by decide) (by decide)⟩ ?_
             refine yp el37 hv152 0 ?_
             refine ya 0 ?_
             refine ye [0,2,3,5,8,11,12,9,0] ?_
             refine pt_inb ?_
             refine pt_then ?_
             obtain ⟨v153, hv153, h⟩:=zn h
             refine yx hn 1 ?_
             refine ys 0 ⟨lb hv153⟩ ?_
             refine yw [12] 1 ?_
             refine ye [0,2,3,5,8,11,9,12,0] ?_
             refine pt_pick [0,1,2,3,4,6,5,7,8] (by kernel_rfl) (es':=[(_,_),(_,_),(_,_),(_,_),(_,_),(_,_),(_,_),(_,_),(_,_)]) rfl ?_
             exact pt_next _ (zi h).symm rfl
            ·have h:=cond_f hb457 h
             refine ht_exit ?_
             refine pt_x_then ?_
             refine pt_x_then ?_
             refine pt_x_in ?_
             refine pt_pick [0,1,2,3,4,5,9] (by kernel_rfl) (es':=[(_,_),(_,_),(_,_),(_,_),(_,_),(_,_),(_,_)]) rfl ?_
             exact hl448 _ (ho450 _ (zi h).symm).symm
           ·intro u454 h hl455 hr456
            refine cond_some h (fun hg25_2 h => ?_) (fun hg25_2 h => ?_)
            ·refine yx hn 3 ?_
             refine yd hg25_2 6 ?_
             refine ye [0,2,3,5,8,9,11,12,126,0] ?_
             exact hl455 _ (zi h).symm
            ·refine yx hn 3 ?_
             refine yd hg25_2 6 ?_
             refine ye [0,2,3,5,8,9,11,12,126,0] ?_
             exact hl455 _ (zi h).symm
         ·intro u406 h hl407 hr408
          refine yyy hn 1 [0,2,3,5,8,9,11,12,91,0] ?_
          refine ht_joinS h (fun ((s413,s414,s415,s416,s417,s418,s419):(List Int)×Int×Int×(List Int)×Int×Int×Int)=>[(0,.box 67 [fb s413,vi s414,vi s415,.fl (.own 5) 1 (map (int .u8) s416),vi s417]),(2,vi v2),(3,vi v4),(5,.fl .ro 1 (map (int .i64) s279)),(8,.fl .ro 1 (map (int .i64) s280)),(9,.fl (.own 3) 1 (map (int .i64) s281)),(11,vi s418),(12,vi s419),(0,.v (List.getD args0 0 undef))]) ?_ ?_
          ·rintro ⟨s413, s414, s415, s416, s417, s418, s419⟩ h
           exact hl407 _ (zi h).symm
          ·intro u420 h hl421 hr422
           refine ht_block ?_
           refine yyy hn 2 [0,2,3,5,8,9,11,12,91,92,0] ?_
           refine ht_cond _ rfl (fun hb423 => ?_) (fun hb423 => ?_)
           ·have h:=cond_t hb423 h
            refine ht_seq ?_
            refine yyy hn 3 [0,2,3,5,8,9,96,0] ?_
            refine ht_cond _ rfl (fun hb424 => ?_) (fun hb424 => ?_)
            ·have h:=cond_t hb424 h
             refine ht_seq ?_
             obtain ⟨v97, hv97, h⟩:=zn h
             refine yx hn 1 ?_
             refine yq call44 (ok_wherryref01_reader_none _ _ hv97) 0 [97] 0 ?_
             refine yee [0,0] ?_
             refine ht_ret ?_
             refine pt_r_then ?_
             refine pt_r_in ?_
             refine pt_r_then ?_
             refine pt_r_in ?_
             refine pt_r_then ?_
             refine pt_r_in ?_
             refine pt_r_then ?_
             have h:=hr422 _ (zi h).symm
             have h:=hr408 _ (zi h).symm
             have h:=hr372 _ (ho373 _ (zi h).symm).symm
             obtain rfl:=zi h
             exact pt_retP (es:=[]) (posts:=[.box 67 [fb v97.b,.v (.int .i64 v97.at_),.v (.int .i64 v97.bad),.fl (.own 5) 1 (map (int .u8) v97.out),.v (.int .i64 v97.most)]]) hio rfl rfl .nil rfl rfl hargs0 rfl
            ·have h:=cond_f hb424 h
             refine ht_skip ?_
             refine pt_then ?_
             obtain ⟨v98, hv98, h⟩:=zn h
             obtain ⟨v195, hv195, h⟩:=zn h
             obtain ⟨v196, hv196, h⟩:=zn h
             obtain ⟨v197, hv197, h⟩:=zn h
             obtain ⟨v198, hv198, h⟩:=zn h
             refine wb [[9],[9],[100,9]] ?_
             refine wN [101] ?_
             refine wo [] ⟨lb hv98⟩ ?_
             refine wN [99,9,102] ?_
             refine wo [] ⟨li hv195⟩ ?_
             refine wN [103,9] ?_
             refine wo [[0]] ⟨ll hv196⟩ ?_
             refine wK [0] [105] ?_
             refine wt [(0,.box 67 [fb v197.2.b,vi v197.2.at_,vi v197.2.bad,.fl (.own 5) 1 (map (int .u8) v197.2.out),vi v197.2.most]),(106,vi v197.1)] [] ⟨op_callPS _ _ _ _ 106 40 [.tmp 105] [_] _ _ _ rfl call40 rfl rfl rfl (ok_wherryref01_reader_get v94.2 2 _ hv197) (zl rfl) rfl rfl rfl rfl rfl rfl rfl⟩ ?_
             refine wN [106] ?_
             refine wo [[104],[107]] ⟨lb hv198⟩ ?_
             refine we hn [0,2,3,5,8,9,11,12,0] ?_
             refine pt_inb ?_
             exact hl421 _ (zi h).symm
           ·have h:=cond_f hb423 h
            refine yyy hn 2 [0,2,3,5,8,9,11,12,91,108,0] ?_
            refine ht_cond _ rfl (fun hb425 => ?_) (fun hb425 => ?_)
            ·have h:=cond_t hb425 h
             obtain ⟨v100, hv100, h⟩:=zn h
             obtain ⟨v101, hv101, h⟩:=zn h
             refine yx hn 1 ?_
             refine yq call40 (ok_wherryref01_reader_get _ _ _ hv100) 0 [110] 0 ?_
             refine ys 0 ⟨lb hv101⟩ ?_
             refine yw [11] 1 ?_
             refine yw [12] 1 ?_
             refine ye [0,2,3,5,8,9,11,12,0] ?_
             refine pt_inb ?_
             exact hl421 _ (zi h).symm
            ·have h:=cond_f hb425 h
             refine yyy hn 2 [0,2,3,5,8,9,11,12,113,0] ?_
             refine ht_cond _ rfl (fun hb426 => ?_) (fun hb426 => ?_)
             ·have h:=cond_t hb426 h
              obtain ⟨v103, hv103, h⟩:=zn h
              obtain ⟨v104, hv104, h⟩:=zn h
              refine yx hn 1 ?_
              refine yq call40 (ok_wherryref01_reader_get _ _ _ hv103) 0 [115] 0 ?_
              refine ys 0 ⟨lb hv104⟩ ?_
              refine yw [11] 1 ?_
              refine yw [12] 1 ?_
              refine ye [0,2,3,5,8,9,11,12,0] ?_
              refine pt_inb ?_
              exact hl421 _ (zi h).symm
             ·have h:=cond_f hb426 h
              refine ht_skip ?_
              refine pt_inb ?_
              refine pt_pick [0,1,2,3,4,5,6,7,9] (by kernel_rfl) (es':=[(_,_),(_,_),(_,_),(_,_),(_,_),(_,_),(_,_),(_,_),(_,_)]) rfl ?_
              exact hl421 _ (zi h).symm
        ·have h:=cond_f hb380 h
         refine ht_exit ?_
         refine pt_x_then ?_
         refine pt_x_then ?_
         refine pt_x_in ?_
         refine pt_pick [0,1,2,5,7] (by kernel_rfl) (es':=[(_,_),(_,_),(_,_),(_,_),(_,_)]) rfl ?_
         exact hl371 _ (ho373 _ (zi h).symm).symm
       ·intro u377 h hl378 hr379
        obtain ⟨v88, hv88, h⟩:=zn h
        refine cond_some h (fun hg13_6 h => ?_) (fun hg13_6 h => ?_)
        ·refine yx hn 4 ?_
         refine ys 2 ⟨lb hv88⟩ ?_
         refine yd hg13_6 6 ?_
         refine ye [0,2,3,5,8,9,85,0] ?_
         exact hl378 _ (zi h).symm
        ·refine yx hn 4 ?_
         refine ys 2 ⟨lb hv88⟩ ?_
         refine yd hg13_6 6 ?_
         refine ye [0,2,3,5,8,9,85,0] ?_
         exact hl378 _ (zi h).symm
    ·intro u82 h hl83 hr84
     refine cond_some h (fun hg9_5 h => ?_) (fun hg9_5 h => ?_)
     ·refine yx hn 6 ?_
      refine yd hg9_5 4 ?_
      refine ye [0,2,3,5,68,0] ?_
      exact hl83 _ (zi h).symm
     ·obtain ⟨v80, hv80, h⟩:=zn h
      refine yx hn 6 ?_
      refine yd hg9_5 1 ?_
      refine ys 2 ⟨lk call77 (ok_wherryref01_makes _ _ hv80)⟩ ?_
      refine ye [0,2,3,5,68,0] ?_
      exact hl83 _ (zi h).symm
   ·rintro u69 hl70 hr71 ⟨s51, s52, s53, s54, s55, s56, s57⟩ rr74 h ho72
    refine ht_seq ?_
    refine ht_seq ?_
    refine ht_joinS h (fun (s75:Bool)=>[(0,.box 67 [fb s51,vi s52,vi s53,.fl (.own 5) 1 (map (int .u8) s54),vi s55]),(2,vi v2),(3,vi v4),(4,vi v6),(5,.fl (.own 3) 1 (map (int .i64) s56)),(6,.fl (.own 3) 1 (map (int .i64) v27)),(7,vi s57),(48,vb s75),(0,.v (List.getD args0 0 undef))]) ?_ ?_
    ·rintro s75 h
     refine pt_then ?_
     refine ht_cond _ rfl (fun hb79 => ?_) (fun hb79 => ?_)
     ·have h:=cond_t hb79 h
      refine ht_skip ?_
      refine pt_then (ht_seq ?_)
      refine ht_block ?_
      obtain ⟨v33, hv33, h⟩:=zn h
      obtain ⟨v34, hv34, h⟩:=zn h
      obtain ⟨v35, hv35, h⟩:=zn h
      obtain ⟨v36, hv36, h⟩:=zn h
      obtain ⟨v37, hv37, h⟩:=zn h
      refine wb [[5],[6],[7]] ?_
      refine wN [52,6,53] ?_
      refine wo [] ⟨li hv33⟩ ?_
      refine wN [54,6] ?_
      refine wo [[0]] ⟨ll hv34⟩ ?_
      refine wK [0] [56] ?_
      refine wt [(0,.box 67 [fb v35.2.b,vi v35.2.at_,vi v35.2.bad,.fl (.own 5) 1 (map (int .u8) v35.2.out),vi v35.2.most]),(57,vi v35.1)] [] ⟨op_callPS _ _ _ _ 57 40 [.tmp 56] [_] _ _ _ rfl call40 rfl rfl rfl (ok_wherryref01_reader_get (T_wherryref01_reader.mk s51 s52 s53 s54 s55) 3 _ hv35) (zl rfl) rfl rfl rfl rfl rfl rfl rfl⟩ ?_
      refine wN [51,5,55] ?_
      refine wo [] ⟨li hv36⟩ ?_
      refine wK [5] [58,57] ?_
      refine wt [(5,.fl (.own 3) 1 (map (int .i64) v37))] [] ⟨op_store_e _ _ _ _ _ _ _ _ sz3 rfl rfl rfl (by decide) (map_lt (ix_ok hv36).2) ((map_set (f:=int .i64) _ (ix_ok hv36).2).trans (congrArg (map _) (Option.some.inj hv37)))⟩ ?_
      refine we hn [0,2,3,4,5,6,7,0] ?_
      refine pt_inb ?_
      refine pt_then ?_
      obtain ⟨v38, hv38, h⟩:=zn h
      refine yx hn 1 ?_
      refine ys 0 ⟨lb hv38⟩ ?_
      refine yw [7] 1 ?_
      refine ye [0,2,3,4,5,6,7,0] ?_
      exact pt_next _ (zi h).symm rfl
     ·have h:=cond_f hb79 h
      refine ht_exit ?_
      refine pt_x_then ?_
      refine pt_x_then ?_
      refine pt_x_in ?_
      refine pt_pick [0,1,2,4,8] (by kernel_rfl) (es':=[(_,_),(_,_),(_,_),(_,_),(_,_)]) rfl ?_
      exact hl70 _ (ho72 _ (zi h).symm).symm
    ·intro u76 h hl77 hr78
     refine cond_some h (fun hg6_3 h => ?_) (fun hg6_3 h => ?_)
     ·refine yx hn 4 ?_
      refine yd hg6_3 6 ?_
      refine ye [0,2,3,4,5,6,7,48,0] ?_
      exact hl77 _ (zi h).symm
     ·refine yx hn 4 ?_
      refine yd hg6_3 6 ?_
      refine ye [0,2,3,4,5,6,7,48,0] ?_
      exact hl77 _ (zi h).symm
  ·intro u18 h hl19 hr20
   refine ht_seq ?_
   refine ht_joinS h (fun (s21:Bool)=>[(0,.box 67 [fb v5.2.b,vi v5.2.at_,vi v5.2.bad,.fl (.own 5) 1 (map (int .u8) v5.2.out),vi v5.2.most]),(2,vi v2),(3,vi v4),(4,vi v6),(34,vb s21),(0,.v (List.getD args0 0 undef))]) ?_ ?_
   ·rintro s21 h
    refine pt_then ?_
    refine ht_cond _ rfl (fun hb25 => ?_) (fun hb25 => ?_)
    ·have h:=cond_t hb25 h
     obtain ⟨v12, hv12, h⟩:=zn h
     refine yx hn 1 ?_
     refine yq call44 (ok_wherryref01_reader_none _ _ hv12) 0 [35] 0 ?_
     refine ye [0,2,3,4,0] ?_
     exact hl19 _ (zi h).symm
    ·have h:=cond_f hb25 h
     refine ht_skip ?_
     refine pt_pick [0,1,2,3,5] (by kernel_rfl) (es':=[(_,_),(_,_),(_,_),(_,_),(_,_)]) rfl ?_
     exact hl19 _ (zi h).symm
   ·intro u22 h hl23 hr24
    refine cond_some h (fun hg1_5 h => ?_) (fun hg1_5 h => ?_)
    ·refine cond_some h (fun hg1_8 h => ?_) (fun hg1_8 h => ?_)
     ·refine yx hn 6 ?_
      refine yd hg1_5 3 ?_
      refine yd hg1_8 4 ?_
      refine ye [0,2,3,4,34,0] ?_
      exact hl23 _ (zi h).symm
     ·refine yx hn 6 ?_
      refine yd hg1_5 3 ?_
      refine yd hg1_8 4 ?_
      refine ye [0,2,3,4,34,0] ?_
      exact hl23 _ (zi h).symm
    ·refine yx hn 6 ?_
     refine yd hg1_5 7 ?_
     refine ye [0,2,3,4,34,0] ?_
     exact hl23 _ (zi h).symm
theorem ok_wherryref01_Grow (b:(List Int)) (most:Int) (r:((List Int)×Int×Int)) (h:Sh.wherryref01_Grow b most=some r):FnOK Tryd.prog 22 [.fl .shr 1 (map (int .u8) b), .v (.int .i64 most)] (.tup [.fl (.own 5) 1 (map (int .u8) r.1), .v (.int .i64 r.2.1), .v (.int .i64 r.2.2)]):=by
  unfold Sh.wherryref01_Grow at h
  refine yO 105 func22 fun g0 hn hio => ?_
  refine yyy hn 3 [0,1] ?_
  refine yxx hn 2 ?_
  refine yS (.agg [fb b,vi 0,vi 0,vz,vi most]) 1 ⟨op_build _ _ _ _ [1,1,1,1,1] _ _ underlying67 zr67 (fs67 _ underlying67) (.copy _ (.copy _ Src.nil)) rfl rfl rfl⟩ ?_
  refine ya 0 ?_
  refine yee [0,7] ?_
  refine yyy hn 1 [0,7,8] ?_
  refine ht_seq ?_
  refine yyy hn 1 [0,7,8,9] ?_
  refine ht_sub (fs:=[(0,fb b),(7,.box 67 [fb b,vi 0,vi 0,.fl (.own 5) 1 (map (int .u8) []),vi most]),(8,vi 0),(9,vi 0)]) (.same _ (.box _ _ (subs_cons (sub_refl _) (subs_cons (sub_refl _) (subs_cons (sub_refl _) (subs_cons (sub_nil 5 1) (subs_cons (sub_refl _) (subs_nil)))))) rfl (.same _ (.same _ .nil)))) ?_
  refine ht_loopS h (fun ((s110,s111,s112,s113,s114,s115,s116):(List Int)×Int×Int×(List Int)×Int×Int×Int)=>[(0,fb b),(7,.box 67 [fb s110,vi s111,vi s112,.fl (.own 5) 1 (map (int .u8) s113),vi s114]),(8,vi s115),(9,vi s116)]) (fun ((s164,s165,s166,s167,s168,s169):(List Int)×Int×Int×(List Int)×Int×Int)=>[(0,fb b),(7,.box 67 [fb s164,vi s165,vi s166,.fl (.own 5) 1 (map (int .u8) s167),vi s168]),(8,vi s169)]) ?_ ?_
  ·rintro ⟨s164, s165, s166, s167, s168, s169⟩ h
   refine pt_then (ht_seq ?_)
   refine ht_loopS h (fun ((s261,s262,s263,s264,s265):(List Int)×Int×Int×(List Int)×Int)=>[(0,fb b),(7,.box 67 [fb s261,vi s262,vi s263,.fl (.own 5) 1 (map (int .u8) s264),vi s265]),(8,vi s169)]) (fun ((s281,s282,s283,s284,s285):(List Int)×Int×Int×(List Int)×Int)=>[(0,fb b),(7,.box 67 [fb s281,vi s282,vi s283,.fl (.own 5) 1 (map (int .u8) s284),vi s285]),(8,vi s169)]) ?_ ?_
   ·rintro ⟨s281, s282, s283, s284, s285⟩ h
    refine pt_then (ht_seq ?_)
    refine ht_joinS h (fun ((s314,s315,s316,s317,s318):(List Int)×Int×Int×(List Int)×Int)=>[(7,.box 67 [fb s314,vi s315,vi s316,.fl (.own 5) 1 (map (int .u8) s317),vi s318]),(8,vi s169)]) ?_ ?_
    ·rintro ⟨s314, s315, s316, s317, s318⟩ h
     refine pt_then (ht_seq ?_)
     refine yyy hn 5 [7,8,95] ?_
     refine ht_cond _ rfl (fun hb327 => ?_) (fun hb327 => ?_)
     ·have h:=cond_t hb327 h
      refine ht_seq ?_
      refine wb [] ?_
      refine wK [7] [] ?_
      refine wt [(96,.box 67 [fb s314,vi s315,vi s316,.fl (.own 5) 1 (map (int .u8) s317),vi s318])] [[96],[97,96],[98,96],[],[],[99]] ⟨op_move_take _ _ _ _ rfl⟩ ?_
      refine wee hn [4,5,6] ?_
      refine ht_ret ?_
      refine pt_sub (fs:=[(4,.fl (.own 5) 1 (map (int .u8) [])),(5,vi 0),(6,vi s316)]) (.sub _ (sub_nil 5 1) rfl (.same _ (.same _ .nil))) ?_
      refine pt_r_then ?_
      obtain rfl:=zi h
      exact pt_ret hio rfl (.tmp _ _ (.tmp _ _ (.tmp _ _ .nil))) rfl rfl
     ·have h:=cond_f hb327 h
      refine ht_skip ?_
      refine pt_then ?_
      refine yxx hn 0 ?_
      refine ym 4 ?_
      refine yk [100] [103] ?_
      refine ytt (100,.box 67 [fb s314,vi s315,vi s316,.any,vi s318]) (4,.fl (.own 5) 1 (map (int .u8) s317)) 2 ⟨op_assign_cell _ 4 100 3 rfl rfl (zl rfl) rfl (by decide) rfl⟩ ?_
      refine yee [4,5,6] ?_
      refine ht_ret ?_
      obtain rfl:=zi h
      exact pt_ret hio rfl (.tmp _ _ (.tmp _ _ (.tmp _ _ .nil))) rfl rfl
    ·intro u319 h hl320 hr321
     refine ht_seq ?_
     refine ht_joinS h (fun (s322:Bool)=>[(7,.box 67 [fb s281,vi s282,vi s283,.fl (.own 5) 1 (map (int .u8) s284),vi s285]),(8,vi s169),(88,vb s322)]) ?_ ?_
     ·rintro s322 h
      refine pt_then ?_
      refine ht_cond _ rfl (fun hb326 => ?_) (fun hb326 => ?_)
      ·have h:=cond_t hb326 h
       obtain ⟨v313, hv313, h⟩:=zn h
       refine yx hn 1 ?_
       refine yq call44 (ok_wherryref01_reader_none _ _ hv313) 7 [89] 0 ?_
       refine ye [7,8] ?_
       exact hl320 _ (zi h).symm
      ·have h:=cond_f hb326 h
       refine ht_skip ?_
       refine pt_pick [0,1] (by kernel_rfl) (es':=[(_,_),(_,_)]) rfl ?_
       exact hl320 _ (zi h).symm
     ·intro u323 h hl324 hr325
      refine cond_some h (fun hg20_5 h => ?_) (fun hg20_5 h => ?_)
      ·obtain ⟨v307, hv307, h⟩:=zn h
       refine yx hn 6 ?_
       refine yd hg20_5 6 ?_
       refine ys 2 ⟨lb hv307⟩ ?_
       refine ye [7,8,88] ?_
       exact hl324 _ (zi h).symm
      ·refine yx hn 6 ?_
       refine yd hg20_5 9 ?_
       refine ye [7,8,88] ?_
       exact hl324 _ (zi h).symm
   ·rintro u286 hl287 hr288 ⟨s261, s262, s263, s264, s265⟩ rr291 h ho289
    refine ht_seq ?_
    refine ht_seq ?_
    refine ht_joinS h (fun (s292:Bool)=>[(0,fb b),(7,.box 67 [fb s261,vi s262,vi s263,.fl (.own 5) 1 (map (int .u8) s264),vi s265]),(8,vi s169),(68,vb s292)]) ?_ ?_
    ·rintro s292 h
     refine pt_then ?_
     refine ht_cond _ rfl (fun hb296 => ?_) (fun hb296 => ?_)
     ·have h:=cond_t hb296 h
      refine ht_skip ?_
      refine pt_then ?_
      refine ht_joinS h (fun ((s298,s299,s300,s301,s302):(List Int)×Int×Int×(List Int)×Int)=>[(0,fb b),(7,.box 67 [fb s298,vi s299,vi s300,.fl (.own 5) 1 (map (int .u8) s301),vi s302]),(8,vi s169)]) ?_ ?_
      ·rintro ⟨s298, s299, s300, s301, s302⟩ h
       exact pt_next _ (zi h).symm rfl
      ·intro u303 h hl304 hr305
       refine ht_block ?_
       refine ht_seq ?_
       obtain ⟨v229, hv229, h⟩:=zn h
       refine yx hn 1 ?_
       refine yq call40 (ok_wherryref01_reader_get _ _ _ hv229) 7 [69] 1 ?_
       refine yee [0,7,8,71] ?_
       refine ht_cond _ rfl (fun hb306 => ?_) (fun hb306 => ?_)
       ·have h:=cond_t hb306 h
        obtain ⟨v231, hv231, h⟩:=zn h
        refine yx hn 1 ?_
        refine yq call44 (ok_wherryref01_reader_none _ _ hv231) 7 [72] 0 ?_
        refine ye [0,7,8] ?_
        refine pt_inb ?_
        exact hl304 _ (zi h).symm
       ·have h:=cond_f hb306 h
        refine ht_skip ?_
        refine pt_inb ?_
        refine pt_pick [0,1,2] (by kernel_rfl) (es':=[(_,_),(_,_),(_,_)]) rfl ?_
        exact hl304 _ (zi h).symm
     ·have h:=cond_f hb296 h
      refine ht_exit ?_
      refine pt_x_then ?_
      refine pt_x_then ?_
      refine pt_x_in ?_
      refine pt_pick [0,1,2] (by kernel_rfl) (es':=[(_,_),(_,_),(_,_)]) rfl ?_
      exact hl287 _ (ho289 _ (zi h).symm).symm
    ·intro u293 h hl294 hr295
     refine cond_some h (fun hg17_5 h => ?_) (fun hg17_5 h => ?_)
     ·obtain ⟨v223, hv223, h⟩:=zn h
      refine yx hn 6 ?_
      refine yd hg17_5 4 ?_
      refine ys 2 ⟨lB (rem_ok hv223)⟩ ?_
      refine ye [0,7,8,68] ?_
      exact hl294 _ (zi h).symm
     ·refine yx hn 6 ?_
      refine yd hg17_5 7 ?_
      refine ye [0,7,8,68] ?_
      exact hl294 _ (zi h).symm
  ·rintro u170 hl171 hr172 ⟨s110, s111, s112, s113, s114, s115, s116⟩ rr175 h ho173
   refine ht_seq ?_
   refine ht_seq ?_
   refine ht_joinS h (fun (s176:Bool)=>[(0,fb b),(7,.box 67 [fb s110,vi s111,vi s112,.fl (.own 5) 1 (map (int .u8) s113),vi s114]),(8,vi s115),(24,vb s176)]) ?_ ?_
   ·rintro s176 h
    refine pt_then ?_
    refine ht_cond _ rfl (fun hb180 => ?_) (fun hb180 => ?_)
    ·have h:=cond_t hb180 h
     refine ht_skip ?_
     refine pt_then ?_
     refine ht_joinS h (fun ((s197,s198,s199,s200,s201,s202,s203):(List Int)×Int×Int×(List Int)×Int×Int×Int)=>[(0,fb b),(7,.box 67 [fb s197,vi s198,vi s199,.fl (.own 5) 1 (map (int .u8) s200),vi s201]),(9,vi s202),(8,vi s203)]) ?_ ?_
     ·rintro ⟨s197, s198, s199, s200, s201, s202, s203⟩ h
      refine pt_pick [0,1,3,2] (by kernel_rfl) (es':=[(_,_),(_,_),(_,_),(_,_)]) rfl ?_
      exact pt_next _ (zi h).symm rfl
     ·intro u204 h hl205 hr206
      refine ht_block ?_
      refine ht_seq ?_
      obtain ⟨v6, hv6, h⟩:=zn h
      refine yx hn 1 ?_
      refine yq call40 (ok_wherryref01_reader_get _ _ _ hv6) 7 [25] 1 ?_
      refine yee [0,7,8,9] ?_
      refine ht_seq ?_
      obtain ⟨v7, hv7, h⟩:=zn h
      refine yx hn 1 ?_
      refine ys 0 ⟨lb hv7⟩ ?_
      refine yw [8] 1 ?_
      refine yee [0,7,9,8] ?_
      refine ht_seq ?_
      obtain ⟨v8, hv8, h⟩:=zn h
      refine yx hn 1 ?_
      refine yq call40 (ok_wherryref01_reader_get _ _ _ hv8) 7 [29] 0 ?_
      refine yee [0,7,9,8,30] ?_
      refine ht_joinS h (fun ((s211,s212,s213,s214,s215):(List Int)×Int×Int×(List Int)×Int)=>[(0,fb b),(7,.box 67 [fb s211,vi s212,vi s213,.fl (.own 5) 1 (map (int .u8) s214),vi s215]),(9,vi v6.1),(8,vi v7)]) ?_ ?_
      ·rintro ⟨s211, s212, s213, s214, s215⟩ h
       refine pt_inb ?_
       exact hl205 _ (zi h).symm
      ·intro u216 h hl217 hr218
       refine ht_block ?_
       refine yyy hn 2 [0,7,9,8,30,33] ?_
       refine ht_cond _ rfl (fun hb219 => ?_) (fun hb219 => ?_)
       ·have h:=cond_t hb219 h
        refine yyy hn 5 [0,7,9,8,39] ?_
        refine ht_cond _ rfl (fun hb220 => ?_) (fun hb220 => ?_)
        ·have h:=cond_t hb220 h
         obtain ⟨v11, hv11, h⟩:=zn h
         refine yx hn 1 ?_
         refine yq call41 (ok_wherryref01_reader_stored _ _ hv11) 7 [40] 0 ?_
         refine ye [0,7,9,8] ?_
         refine pt_inb ?_
         exact hl217 _ (zi h).symm
        ·have h:=cond_f hb220 h
         refine ht_skip ?_
         refine pt_inb ?_
         refine pt_pick [0,1,2,3] (by kernel_rfl) (es':=[(_,_),(_,_),(_,_),(_,_)]) rfl ?_
         exact hl217 _ (zi h).symm
       ·have h:=cond_f hb219 h
        refine yyy hn 2 [0,7,9,8,30,42] ?_
        refine ht_cond _ rfl (fun hb221 => ?_) (fun hb221 => ?_)
        ·have h:=cond_t hb221 h
         refine ht_seq ?_
         obtain ⟨v13, hv13, h⟩:=zn h
         refine yx hn 0 ?_
         refine ys 0 ⟨lk call29 (ok_wherryref01_Fixed _ hv13)⟩ ?_
         refine ym 0 ?_
         refine yx_ 0 ?_
         refine yx_ 0 ?_
         refine ya 0 ?_
         refine ya 0 ?_
         refine yee [0,7,9,8,10,11] ?_
         refine ht_frz 4 hio (es':=[(0, fb b), (7, .box 67 [fb v8.2.b,.v (.int .i64 v8.2.at_),.v (.int .i64 v8.2.bad),.fl (.own 5) 1 (map (int .u8) v8.2.out),.v (.int .i64 v8.2.most)]), (9, .v (.int .i64 v6.1)), (8, .v (.int .i64 v7)), (10, .fl .ro 1 (map (int .i64) v13.1)), (11, .fl (.own 3) 1 (map (int .i64) v13.2))]) rfl ?_
         refine ht_frz 5 hio (es':=[(0, fb b), (7, .box 67 [fb v8.2.b,.v (.int .i64 v8.2.at_),.v (.int .i64 v8.2.bad),.fl (.own 5) 1 (map (int .u8) v8.2.out),.v (.int .i64 v8.2.most)]), (9, .v (.int .i64 v6.1)), (8, .v (.int .i64 v7)), (10, .fl .ro 1 (map (int .i64) v13.1)), (11, .fl .ro 1 (map (int .i64) v13.2))]) rfl ?_
         obtain ⟨v14, hv14, h⟩:=zn h
         refine yx hn 3 ?_
         refine yq call42 (ok_wherryref01_reader_text _ _ _ _ hv14) 7 [48,49,50] 0 ?_
         refine ye [0,7,9,8] ?_
         refine pt_inb ?_
         exact hl217 _ (zi h).symm
        ·have h:=cond_f hb221 h
         refine yyy hn 2 [0,7,9,8,52] ?_
         refine ht_cond _ rfl (fun hb222 => ?_) (fun hb222 => ?_)
         ·have h:=cond_t hb222 h
          obtain ⟨v16, hv16, h⟩:=zn h
          refine yx hn 1 ?_
          refine yq call43 (ok_wherryref01_reader_dynamic _ _ hv16) 7 [54] 0 ?_
          refine ye [0,7,9,8] ?_
          refine pt_inb ?_
          exact hl217 _ (zi h).symm
         ·have h:=cond_f hb222 h
          obtain ⟨v17, hv17, h⟩:=zn h
          refine yx hn 1 ?_
          refine yq call44 (ok_wherryref01_reader_none _ _ hv17) 7 [31] 0 ?_
          refine ye [0,7,9,8] ?_
          refine pt_inb ?_
          exact hl217 _ (zi h).symm
    ·have h:=cond_f hb180 h
     refine ht_exit ?_
     refine pt_x_then ?_
     refine pt_x_then ?_
     refine pt_x_in ?_
     refine pt_pick [0,1,2] (by kernel_rfl) (es':=[(_,_),(_,_),(_,_)]) rfl ?_
     exact hl171 _ (ho173 _ (zi h).symm).symm
   ·intro u177 h hl178 hr179
    refine cond_some h (fun hg4_2 h => ?_) (fun hg4_2 h => ?_)
    ·refine yx hn 3 ?_
     refine yd hg4_2 6 ?_
     refine ye [0,7,8,24] ?_
     exact hl178 _ (zi h).symm
    ·refine yx hn 3 ?_
     refine yd hg4_2 6 ?_
     refine ye [0,7,8,24] ?_
     exact hl178 _ (zi h).symm
theorem ok_wherrykeep_Bytes (a:(List Int)) (b:(List Int)) (r:Bool) (h:Sh.wherrykeep_Bytes a b=some r):FnOK Tryd.prog 17 [.fl .shr 1 (map (int .u8) a), .fl .shr 1 (map (int .u8) b)] (.v (.bool r)):=by
  unfold Sh.wherrykeep_Bytes at h
  refine yO 26 func17 fun g0 hn hio => ?_
  refine yyy hn 1 [0,1] ?_
  refine ht_seq ?_
  refine yyy hn 5 [0,1,10] ?_
  refine ht_cond _ rfl (fun hb1 => ?_) (fun hb1 => ?_)
  ·have h:=cond_t hb1 h
   refine yyy hn 1 [4] ?_
   refine ht_ret ?_
   refine pt_r_then ?_
   obtain rfl:=zi h
   exact pt_ret hio rfl (.tmp _ _ .nil) rfl rfl
  ·have h:=cond_f hb1 h
   refine ht_skip ?_
   refine pt_then (ht_seq ?_)
   refine yyy hn 1 [0,1,5] ?_
   refine ht_loopS h (fun (s12:Int)=>[(0,fb a),(1,fb b),(5,vi s12)]) (fun (():Unit)=>[]) ?_ ?_
   ·rintro ⟨⟩ h
    refine pt_then ?_
    refine yyy hn 1 [4] ?_
    refine ht_ret ?_
    obtain rfl:=zi h
    exact pt_ret hio rfl (.tmp _ _ .nil) rfl rfl
   ·rintro u15 hl16 hr17 s12 rr20 h ho18
    refine ht_seq ?_
    refine yyy hn 4 [0,1,5,14] ?_
    refine ht_cond _ rfl (fun hb21 => ?_) (fun hb21 => ?_)
    ·have h:=cond_t hb21 h
     refine ht_skip ?_
     refine pt_then (ht_seq ?_)
     refine ht_block ?_
     refine ht_seq ?_
     obtain ⟨v3, hv3, h⟩:=zn h
     obtain ⟨v4, hv4, h⟩:=zn h
     obtain ⟨v5, hv5, h⟩:=zn h
     obtain ⟨v6, hv6, h⟩:=zn h
     refine wb [[0],[5]] ?_
     refine wN [17,18] ?_
     refine wo [] ⟨li hv3⟩ ?_
     refine wN [19,17] ?_
     refine wo [[1],[5]] ⟨ll hv4⟩ ?_
     refine wN [21,22] ?_
     refine wo [] ⟨li hv5⟩ ?_
     refine wN [23,21] ?_
     refine wo [[20,24]] ⟨ll hv6⟩ ?_
     refine wee hn [0,1,5,25] ?_
     refine ht_cond _ rfl (fun hb22 => ?_) (fun hb22 => ?_)
     ·have h:=cond_t hb22 h
      refine yyy hn 1 [4] ?_
      refine ht_ret ?_
      refine pt_r_in ?_
      refine pt_r_then ?_
      refine pt_r_then ?_
      refine pt_r_in ?_
      refine pt_r_then ?_
      have h:=hr17 _ (ho18 _ (zi h).symm).symm
      obtain rfl:=zi h
      exact pt_ret hio rfl (.tmp _ _ .nil) rfl rfl
     ·have h:=cond_f hb22 h
      refine ht_skip ?_
      refine pt_inb ?_
      refine pt_then ?_
      obtain ⟨v8, hv8, h⟩:=zn h
      refine yx hn 1 ?_
      refine ys 0 ⟨lb hv8⟩ ?_
      refine yw [5] 1 ?_
      refine ye [0,1,5] ?_
      exact pt_next _ (zi h).symm rfl
    ·have h:=cond_f hb21 h
     refine ht_exit ?_
     refine pt_x_then ?_
     refine pt_x_then ?_
     refine pt_x_in ?_
     refine pt_pick [] (by kernel_rfl) (es':=[]) rfl ?_
     exact hl16 _ (ho18 _ (zi h).symm).symm
theorem ok_shrink_Stored (b:(List Int)) (r:((List Int)×Int)) (h:Sh.shrink_Stored b=some r):FnOK Tryd.prog 13 [.fl .shr 1 (map (int .u8) b)] (.tup [.fl (.own 5) 1 (map (int .u8) r.1), .v (.int .i64 r.2)]):=by
  unfold Sh.shrink_Stored at h
  refine yO 12 func13 fun g0 hn hio => ?_
  refine yyy hn 2 [0] ?_
  refine ht_seq ?_
  refine yyy hn 3 [0,6] ?_
  refine ht_cond _ rfl (fun hb1 => ?_) (fun hb1 => ?_)
  ·have h:=cond_t hb1 h
   refine yyy hn 2 [2,3] ?_
   refine ht_ret ?_
   refine pt_sub (fs:=[(2,.fl (.own 5) 1 (map (int .u8) [])),(3,vi 2)]) (.sub _ (sub_nil 5 1) rfl (.same _ .nil)) ?_
   refine pt_r_then ?_
   obtain rfl:=zi h
   exact pt_ret hio rfl (.tmp _ _ (.tmp _ _ .nil)) rfl rfl
  ·have h:=cond_f hb1 h
   refine ht_skip ?_
   refine pt_then (ht_seq ?_)
   obtain ⟨v2, hv2, h⟩:=zn h
   obtain ⟨v3, hv3, h⟩:=zn h
   refine yx hn 1 ?_
   refine ys 0 ⟨lk call33 (ok_shrink_storedBlock _ _ hv2)⟩ ?_
   refine yk [8] [] ?_
   refine ytt (8,.box 57 [.fl (.own 5) 1 (map (int .u8) v3.b),vi v3.n]) (9,.ptr 8 0) 2 ⟨op_nilCheck_ob _ 9 8 2 (by rw [hv3]; rfl) (by rw [hv3]; rfl) rfl (by decide) rfl rfl⟩ ?_
   refine yk [8] [11] ?_
   refine ytt (8,.box 57 [.any,vi v3.n]) (2,.fl (.own 5) 1 (map (int .u8) v3.b)) 1 ⟨op_assign_cell _ 2 8 0 rfl rfl (zl rfl) rfl (by decide) rfl⟩ ?_
   refine yee [2,3] ?_
   refine ht_ret ?_
   obtain rfl:=zi h
   exact pt_ret hio rfl (.tmp _ _ (.tmp _ _ .nil)) rfl rfl
theorem ok_wherrykeep_Ints (a:(List Int)) (b:(List Int)) (r:Bool) (h:Sh.wherrykeep_Ints a b=some r):FnOK Tryd.prog 26 [.fl .shr 1 (map (int .i64) a), .fl .shr 1 (map (int .i64) b)] (.v (.bool r)):=by
  unfold Sh.wherrykeep_Ints at h
  refine yO 26 func26 fun g0 hn hio => ?_
  refine yyy hn 1 [0,1] ?_
  refine ht_seq ?_
  refine yyy hn 5 [0,1,10] ?_
  refine ht_cond _ rfl (fun hb1 => ?_) (fun hb1 => ?_)
  ·have h:=cond_t hb1 h
   refine yyy hn 1 [4] ?_
   refine ht_ret ?_
   refine pt_r_then ?_
   obtain rfl:=zi h
   exact pt_ret hio rfl (.tmp _ _ .nil) rfl rfl
  ·have h:=cond_f hb1 h
   refine ht_skip ?_
   refine pt_then (ht_seq ?_)
   refine yyy hn 1 [0,1,5] ?_
   refine ht_loopS h (fun (s12:Int)=>[(0,fi a),(1,fi b),(5,vi s12)]) (fun (():Unit)=>[]) ?_ ?_
   ·rintro ⟨⟩ h
    refine pt_then ?_
    refine yyy hn 1 [4] ?_
    refine ht_ret ?_
    obtain rfl:=zi h
    exact pt_ret hio rfl (.tmp _ _ .nil) rfl rfl
   ·rintro u15 hl16 hr17 s12 rr20 h ho18
    refine ht_seq ?_
    refine yyy hn 4 [0,1,5,14] ?_
    refine ht_cond _ rfl (fun hb21 => ?_) (fun hb21 => ?_)
    ·have h:=cond_t hb21 h
     refine ht_skip ?_
     refine pt_then (ht_seq ?_)
     refine ht_block ?_
     refine ht_seq ?_
     obtain ⟨v3, hv3, h⟩:=zn h
     obtain ⟨v4, hv4, h⟩:=zn h
     obtain ⟨v5, hv5, h⟩:=zn h
     obtain ⟨v6, hv6, h⟩:=zn h
     refine wb [[0],[5]] ?_
     refine wN [17,18] ?_
     refine wo [] ⟨li hv3⟩ ?_
     refine wN [19,17] ?_
     refine wo [[1],[5]] ⟨ll hv4⟩ ?_
     refine wN [21,22] ?_
     refine wo [] ⟨li hv5⟩ ?_
     refine wN [23,21] ?_
     refine wo [[20,24]] ⟨ll hv6⟩ ?_
     refine wee hn [0,1,5,25] ?_
     refine ht_cond _ rfl (fun hb22 => ?_) (fun hb22 => ?_)
     ·have h:=cond_t hb22 h
      refine yyy hn 1 [4] ?_
      refine ht_ret ?_
      refine pt_r_in ?_
      refine pt_r_then ?_
      refine pt_r_then ?_
      refine pt_r_in ?_
      refine pt_r_then ?_
      have h:=hr17 _ (ho18 _ (zi h).symm).symm
      obtain rfl:=zi h
      exact pt_ret hio rfl (.tmp _ _ .nil) rfl rfl
     ·have h:=cond_f hb22 h
      refine ht_skip ?_
      refine pt_inb ?_
      refine pt_then ?_
      obtain ⟨v8, hv8, h⟩:=zn h
      refine yx hn 1 ?_
      refine ys 0 ⟨lb hv8⟩ ?_
      refine yw [5] 1 ?_
      refine ye [0,1,5] ?_
      exact pt_next _ (zi h).symm rfl
    ·have h:=cond_f hb21 h
     refine ht_exit ?_
     refine pt_x_then ?_
     refine pt_x_then ?_
     refine pt_x_in ?_
     refine pt_pick [] (by kernel_rfl) (es':=[]) rfl ?_
     exact hl16 _ (ho18 _ (zi h).symm).symm
end Go.Proofs.YtkgfjkfccpjcgaaDoor
