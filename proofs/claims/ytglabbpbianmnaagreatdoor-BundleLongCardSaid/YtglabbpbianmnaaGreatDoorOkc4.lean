/-
  The model's runs are what is told in Lean.
-/
import Derived.Test.YtglabbpbianmnaaGreatDoorProg
import Derived.KernelRfl
import Derived.Test.YtglabbpbianmnaaGreatDoorShelf
import Derived.Test.YtglabbpbianmnaaGreatDoorIdx
import Derived.Test.YtglabbpbianmnaaGreatDoorBH
import Derived.Test.YtglabbpbianmnaaGreatDoorC1
import Derived.Test.YtglabbpbianmnaaGreatDoorOkc3
set_option linter.unusedVariables false
set_option linter.unusedSimpArgs false
set_option maxHeartbeats 1000000
namespace Go.Proofs.YtglabbpbianmnaaGreatDoor
open Go.Abs Go.Abs.Sh Tryz
open List (map flatten)
open Value (int)
theorem ok_strings_genSplit (s:ByteArray) (sep:ByteArray) (sepSave:Int) (n:Int) (r:(List ByteArray)) (h:Sh.strings_genSplit s sep sepSave n=some r):FnOK Tryz.prog 77 [.v (.string s), .v (.string sep), .v (.int .i64 sepSave), .v (.int .i64 n)] (.fl .ro 1 (map Value.string r)):=by
  unfold Sh.strings_genSplit at h
  refine yO 66 func77 fun g0 hn hio => ?_
  refine yyy hn 1 [0,1,2,3] ?_
  refine ht_seq ?_
  refine yyy hn 2 [0,1,2,3,13] ?_
  refine ht_cond _ rfl (fun hb50 => ?_) (fun hb50 => ?_)
  ·have h:=cond_t hb50 h
   refine yyy hn 1 [8] ?_
   refine ht_ret ?_
   refine pt_sub (fs:=[(8,.fl (.own 9) 1 (map Value.string []))]) (.sub _ (sub_nil 9 1) rfl .nil) ?_
   refine pt_frz 0 hio (es':=[(8, .fl .ro 1 (map Value.string []))]) rfl ?_
   refine pt_r_then ?_
   obtain rfl:=zi h
   exact pt_ret hio rfl (.tmp _ _ .nil) rfl rfl
  ·have h:=cond_f hb50 h
   refine ht_skip ?_
   refine pt_then (ht_seq ?_)
   refine yyy hn 2 [0,1,2,3,15] ?_
   refine ht_cond _ rfl (fun hb51 => ?_) (fun hb51 => ?_)
   ·have h:=cond_t hb51 h
    cases h
   ·have h:=cond_f hb51 h
    refine ht_skip ?_
    refine pt_then (ht_seq ?_)
    refine ht_joinS h (fun (s53:Int)=>[(0,vs s),(1,vs sep),(2,vi sepSave),(3,vi s53)]) ?_ ?_
    ·rintro s53 h
     refine pt_then (ht_seq ?_)
     obtain ⟨v11, hv11, h⟩:=zn h
     obtain ⟨v12, hv12, h⟩:=zn h
     refine yx hn 3 ?_
     refine ys 0 ⟨lb hv11⟩ ?_
     refine yS (vi v12) 0 ⟨(Option.some.inj hv12) ▸ op_min _ _ _ _ rfl rfl⟩ ?_
     refine yw [3] 1 ?_
     refine yee [0,1,2,3] ?_
     refine ht_seq ?_
     obtain ⟨v13, hv13, h⟩:=zn h
     refine yx hn 1 ?_
     refine yS (.fl (.own 9) 1 (map Value.string v13)) 0 ⟨op_mk (f:=Value.string) _ _ _ _ el57 (by decide) zr9 rfl rfl rfl hv13⟩ ?_
     refine ya 0 ?_
     refine yee [0,1,2,3,9] ?_
     refine ht_seq ?_
     obtain ⟨v14, hv14, h⟩:=zn h
     refine yx hn 1 ?_
     refine ys 0 ⟨lb hv14⟩ ?_
     refine yw [3] 1 ?_
     refine yee [0,1,2,9,3] ?_
     refine yyy hn 1 [0,1,2,9,3,10] ?_
     refine ht_seq ?_
     refine ht_loopS h (fun ((s65,s66,s67):ByteArray×(List ByteArray)×Int)=>[(0,vs s65),(1,vs sep),(2,vi sepSave),(9,.fl (.own 9) 1 (map Value.string s66)),(3,vi v14),(10,vi s67)]) (fun ((s70,s71,s72):ByteArray×(List ByteArray)×Int)=>[(0,vs s70),(9,.fl (.own 9) 1 (map Value.string s71)),(10,vi s72)]) ?_ ?_
     ·rintro ⟨s70, s71, s72⟩ h
      refine pt_then (ht_seq ?_)
      obtain ⟨v46, hv46, h⟩:=zn h
      obtain ⟨v47, hv47, h⟩:=zn h
      refine yx hn 3 ?_
      refine ys 0 ⟨li hv46⟩ ?_
      refine yk [9] [61,60] ?_
      refine yt (9,.fl (.own 9) 1 (map Value.string v47)) 0 ⟨op_store_e _ _ _ _ _ _ _ _ sz9 rfl rfl rfl (by decide) (map_lt (ix_ok hv46).2) ((map_set (f:=Value.string) _ (ix_ok hv46).2).trans (congrArg (map _) (Option.some.inj hv47)))⟩ ?_
      refine yee [9,10] ?_
      refine ht_seq ?_
      refine ht_frz 0 hio (es':=[(9, .fl .ro 1 (map Value.string v47)), (10, .v (.int .i64 s72))]) rfl ?_
      obtain ⟨v48, hv48, h⟩:=zn h
      obtain ⟨v49, hv49, h⟩:=zn h
      refine yx hn 2 ?_
      refine ys 0 ⟨lb hv48⟩ ?_
      refine yS (.fl .ro 1 (map Value.string v49)) 1 ⟨op_sl _ _ _ 0 v48 _ underlying57 sz9 rfl rfl rfl ⟨_,rfl⟩ hv49⟩ ?_
      refine yee [8] ?_
      refine ht_ret ?_
      obtain rfl:=zi h
      exact pt_ret hio rfl (.tmp _ _ .nil) rfl rfl
     ·rintro u73 hl74 hr75 ⟨s65, s66, s67⟩ rr78 h ho76
      refine ht_seq ?_
      refine yyy hn 3 [0,1,2,9,3,10,36] ?_
      refine ht_cond _ rfl (fun hb79 => ?_) (fun hb79 => ?_)
      ·have h:=cond_t hb79 h
       refine ht_skip ?_
       refine pt_then ?_
       refine ht_block ?_
       refine ht_seq ?_
       obtain ⟨v16, hv16, h⟩:=zn h
       refine yx hn 2 ?_
       refine ys 1 ⟨lk call98 (ok_strings_Index _ _ _ hv16)⟩ ?_
       refine yee [0,1,2,9,3,10,11] ?_
       refine ht_seq ?_
       refine yyy hn 2 [0,1,2,9,3,10,11,41] ?_
       refine ht_cond _ rfl (fun hb80 => ?_) (fun hb80 => ?_)
       ·have h:=cond_t hb80 h
        refine ht_exit ?_
        refine pt_x_then ?_
        refine pt_x_out (by decide) ?_
        refine pt_x_then ?_
        refine pt_x_in ?_
        refine pt_pick [0,3,5] (by kernel_rfl) (es':=[(_,_),(_,_),(_,_)]) rfl ?_
        exact hl74 _ (ho76 _ (zi h).symm).symm
       ·have h:=cond_f hb80 h
        refine ht_skip ?_
        refine pt_then (ht_seq ?_)
        obtain ⟨v18, hv18, h⟩:=zn h
        obtain ⟨v19, hv19, h⟩:=zn h
        obtain ⟨v20, hv20, h⟩:=zn h
        obtain ⟨v21, hv21, h⟩:=zn h
        refine yx hn 5 ?_
        refine ys 0 ⟨lb hv18⟩ ?_
        refine yS (vs v19) 0 ⟨op_substr _ _ _ 0 v18 _ underlying9 rfl rfl ⟨_,rfl⟩ hv19⟩ ?_
        refine ys 0 ⟨li hv20⟩ ?_
        refine yk [9] [49,48] ?_
        refine yt (9,.fl (.own 9) 1 (map Value.string v21)) 0 ⟨op_store_e _ _ _ _ _ _ _ _ sz9 rfl rfl rfl (by decide) (map_lt (ix_ok hv20).2) ((map_set (f:=Value.string) _ (ix_ok hv20).2).trans (congrArg (map _) (Option.some.inj hv21)))⟩ ?_
        refine yee [0,1,2,9,3,10,11] ?_
        refine ht_seq ?_
        obtain ⟨v22, hv22, h⟩:=zn h
        obtain ⟨v23, hv23, h⟩:=zn h
        refine yx hn 4 ?_
        refine ys 0 ⟨lb hv22⟩ ?_
        refine yS (vs v23) 0 ⟨op_substr _ _ _ v22 (s65.size:Int) _ underlying9 rfl ⟨_,rfl⟩ rfl hv23⟩ ?_
        refine yw [0] 1 ?_
        refine yee [1,2,9,3,10,0] ?_
        obtain ⟨v24, hv24, h⟩:=zn h
        refine yx hn 1 ?_
        refine ys 0 ⟨lb hv24⟩ ?_
        refine yw [10] 1 ?_
        refine ye [1,2,9,3,0,10] ?_
        refine pt_inb ?_
        refine pt_pick [4,0,1,2,3,5] (by kernel_rfl) (es':=[(_,_),(_,_),(_,_),(_,_),(_,_),(_,_)]) rfl ?_
        exact pt_next _ (zi h).symm rfl
      ·have h:=cond_f hb79 h
       refine ht_exit ?_
       refine pt_x_then ?_
       refine pt_x_then ?_
       refine pt_x_in ?_
       refine pt_pick [0,3,5] (by kernel_rfl) (es':=[(_,_),(_,_),(_,_)]) rfl ?_
       exact hl74 _ (ho76 _ (zi h).symm).symm
    ·intro u54 h hl55 hr56
     refine yyy hn 2 [0,1,2,3,20] ?_
     refine ht_cond _ rfl (fun hb57 => ?_) (fun hb57 => ?_)
     ·have h:=cond_t hb57 h
      obtain ⟨v4, hv4, h⟩:=zn h
      obtain ⟨v5, hv5, h⟩:=zn h
      refine yx hn 2 ?_
      refine ys 0 ⟨lk call97 (ok_strings_Count _ _ _ hv4)⟩ ?_
      refine ys 0 ⟨lb hv5⟩ ?_
      refine yw [3] 1 ?_
      refine ye [0,1,2,3] ?_
      exact hl55 _ (zi h).symm
     ·have h:=cond_f hb57 h
      refine ht_skip ?_
      refine pt_pick [0,1,2,3] (by kernel_rfl) (es':=[(_,_),(_,_),(_,_),(_,_)]) rfl ?_
      exact hl55 _ (zi h).symm
theorem ok_strings_Split (s:ByteArray) (sep:ByteArray) (r:(List ByteArray)) (h:Sh.strings_Split s sep=some r):FnOK Tryz.prog 57 [.v (.string s), .v (.string sep)] (.fl .ro 1 (map Value.string r)):=by
  unfold Sh.strings_Split at h
  refine yO 8 func57 fun g0 hn hio => ?_
  refine yyy hn 1 [0,1] ?_
  refine ht_seq ?_
  obtain ⟨v1, hv1, h⟩:=zn h
  refine yx hn 2 ?_
  refine ys 1 ⟨lk call77 (ok_strings_genSplit _ _ _ _ _ hv1)⟩ ?_
  refine yee [4] ?_
  refine ht_ret ?_
  obtain rfl:=zi h
  exact pt_ret hio rfl (.tmp _ _ .nil) rfl rfl
theorem ok_strconv_Atoi (s:ByteArray) (r:Int×Unit) (h:Sh.strconv_Atoi s=some r):FnOK Tryz.prog 78 [.v (.string s)] (.tup [.v (.int .i64 r.1), .v .nilIface]):=lib_strconv_Atoi (fun s n w h1 h2=>Tryz.strconv_Atoi s n h1 h2 w) s r h
theorem ok_number_Parse (s:ByteArray) (digits:Int) (r:(Int×Bool)) (h:Sh.number_Parse s digits=some r):FnOK Tryz.prog 58 [.v (.string s), .v (.int .i64 digits)] (.tup [.v (.int .i64 r.1), .v (.bool r.2)]):=by
  unfold Sh.number_Parse at h
  refine yO 51 func58 fun g0 hn hio => ?_
  refine yyy hn 2 [0,1] ?_
  refine ht_seq ?_
  refine ht_seq ?_
  refine ht_joinS h (fun (s3:Bool)=>[(0,vs s),(26,vb s3)]) ?_ ?_
  ·rintro s3 h
   refine pt_then ?_
   refine ht_cond _ rfl (fun hb7 => ?_) (fun hb7 => ?_)
   ·have h:=cond_t hb7 h
    refine yyy hn 2 [4,5] ?_
    refine ht_ret ?_
    refine pt_r_then ?_
    obtain rfl:=zi h
    exact pt_ret hio rfl (.tmp _ _ (.tmp _ _ .nil)) rfl rfl
   ·have h:=cond_f hb7 h
    refine ht_skip ?_
    refine pt_then (ht_seq ?_)
    refine yyy hn 3 [0,28,29] ?_
    refine ht_loopS h (fun (s24:Int)=>[(0,vs s),(28,vi (s.size:Int)),(29,vi s24)]) (fun (():Unit)=>[(0,vs s)]) ?_ ?_
    ·rintro ⟨⟩ h
     refine pt_then (ht_seq ?_)
     obtain ⟨v43, hv43, h⟩:=zn h
     refine yx hn 1 ?_
     refine ys 0 ⟨lk call78 (ok_strconv_Atoi _ _ hv43)⟩ ?_
     refine ym 4 ?_
     refine yee [7,8] ?_
     refine ht_seq ?_
     refine wb [[7],[8]] ?_
     refine wN [49] ?_
     refine wS (vb true) [[48],[50]] ⟨op_ifnil _ _ false underlying116 rfl⟩ ?_
     refine wee hn [4,5] ?_
     refine ht_ret ?_
     obtain rfl:=zi h
     exact pt_ret hio rfl (.tmp _ _ (.tmp _ _ .nil)) rfl rfl
    ·rintro u31 hl32 hr33 s24 rr36 h ho34
     refine yyy hn 1 [0,28,29,30] ?_
     refine ht_seq ?_
     refine ht_cond _ rfl (fun hb37 => ?_) (fun hb37 => ?_)
     ·have h:=cond_t hb37 h
      refine ht_skip ?_
      refine pt_then (ht_seq ?_)
      refine ht_block ?_
      refine yyy hn 2 [0,28,29,6] ?_
      refine ht_seq ?_
      refine ht_joinS h (fun (s38:Bool)=>[(0,vs s),(28,vi (s.size:Int)),(29,vi s24),(41,vb s38)]) ?_ ?_
      ·rintro s38 h
       refine pt_then ?_
       refine ht_cond _ rfl (fun hb42 => ?_) (fun hb42 => ?_)
       ·have h:=cond_t hb42 h
        refine yyy hn 2 [4,5] ?_
        refine ht_ret ?_
        refine pt_r_in ?_
        refine pt_r_then ?_
        refine pt_r_then ?_
        refine pt_r_in ?_
        refine pt_r_then ?_
        have h:=hr33 _ (ho34 _ (zi h).symm).symm
        obtain rfl:=zi h
        exact pt_ret hio rfl (.tmp _ _ (.tmp _ _ .nil)) rfl rfl
       ·have h:=cond_f hb42 h
        refine ht_skip ?_
        refine pt_inb ?_
        refine pt_then ?_
        obtain ⟨v16, hv16, h⟩:=zn h
        refine yx hn 0 ?_
        refine ys 0 ⟨lb hv16⟩ ?_
        refine yw [29] 1 ?_
        refine ye [0,28,29] ?_
        exact pt_next _ (zi h).symm rfl
      ·intro u39 h hl40 hr41
       obtain ⟨v9, hv9, h⟩:=zn h
       refine cond_some h (fun hg6_4 h => ?_) (fun hg6_4 h => ?_)
       ·refine yx hn 2 ?_
        refine ys 2 ⟨lh hv9⟩ ?_
        refine yd hg6_4 5 ?_
        refine ye [0,28,29,41] ?_
        exact hl40 _ (zi h).symm
       ·obtain ⟨v10, hv10, h⟩:=zn h
        refine yx hn 2 ?_
        refine ys 2 ⟨lh hv9⟩ ?_
        refine yd hg6_4 2 ?_
        refine ys 2 ⟨lh hv10⟩ ?_
        refine ye [0,28,29,41] ?_
        exact hl40 _ (zi h).symm
     ·have h:=cond_f hb37 h
      refine ht_exit ?_
      refine pt_x_then ?_
      refine pt_x_then ?_
      refine pt_x_in ?_
      refine pt_pick [0] (by kernel_rfl) (es':=[(_,_)]) rfl ?_
      exact hl32 _ (ho34 _ (zi h).symm).symm
  ·intro u4 h hl5 hr6
   refine cond_some h (fun hg1_2 h => ?_) (fun hg1_2 h => ?_)
   ·refine yx hn 3 ?_
    refine yd hg1_2 15 ?_
    refine ye [0,26] ?_
    exact hl5 _ (zi h).symm
   ·obtain ⟨v1, hv1, h⟩:=zn h
    refine cond_some h (fun hg1_9 h => ?_) (fun hg1_9 h => ?_)
    ·refine yx hn 3 ?_
     refine yd hg1_2 3 ?_
     refine yS (vi v1) 3 ⟨(Option.some.inj hv1) ▸ op_min _ _ _ _ rfl rfl⟩ ?_
     refine yd hg1_9 8 ?_
     refine ye [0,26] ?_
     exact hl5 _ (zi h).symm
    ·obtain ⟨v2, hv2, h⟩:=zn h
     refine cond_some h (fun hg1_13 h => ?_) (fun hg1_13 h => ?_)
     ·refine yx hn 3 ?_
      refine yd hg1_2 3 ?_
      refine yS (vi v1) 3 ⟨(Option.some.inj hv1) ▸ op_min _ _ _ _ rfl rfl⟩ ?_
      refine yd hg1_9 1 ?_
      refine ys 2 ⟨lh hv2⟩ ?_
      refine yd hg1_13 4 ?_
      refine ye [0,26] ?_
      exact hl5 _ (zi h).symm
     ·refine yx hn 3 ?_
      refine yd hg1_2 3 ?_
      refine yS (vi v1) 3 ⟨(Option.some.inj hv1) ▸ op_min _ _ _ _ rfl rfl⟩ ?_
      refine yd hg1_9 1 ?_
      refine ys 2 ⟨lh hv2⟩ ?_
      refine yd hg1_13 4 ?_
      refine ye [0,26] ?_
      exact hl5 _ (zi h).symm
theorem ok_bundle_parseHeader (line:ByteArray) (r:(T_bundle_header×Bool)) (h:Sh.bundle_parseHeader line=some r):FnOK Tryz.prog 35 [.v (.string line)] (.tup [.agg [.v (.int .i64 r.1.origin), .v (.int .i64 r.1.number), .v (.int .i64 r.1.size), .v (.int .i64 r.1.sum)], .v (.bool r.2)]):=by
  unfold Sh.bundle_parseHeader at h
  refine yO 56 func35 fun g0 hn hio => ?_
  refine yxx hn 0 ?_
  refine yS (.box 66 [vi 0,vi 0,vi 0,vi 0]) 1 ⟨oA (op_alloc _ _ zr66)⟩ ?_
  refine yee [0,2] ?_
  refine ht_seq ?_
  obtain ⟨v1, hv1, h⟩:=zn h
  refine yx hn 1 ?_
  refine ys 1 ⟨lk call57 (ok_strings_Split _ _ _ hv1)⟩ ?_
  refine yee [2,4] ?_
  refine ht_seq ?_
  refine ht_seq ?_
  refine ht_joinS h (fun (s4:Bool)=>[(2,.box 66 [vi 0,vi 0,vi 0,vi 0]),(4,.fl .ro 1 (map Value.string v1)),(21,vb s4)]) ?_ ?_
  ·rintro s4 h
   refine pt_then ?_
   refine ht_cond _ rfl (fun hb8 => ?_) (fun hb8 => ?_)
   ·have h:=cond_t hb8 h
    refine yxx hn 0 ?_
    refine yS (.agg [vi 0,vi 0,vi 0,vi 0]) 0 ⟨op_build _ _ _ _ [1,1,1,1] _ _ underlying66 zr66 (fs66 _ underlying66) Src.nil rfl rfl rfl⟩ ?_
    refine yk [22,2] [] ?_
    refine yt (2,.box 66 [vi 0,vi 0,vi 0,vi 0]) 1 ⟨op_store_self _ _ _ 22 2 4 sz66 rfl rfl rfl rfl rfl (.eq _ (.eq _ (.eq _ (.eq _ (.nil _))))) rfl⟩ ?_
    refine yee [2,3] ?_
    refine ht_ret ?_
    refine pt_r_then ?_
    obtain rfl:=zi h
    exact pt_ret hio rfl (.cellA _ _ _ _ underlying66 rfl sz66 (.tmp _ _ .nil)) rfl rfl
   ·have h:=cond_f hb8 h
    refine ht_skip ?_
    refine pt_then ?_
    refine yxx hn 0 ?_
    refine yS (.arr 90 (map (int .i64) ((List.replicate 5 (0:Int))))) 0 ⟨oA (op_alloc_arr _ za90)⟩ ?_
    refine yee [2,4,5] ?_
    refine ht_seq ?_
    refine ht_seq ?_
    obtain ⟨v9, hv9, h⟩:=zn h
    refine yx hn 1 ?_
    refine yS (.fl .ro 1 (map Value.string v9)) 2 ⟨op_sl _ _ _ 1 (v1.length:Int) _ underlying57 sz9 rfl rfl ⟨_,rfl⟩ rfl hv9⟩ ?_
    refine yee [2,5,24,25,26] ?_
    refine ht_loopS h (fun ((s22,s23):(List Int)×Int)=>[(2,.box 66 [vi 0,vi 0,vi 0,vi 0]),(5,.arr 90 (map (int .i64) s22)),(24,.fl .ro 1 (map Value.string v9)),(25,vi (v9.length:Int)),(26,vi s23)]) (fun (s26:(List Int))=>[(2,.box 66 [vi 0,vi 0,vi 0,vi 0]),(5,.arr 90 (map (int .i64) s26))]) ?_ ?_
    ·rintro s26 h
     refine pt_then (ht_seq ?_)
     obtain ⟨v35, hv35, h⟩:=zn h
     obtain ⟨v36, hv36, h⟩:=zn h
     obtain ⟨v37, hv37, h⟩:=zn h
     obtain ⟨v38, hv38, h⟩:=zn h
     obtain ⟨v39, hv39, h⟩:=zn h
     obtain ⟨v40, hv40, h⟩:=zn h
     obtain ⟨v41, hv41, h⟩:=zn h
     obtain ⟨v42, hv42, h⟩:=zn h
     refine yx hn 0 ?_
     refine yS (.ptr 5 v35) 0 ⟨op_ix_arr _ _ _ _ 5 5 _ underlying90 sz3 rfl rfl (ix_ok hv35).1 (ix_ok hv35).2 (by decide)⟩ ?_
     refine yS (vi v36) 0 ⟨op_load_arr _ _ _ _ _ _ underlying3 rfl rfl rfl (map_get1 hv36)⟩ ?_
     refine yS (.ptr 5 v37) 0 ⟨op_ix_arr _ _ _ _ 5 5 _ underlying90 sz3 rfl rfl (ix_ok hv37).1 (ix_ok hv37).2 (by decide)⟩ ?_
     refine yS (vi v38) 0 ⟨op_load_arr _ _ _ _ _ _ underlying3 rfl rfl rfl (map_get1 hv38)⟩ ?_
     refine yS (.ptr 5 v39) 0 ⟨op_ix_arr _ _ _ _ 5 5 _ underlying90 sz3 rfl rfl (ix_ok hv39).1 (ix_ok hv39).2 (by decide)⟩ ?_
     refine yS (vi v40) 0 ⟨op_load_arr _ _ _ _ _ _ underlying3 rfl rfl rfl (map_get1 hv40)⟩ ?_
     refine yS (.ptr 5 v41) 0 ⟨op_ix_arr _ _ _ _ 5 5 _ underlying90 sz3 rfl rfl (ix_ok hv41).1 (ix_ok hv41).2 (by decide)⟩ ?_
     refine yS (vi v42) 0 ⟨op_load_arr _ _ _ _ _ _ underlying3 rfl rfl rfl (map_get1 hv42)⟩ ?_
     refine yS (.agg [vi v36,vi v38,vi v40,vi v42]) 0 ⟨op_build _ _ _ _ [1,1,1,1] _ _ underlying66 zr66 (fs66 _ underlying66) (.copy _ (.copy _ (.copy _ (.copy _ Src.nil)))) rfl rfl rfl⟩ ?_
     refine yS (.box 66 [vi 0,vi 0,vi 0,vi 0]) 1 ⟨oA (op_alloc _ _ zr66)⟩ ?_
     refine yee [2,10] ?_
     refine ht_seq ?_
     refine wb [[10],[10],[53,10],[54]] ?_
     refine wK [2] [52] ?_
     refine wt [(2,.box 66 [vi v36,vi v38,vi v40,vi v42])] [[55]] ⟨op_store _ _ _ _ _ _ _ _ sz66 rfl rfl rfl rfl (zl rfl) rfl rfl⟩ ?_
     refine wee hn [2,3] ?_
     refine ht_ret ?_
     obtain rfl:=zi h
     exact pt_ret hio rfl (.cellA _ _ _ _ underlying66 rfl sz66 (.tmp _ _ .nil)) rfl rfl
    ·rintro u27 hl28 hr29 ⟨s22, s23⟩ rr32 h ho30
     refine yyy hn 1 [2,5,24,25,26,27] ?_
     refine ht_seq ?_
     refine ht_cond _ rfl (fun hb33 => ?_) (fun hb33 => ?_)
     ·have h:=cond_t hb33 h
      refine ht_skip ?_
      refine pt_then (ht_seq ?_)
      refine ht_block ?_
      refine ht_seq ?_
      obtain ⟨v11, hv11, h⟩:=zn h
      obtain ⟨v12, hv12, h⟩:=zn h
      refine yx hn 1 ?_
      refine ys 0 ⟨li hv11⟩ ?_
      refine ys 2 ⟨ll hv12⟩ ?_
      refine yee [2,5,24,25,26,6,7] ?_
      refine ht_seq ?_
      obtain ⟨v13, hv13, h⟩:=zn h
      refine yx hn 1 ?_
      refine ys 0 ⟨lk call58 (ok_number_Parse _ _ _ hv13)⟩ ?_
      refine ym 4 ?_
      refine yee [2,5,24,25,26,6,8,9] ?_
      refine ht_seq ?_
      refine yyy hn 2 [2,5,24,25,26,6,8,37] ?_
      refine ht_cond _ rfl (fun hb34 => ?_) (fun hb34 => ?_)
      ·have h:=cond_t hb34 h
       refine yxx hn 0 ?_
       refine yS (.agg [vi 0,vi 0,vi 0,vi 0]) 0 ⟨op_build _ _ _ _ [1,1,1,1] _ _ underlying66 zr66 (fs66 _ underlying66) Src.nil rfl rfl rfl⟩ ?_
       refine yk [38,2] [] ?_
       refine yt (2,.box 66 [vi 0,vi 0,vi 0,vi 0]) 1 ⟨op_store_self _ _ _ 38 2 4 sz66 rfl rfl rfl rfl rfl (.eq _ (.eq _ (.eq _ (.eq _ (.nil _))))) rfl⟩ ?_
       refine yee [2,3] ?_
       refine ht_ret ?_
       refine pt_r_then ?_
       refine pt_r_in ?_
       refine pt_r_then ?_
       refine pt_r_then ?_
       refine pt_r_in ?_
       refine pt_r_then ?_
       have h:=hr29 _ (ho30 _ (zi h).symm).symm
       obtain rfl:=zi h
       exact pt_ret hio rfl (.cellA _ _ _ _ underlying66 rfl sz66 (.tmp _ _ .nil)) rfl rfl
      ·have h:=cond_f hb34 h
       refine ht_skip ?_
       refine pt_then ?_
       obtain ⟨v15, hv15, h⟩:=zn h
       obtain ⟨v16, hv16, h⟩:=zn h
       refine yx hn 2 ?_
       refine yS (.ptr 5 v15) 0 ⟨op_ix_arr _ _ _ _ 5 5 _ underlying90 sz3 rfl rfl (ix_ok hv15).1 (ix_ok hv15).2 (by decide)⟩ ?_
       refine yk [5] [41,40] ?_
       refine yt (5,.arr 90 (map (int .i64) v16)) 0 ⟨op_store_arr _ _ _ _ _ _ sz3 rfl rfl rfl rfl (set_lt hv16) (set_eq (f:=int .i64) hv16)⟩ ?_
       refine ye [2,5,24,25,26] ?_
       refine pt_inb ?_
       refine pt_then ?_
       obtain ⟨v17, hv17, h⟩:=zn h
       refine yx hn 0 ?_
       refine ys 0 ⟨lb hv17⟩ ?_
       refine yw [26] 1 ?_
       refine ye [2,5,24,25,26] ?_
       exact pt_next _ (zi h).symm rfl
     ·have h:=cond_f hb33 h
      refine ht_exit ?_
      refine pt_x_then ?_
      refine pt_x_then ?_
      refine pt_x_in ?_
      refine pt_pick [0,1] (by kernel_rfl) (es':=[(_,_),(_,_)]) rfl ?_
      exact hl28 _ (ho30 _ (zi h).symm).symm
  ·intro u5 h hl6 hr7
   refine cond_some h (fun hg2_3 h => ?_) (fun hg2_3 h => ?_)
   ·refine yx hn 4 ?_
    refine yd hg2_3 5 ?_
    refine ye [2,4,21] ?_
    exact hl6 _ (zi h).symm
   ·obtain ⟨v2, hv2, h⟩:=zn h
    obtain ⟨v3, hv3, h⟩:=zn h
    refine yx hn 4 ?_
    refine yd hg2_3 1 ?_
    refine ys 0 ⟨li hv2⟩ ?_
    refine ys 2 ⟨ll hv3⟩ ?_
    refine ye [2,4,21] ?_
    exact hl6 _ (zi h).symm
theorem ok_internal_stringslite_HasPrefix (s:ByteArray) (prefix_:ByteArray) (r:Bool) (h:Sh.internal_stringslite_HasPrefix s prefix_=some r):FnOK Tryz.prog 149 [.v (.string s), .v (.string prefix_)] (.v (.bool r)):=by
  unfold Sh.internal_stringslite_HasPrefix at h
  refine yO 18 func149 fun g0 hn hio => ?_
  refine yyy hn 1 [0,1] ?_
  refine ht_seq ?_
  refine ht_joinS h (fun (s2:Bool)=>[(4,vb s2)]) ?_ ?_
  ·rintro s2 h
   refine pt_then (ht_ret ?_)
   obtain rfl:=zi h
   exact pt_ret hio rfl (.tmp _ _ .nil) rfl rfl
  ·intro u3 h hl4 hr5
   refine cond_some h (fun hg1_5 h => ?_) (fun hg1_5 h => ?_)
   ·obtain ⟨v1, hv1, h⟩:=zn h
    refine yx hn 6 ?_
    refine yd hg1_5 3 ?_
    refine yS (vs v1) 4 ⟨op_substr _ _ _ 0 (prefix_.size:Int) _ underlying9 rfl rfl ⟨_,rfl⟩ hv1⟩ ?_
    refine ye [4] ?_
    exact hl4 _ (zi h).symm
   ·refine yx hn 6 ?_
    refine yd hg1_5 8 ?_
    refine ye [4] ?_
    exact hl4 _ (zi h).symm
theorem ok_internal_stringslite_CutPrefix (s:ByteArray) (prefix_:ByteArray) (r:(ByteArray×Bool)) (h:Sh.internal_stringslite_CutPrefix s prefix_=some r):FnOK Tryz.prog 125 [.v (.string s), .v (.string prefix_)] (.tup [.v (.string r.1), .v (.bool r.2)]):=by
  unfold Sh.internal_stringslite_CutPrefix at h
  refine yO 15 func125 fun g0 hn hio => ?_
  refine yyy hn 2 [0,1] ?_
  refine ht_seq ?_
  refine ht_seq ?_
  obtain ⟨v1, hv1, h⟩:=zn h
  refine yx hn 2 ?_
  refine ys 1 ⟨lk call149 (ok_internal_stringslite_HasPrefix _ _ _ hv1)⟩ ?_
  refine yee [0,1,9] ?_
  refine ht_cond _ rfl (fun hb2 => ?_) (fun hb2 => ?_)
  ·have h:=cond_t hb2 h
   refine yyy hn 3 [4,5] ?_
   refine ht_ret ?_
   refine pt_r_then ?_
   obtain rfl:=zi h
   exact pt_ret hio rfl (.tmp _ _ (.tmp _ _ .nil)) rfl rfl
  ·have h:=cond_f hb2 h
   refine ht_skip ?_
   refine pt_then (ht_seq ?_)
   obtain ⟨v3, hv3, h⟩:=zn h
   refine yx hn 3 ?_
   refine yS (vs v3) 2 ⟨op_substr _ _ _ (prefix_.size:Int) (s.size:Int) _ underlying9 rfl ⟨_,rfl⟩ rfl hv3⟩ ?_
   refine yee [4,5] ?_
   refine ht_ret ?_
   obtain rfl:=zi h
   exact pt_ret hio rfl (.tmp _ _ (.tmp _ _ .nil)) rfl rfl
theorem ok_strings_CutPrefix (s:ByteArray) (prefix_:ByteArray) (r:(ByteArray×Bool)) (h:Sh.strings_CutPrefix s prefix_=some r):FnOK Tryz.prog 101 [.v (.string s), .v (.string prefix_)] (.tup [.v (.string r.1), .v (.bool r.2)]):=by
  unfold Sh.strings_CutPrefix at h
  refine yO 11 func101 fun g0 hn hio => ?_
  refine yyy hn 2 [0,1] ?_
  refine ht_seq ?_
  obtain ⟨v1, hv1, h⟩:=zn h
  refine yx hn 2 ?_
  refine ys 4 ⟨lk call125 (ok_internal_stringslite_CutPrefix _ _ _ hv1)⟩ ?_
  refine yee [4,5] ?_
  refine ht_ret ?_
  obtain rfl:=zi h
  exact pt_ret hio rfl (.tmp _ _ (.tmp _ _ .nil)) rfl rfl
theorem ok_internal_stringslite_HasSuffix (s:ByteArray) (suffix:ByteArray) (r:Bool) (h:Sh.internal_stringslite_HasSuffix s suffix=some r):FnOK Tryz.prog 159 [.v (.string s), .v (.string suffix)] (.v (.bool r)):=by
  unfold Sh.internal_stringslite_HasSuffix at h
  refine yO 21 func159 fun g0 hn hio => ?_
  refine yyy hn 1 [0,1] ?_
  refine ht_seq ?_
  refine ht_joinS h (fun (s3:Bool)=>[(4,vb s3)]) ?_ ?_
  ·rintro s3 h
   refine pt_then (ht_ret ?_)
   obtain rfl:=zi h
   exact pt_ret hio rfl (.tmp _ _ .nil) rfl rfl
  ·intro u4 h hl5 hr6
   refine cond_some h (fun hg1_5 h => ?_) (fun hg1_5 h => ?_)
   ·obtain ⟨v1, hv1, h⟩:=zn h
    obtain ⟨v2, hv2, h⟩:=zn h
    refine yx hn 6 ?_
    refine yd hg1_5 5 ?_
    refine ys 0 ⟨lb hv1⟩ ?_
    refine yS (vs v2) 4 ⟨op_substr _ _ _ v1 (s.size:Int) _ underlying9 rfl ⟨_,rfl⟩ rfl hv2⟩ ?_
    refine ye [4] ?_
    exact hl5 _ (zi h).symm
   ·refine yx hn 6 ?_
    refine yd hg1_5 11 ?_
    refine ye [4] ?_
    exact hl5 _ (zi h).symm
theorem ok_internal_stringslite_CutSuffix (s:ByteArray) (suffix:ByteArray) (r:(ByteArray×Bool)) (h:Sh.internal_stringslite_CutSuffix s suffix=some r):FnOK Tryz.prog 150 [.v (.string s), .v (.string suffix)] (.tup [.v (.string r.1), .v (.bool r.2)]):=by
  unfold Sh.internal_stringslite_CutSuffix at h
  refine yO 18 func150 fun g0 hn hio => ?_
  refine yyy hn 2 [0,1] ?_
  refine ht_seq ?_
  refine ht_seq ?_
  obtain ⟨v1, hv1, h⟩:=zn h
  refine yx hn 2 ?_
  refine ys 1 ⟨lk call159 (ok_internal_stringslite_HasSuffix _ _ _ hv1)⟩ ?_
  refine yee [0,1,9] ?_
  refine ht_cond _ rfl (fun hb2 => ?_) (fun hb2 => ?_)
  ·have h:=cond_t hb2 h
   refine yyy hn 3 [4,5] ?_
   refine ht_ret ?_
   refine pt_r_then ?_
   obtain rfl:=zi h
   exact pt_ret hio rfl (.tmp _ _ (.tmp _ _ .nil)) rfl rfl
  ·have h:=cond_f hb2 h
   refine ht_skip ?_
   refine pt_then (ht_seq ?_)
   obtain ⟨v3, hv3, h⟩:=zn h
   obtain ⟨v4, hv4, h⟩:=zn h
   refine yx hn 5 ?_
   refine ys 0 ⟨lb hv3⟩ ?_
   refine yS (vs v4) 2 ⟨op_substr _ _ _ 0 v3 _ underlying9 rfl rfl ⟨_,rfl⟩ hv4⟩ ?_
   refine yee [4,5] ?_
   refine ht_ret ?_
   obtain rfl:=zi h
   exact pt_ret hio rfl (.tmp _ _ (.tmp _ _ .nil)) rfl rfl
theorem ok_strings_CutSuffix (s:ByteArray) (suffix:ByteArray) (r:(ByteArray×Bool)) (h:Sh.strings_CutSuffix s suffix=some r):FnOK Tryz.prog 126 [.v (.string s), .v (.string suffix)] (.tup [.v (.string r.1), .v (.bool r.2)]):=by
  unfold Sh.strings_CutSuffix at h
  refine yO 11 func126 fun g0 hn hio => ?_
  refine yyy hn 2 [0,1] ?_
  refine ht_seq ?_
  obtain ⟨v1, hv1, h⟩:=zn h
  refine yx hn 2 ?_
  refine ys 4 ⟨lk call150 (ok_internal_stringslite_CutSuffix _ _ _ hv1)⟩ ?_
  refine yee [4,5] ?_
  refine ht_ret ?_
  obtain rfl:=zi h
  exact pt_ret hio rfl (.tmp _ _ (.tmp _ _ .nil)) rfl rfl
theorem ok_internal_stringslite_Index (s sub:ByteArray) (r:Int) (h:Sh.strings_Index s sub=some r):FnOK Tryz.prog 119 [.v (.string s), .v (.string sub)] (.v (.int .i64 r)):=lib_strings_Index Tryz.stringslite_Index_one s sub r h
theorem ok_internal_stringslite_Cut (s:ByteArray) (sep:ByteArray) (r:(ByteArray×ByteArray×Bool)) (h:Sh.internal_stringslite_Cut s sep=some r):FnOK Tryz.prog 151 [.v (.string s), .v (.string sep)] (.tup [.v (.string r.1), .v (.string r.2.1), .v (.bool r.2.2)]):=by
  unfold Sh.internal_stringslite_Cut at h
  refine yO 23 func151 fun g0 hn hio => ?_
  refine yyy hn 3 [0,1] ?_
  refine ht_seq ?_
  refine ht_seq ?_
  obtain ⟨v1, hv1, h⟩:=zn h
  refine yx hn 2 ?_
  refine ys 1 ⟨lk call119 (ok_internal_stringslite_Index _ _ _ hv1)⟩ ?_
  refine yee [0,1,7] ?_
  refine yyy hn 2 [0,1,7,12] ?_
  refine ht_cond _ rfl (fun hb2 => ?_) (fun hb2 => ?_)
  ·have h:=cond_t hb2 h
   refine ht_seq ?_
   obtain ⟨v3, hv3, h⟩:=zn h
   obtain ⟨v4, hv4, h⟩:=zn h
   obtain ⟨v5, hv5, h⟩:=zn h
   refine wb [[0],[7]] ?_
   refine wN [13,14] ?_
   refine wS (vs v3) [[0],[7],[1],[18]] ⟨op_substr _ _ _ 0 v1 _ underlying9 rfl rfl ⟨_,rfl⟩ hv3⟩ ?_
   refine wN [17,19] ?_
   refine wo [] ⟨lb hv4⟩ ?_
   refine wN [16,20] ?_
   refine wS (vs v5) [[15],[21],[]] ⟨op_substr _ _ _ v4 (s.size:Int) _ underlying9 rfl ⟨_,rfl⟩ rfl hv5⟩ ?_
   refine wee hn [4,5,6] ?_
   refine ht_ret ?_
   refine pt_r_then ?_
   obtain rfl:=zi h
   exact pt_ret hio rfl (.tmp _ _ (.tmp _ _ (.tmp _ _ .nil))) rfl rfl
  ·have h:=cond_f hb2 h
   refine ht_skip ?_
   refine pt_then ?_
   refine yyy hn 4 [4,5,6] ?_
   refine ht_ret ?_
   obtain rfl:=zi h
   exact pt_ret hio rfl (.tmp _ _ (.tmp _ _ (.tmp _ _ .nil))) rfl rfl
theorem ok_strings_Cut (s:ByteArray) (sep:ByteArray) (r:(ByteArray×ByteArray×Bool)) (h:Sh.strings_Cut s sep=some r):FnOK Tryz.prog 127 [.v (.string s), .v (.string sep)] (.tup [.v (.string r.1), .v (.string r.2.1), .v (.bool r.2.2)]):=by
  unfold Sh.strings_Cut at h
  refine yO 13 func127 fun g0 hn hio => ?_
  refine yyy hn 3 [0,1] ?_
  refine ht_seq ?_
  obtain ⟨v1, hv1, h⟩:=zn h
  refine yx hn 2 ?_
  refine ys 6 ⟨lk call151 (ok_internal_stringslite_Cut _ _ _ hv1)⟩ ?_
  refine yee [4,5,6] ?_
  refine ht_ret ?_
  obtain rfl:=zi h
  exact pt_ret hio rfl (.tmp _ _ (.tmp _ _ (.tmp _ _ .nil))) rfl rfl
theorem ok_path_Parse (mx:Int) (s:ByteArray) (r:(T_Path×Int)) (h:Sh.path_Parse s=some r):FnG Tryz.prog (GL mx) 102 [.v (.string s)] (.tup [.agg [.v (.bool r.1.Null), .v (.string r.1.Local), .v (.string r.1.Domain)], .v (.int .i64 r.2)]):=by
  unfold Sh.path_Parse at h
  refine yG 50 func102 fun g0 hn hio => ?_
  refine yxx hn 0 ?_
  refine yS (.box 43 [vb false,vs z0,vs z0]) 1 ⟨oA (op_alloc _ _ zr43)⟩ ?_
  refine yee [0,50,2] ?_
  refine ht_seq ?_
  refine yyy hn 2 [0,50,2,12] ?_
  refine ht_cond _ rfl (fun hb1 => ?_) (fun hb1 => ?_)
  ·have h:=cond_t hb1 h
   refine yxx hn 0 ?_
   refine yS (.agg [vb true,vs z0,vs z0]) 2 ⟨op_build _ _ _ _ [1,1,1] _ _ underlying43 zr43 (fs43 _ underlying43) (.copy _ Src.nil) rfl rfl rfl⟩ ?_
   refine yee [50,2,3] ?_
   refine ht_ret ?_
   refine pt_pick [1,2] (by kernel_rfl) (es':=[(_,_),(_,_)]) rfl ?_
   refine pt_r_then ?_
   obtain rfl:=zi h
   exact pt_ret hio rfl (.cellA _ _ _ _ underlying43 rfl sz43 (.tmp _ _ .nil)) rfl rfl
  ·have h:=cond_f hb1 h
   refine ht_skip ?_
   refine pt_then (ht_seq ?_)
   obtain ⟨v2, hv2, h⟩:=zn h
   refine yx hn 1 ?_
   refine ys 0 ⟨lk call101 (ok_strings_CutPrefix _ _ _ hv2)⟩ ?_
   refine ym 4 ?_
   refine yee [50,2,4,5] ?_
   refine ht_seq ?_
   obtain ⟨v3, hv3, h⟩:=zn h
   refine yx hn 1 ?_
   refine ys 0 ⟨lk call126 (ok_strings_CutSuffix _ _ _ hv3)⟩ ?_
   refine ym 2 ?_
   refine yw [4] 2 ?_
   refine yee [50,2,5,4,6] ?_
   refine ht_seq ?_
   obtain ⟨v4, hv4, h⟩:=zn h
   refine yx hn 1 ?_
   refine ys 0 ⟨lk call127 (ok_strings_Cut _ _ _ hv4)⟩ ?_
   refine ym 6 ?_
   refine yee [50,2,5,6,7,8,9] ?_
   refine yxx hn 2 ?_
   refine yS (.agg [vb false,vs v4.1,vs v4.2.1]) 0 ⟨op_build _ _ _ _ [1,1,1] _ _ underlying43 zr43 (fs43 _ underlying43) (.copy _ (.copy _ Src.nil)) rfl rfl rfl⟩ ?_
   refine yS (.box 43 [vb false,vs z0,vs z0]) 1 ⟨oA (op_alloc _ _ zr43)⟩ ?_
   refine yee [50,2,5,6,9,10] ?_
   refine ht_seq ?_
   refine ht_seq ?_
   refine ht_joinS h (fun (s6:Bool)=>[(50,.glob (GL mx)),(2,.box 43 [vb false,vs z0,vs z0]),(10,.box 43 [vb false,vs v4.1,vs v4.2.1]),(47,vb s6)]) ?_ ?_
   ·rintro s6 h
    refine pt_then ?_
    refine ht_cond _ rfl (fun hb10 => ?_) (fun hb10 => ?_)
    ·have h:=cond_t hb10 h
     refine yxx hn 0 ?_
     refine yS (.agg [vb false,vs z0,vs z0]) 0 ⟨op_build _ _ _ _ [1,1,1] _ _ underlying43 zr43 (fs43 _ underlying43) Src.nil rfl rfl rfl⟩ ?_
     refine yk [48,2] [] ?_
     refine yt (2,.box 43 [vb false,vs z0,vs z0]) 1 ⟨op_store_self _ _ _ 48 2 3 sz43 rfl rfl rfl rfl rfl (.eq _ (.eq _ (.eq _ (.nil _)))) rfl⟩ ?_
     refine yee [50,2,3] ?_
     refine ht_ret ?_
     refine pt_pick [1,2] (by kernel_rfl) (es':=[(_,_),(_,_)]) rfl ?_
     refine pt_r_then ?_
     obtain rfl:=zi h
     exact pt_ret hio rfl (.cellA _ _ _ _ underlying43 rfl sz43 (.tmp _ _ .nil)) rfl rfl
    ·have h:=cond_f hb10 h
     refine ht_skip ?_
     refine pt_then ?_
     refine yyy hn 3 [50,2,3] ?_
     refine ht_ret ?_
     refine pt_pick [1,2] (by kernel_rfl) (es':=[(_,_),(_,_)]) rfl ?_
     obtain rfl:=zi h
     exact pt_ret hio rfl (.cellA _ _ _ _ underlying43 rfl sz43 (.tmp _ _ .nil)) rfl rfl
   ·intro u7 h hl8 hr9
    refine cond_some h (fun hg7_2 h => ?_) (fun hg7_2 h => ?_)
    ·refine yx hn 3 ?_
     refine yd hg7_2 12 ?_
     refine ye [50,2,10,47] ?_
     exact hl8 _ (zi h).symm
    ·refine cond_some h (fun hg7_6 h => ?_) (fun hg7_6 h => ?_)
     ·refine yx hn 3 ?_
      refine yd hg7_2 4 ?_
      refine yd hg7_6 8 ?_
      refine ye [50,2,10,47] ?_
      exact hl8 _ (zi h).symm
     ·refine cond_some h (fun hg7_10 h => ?_) (fun hg7_10 h => ?_)
      ·refine yx hn 3 ?_
       refine yd hg7_2 4 ?_
       refine yd hg7_6 4 ?_
       refine yd hg7_10 4 ?_
       refine ye [50,2,10,47] ?_
       exact hl8 _ (zi h).symm
      ·obtain ⟨v5, hv5, h⟩:=zn h
       refine yx hn 3 ?_
       refine yd hg7_2 4 ?_
       refine yd hg7_6 4 ?_
       refine yd hg7_10 1 ?_
       refine ys 2 ⟨lg call68 (ok_path_Check _ _ _ hv5) 50⟩ ?_
       refine ye [50,2,10,47] ?_
       exact hl8 _ (zi h).symm
theorem ok_dots_lastLine (mx:Int) (b:(List Int)) (r:(Int×Bool)) (h:Sh.dots_lastLine b=some r):FnG Tryz.prog (GL mx) 103 [.fl .shr 1 (map (int .u8) b)] (.tup [.v (.int .i64 r.1), .v (.bool r.2)]):=by
  unfold Sh.dots_lastLine at h
  refine yG 17 func103 fun g0 hn hio => ?_
  refine yxx hn 0 ?_
  refine yS (.box 3 [vi 0]) 0 ⟨oA (op_alloc _ _ zr3)⟩ ?_
  refine yS (.box 4 [vb false]) 0 ⟨oA (op_alloc _ _ zr4)⟩ ?_
  refine yee [0,17,2,3] ?_
  refine ht_seq ?_
  refine ht_seq ?_
  obtain ⟨v1, hv1, h⟩:=zn h
  refine yx hn 1 ?_
  refine yk [] [5] ?_
  refine yt (6,.cloB 89 [.box 25 [fb v1]]) 0 ⟨op_callS _ _ 69 _ _ rfl call69 rfl rfl (ok_dots_lines b _ hv1) rfl⟩ ?_
  refine yee [17,2,3,6] ?_
  refine ht_block ?_
  refine ht_pick [3,0,1,2] (by kernel_rfl) (es':=[(6,.cloB 89 [.box 25 [fb v1]]),(17,.glob (GL mx)),(2,.box 3 [vi 0]),(3,.box 4 [vb false])]) rfl ?_
  refine ht_rangeF h 89 6 7 18 _ [17, 2, 3] call89 (fun (s8:Int)=>[(17, .glob (GL mx)), (2, .box 3 [.v (.int .i64 s8)]), (3, .box 4 [.v (.bool false)])]) (fun (s10:Int)=>[(17, .glob (GL mx)), (2, .box 3 [.v (.int .i64 s10)]), (3, .box 4 [.v (.bool true)])]) (fun l J Y hY t t' h=>ok_dots_lines_1 mx l J Y hY v1 t t' h) hn rfl (fun _=>rfl) (fun _=>rfl) (fun _=>rfl) rfl rfl (fun _=>⟨rfl, rfl⟩) rfl (glIn_look 17 rfl) ?_ ?_ ?_
  ·rintro kk g0 hn hio x s8 u h
   refine ht_es (es':=[(7,fb x),(17,.glob (GL mx)),(2,.box 3 [vi s8]),(3,.box 4 [vb false]),(17,.v (kk.tm.getD 17 undef)),(2,.v (kk.tm.getD 2 undef)),(3,.v (kk.tm.getD 3 undef)),(18,.inv kk.ready)]) rfl ?_
   refine yy hn 1 [17,2,3,18,4,17,2,3] ?_
   refine pt_pick [0,1,2,4,5,6,7,3] (by kernel_rfl) (es':=[(17,.glob (GL mx)),(2,.box 3 [vi s8]),(3,.box 4 [vb false]),(4,fb x),(17,.v (kk.tm.getD 17 undef)),(2,.v (kk.tm.getD 2 undef)),(3,.v (kk.tm.getD 3 undef)),(18,.inv kk.ready)]) rfl ?_
   refine pt_begin (es:=[(17,.glob (GL mx)),(2,.box 3 [vi s8]),(3,.box 4 [vb false]),(4,fb x),(17,.v (kk.tm.getD 17 undef)),(2,.v (kk.tm.getD 2 undef)),(3,.v (kk.tm.getD 3 undef))]) 18 rfl ?_
   refine ht_block ?_
   refine ht_seq ?_
   refine ht_seq ?_
   obtain ⟨v2, hv2, h⟩:=zn h
   refine yx hn 1 ?_
   refine ys 1 ⟨lS hv2⟩ ?_
   refine yee [17,2,3,4,18,10,17,2,3] ?_
   refine ht_cond _ rfl (fun hb11 => ?_) (fun hb11 => ?_)
   ·have h:=cond_t hb11 h
    refine yyy hn 3 [17,2,3,18,17,2,3] ?_
    refine ht_ret ?_
    refine pt_r_then ?_
    refine pt_r_in ?_
    refine pt_pick [0,1,2,4,5,6,3] (by kernel_rfl) (es':=[(_,_),(_,_),(_,_),(_,_),(_,_),(_,_),(_,_)]) rfl ?_
    obtain rfl:=zi h
    exact pt_rret 18 [17, 2, 3] _ rfl rfl (by kernel_rfl)
   ·have h:=cond_f hb11 h
    refine ht_skip ?_
    refine pt_then ?_
    obtain ⟨v4, hv4, h⟩:=zn h
    obtain ⟨v5, hv5, h⟩:=zn h
    refine yx hn 3 ?_
    refine ys 0 ⟨lb hv4⟩ ?_
    refine ys 1 ⟨lb hv5⟩ ?_
    refine ye [17,2,3,18,17,2,3] ?_
    refine pt_inb ?_
    refine pt_pick [0,1,2,4,5,6,3] (by kernel_rfl) (es':=[(_,_),(_,_),(_,_),(_,_),(_,_),(_,_),(_,_)]) rfl ?_
    obtain rfl:=zi h
    exact pt_rnext 18 [17, 2, 3] _ rfl rfl (by kernel_rfl)
  ·rintro D s8 h
   refine pt_inb ?_
   refine pt_then ?_
   refine yyy hn 2 [17,2,3] ?_
   refine ht_ret ?_
   refine pt_pick [1,2] (by kernel_rfl) (es':=[(_,_),(_,_)]) rfl ?_
   obtain rfl:=zi h
   exact pt_ret hio rfl (.cell1 _ _ _ _ underlying3 rfl (.cell1 _ _ _ _ underlying4 rfl .nil)) rfl rfl
  ·rintro D s10 h
   refine pt_pick [1,2] (by kernel_rfl) (es':=[(_,_),(_,_)]) rfl ?_
   refine pt_r_in ?_
   refine pt_r_then ?_
   obtain rfl:=zi h
   exact pt_ret hio rfl (.cell1 _ _ _ _ underlying3 rfl (.cell1 _ _ _ _ underlying4 rfl .nil)) rfl rfl
theorem ok_bytes_TrimPrefix_sh (s:(List Int)) (prefix_:(List Int)) (r:(List Int)) (h:Sh.bytes_TrimPrefix_sh s prefix_=some r):FnOK Tryz.prog 104 [.fl .shr 1 (map (int .u8) s), .fl .shr 1 (map (int .u8) prefix_)] (.fl .shr 1 (map (int .u8) r)):=by
  unfold Sh.bytes_TrimPrefix_sh at h
  refine yO 13 func104 fun g0 hn hio => ?_
  refine yyy hn 1 [0,1] ?_
  refine ht_seq ?_
  refine ht_seq ?_
  obtain ⟨v1, hv1, h⟩:=zn h
  refine yx hn 2 ?_
  refine ys 0 ⟨lk call70 (ok_bytes_HasPrefix _ _ _ hv1)⟩ ?_
  refine yee [0,1,7] ?_
  refine ht_cond _ rfl (fun hb2 => ?_) (fun hb2 => ?_)
  ·have h:=cond_t hb2 h
   refine ht_seq ?_
   obtain ⟨v3, hv3, h⟩:=zn h
   refine yx hn 3 ?_
   refine yS (fb v3) 1 ⟨op_sl _ _ _ (prefix_.length:Int) (s.length:Int) _ underlying25 sz5 rfl rfl ⟨_,rfl⟩ rfl hv3⟩ ?_
   refine yee [4] ?_
   refine ht_ret ?_
   refine pt_r_then ?_
   obtain rfl:=zi h
   exact pt_ret hio rfl (.tmp _ _ .nil) rfl rfl
  ·have h:=cond_f hb2 h
   refine ht_skip ?_
   refine pt_then ?_
   refine yyy hn 2 [4] ?_
   refine ht_ret ?_
   obtain rfl:=zi h
   exact pt_ret hio rfl (.tmp _ _ .nil) rfl rfl
theorem ok_dots_Strip (mx:Int) (b:(List Int)) (r:((List Int)×Int×Int)) (h:Sh.dots_Strip b=some r):FnG Tryz.prog (GL mx) 81 [.fl .shr 1 (map (int .u8) b)] (.tup [.fl (.own 5) 1 (map (int .u8) r.1), .v (.int .i64 r.2.1), .v (.int .i64 r.2.2)]):=by
  unfold Sh.dots_Strip at h
  refine yG 39 func81 fun g0 hn hio => ?_
  refine yxx hn 0 ?_
  refine yS (.box 25 [vz]) 2 ⟨oA (op_alloc _ _ zr25)⟩ ?_
  refine yee [0,39,2] ?_
  refine ht_seq ?_
  obtain ⟨v1, hv1, h⟩:=zn h
  refine yx hn 1 ?_
  refine ys 0 ⟨lg call103 (ok_dots_lastLine _ _ _ hv1) 39⟩ ?_
  refine ym 4 ?_
  refine yee [0,39,2,5,6] ?_
  refine ht_seq ?_
  refine yyy hn 2 [0,39,2,5,15] ?_
  refine ht_cond _ rfl (fun hb2 => ?_) (fun hb2 => ?_)
  ·have h:=cond_t hb2 h
   refine yyy hn 3 [39,2,3,4] ?_
   refine ht_ret ?_
   refine pt_pick [1,2,3] (by kernel_rfl) (es':=[(_,_),(_,_),(_,_)]) rfl ?_
   refine pt_sub (fs:=[(2,.box 25 [.fl (.own 5) 1 (map (int .u8) [])]),(3,vi 0),(4,vi 9)]) (.box _ _ (subs_cons (sub_nil 5 1) (subs_nil)) rfl (.same _ (.same _ .nil))) ?_
   refine pt_r_then ?_
   obtain rfl:=zi h
   exact pt_ret hio rfl (.cell1 _ _ _ _ underlying25 rfl (.tmp _ _ (.tmp _ _ .nil))) rfl rfl
  ·have h:=cond_f hb2 h
   refine ht_skip ?_
   refine pt_then (ht_seq ?_)
   refine ht_seq ?_
   obtain ⟨v3, hv3, h⟩:=zn h
   obtain ⟨v4, hv4, h⟩:=zn h
   refine yx hn 2 ?_
   refine yS (fb v3) 0 ⟨op_sl _ _ _ 0 v1.1 _ underlying25 sz5 rfl rfl rfl ⟨_,rfl⟩ hv3⟩ ?_
   refine ys 1 ⟨lg call65 (ok_dots_Check _ _ _ hv4) 39⟩ ?_
   refine yee [0,39,2,5,7] ?_
   refine yyy hn 2 [0,39,2,5,7,21] ?_
   refine ht_cond _ rfl (fun hb5 => ?_) (fun hb5 => ?_)
   ·have h:=cond_t hb5 h
    refine yyy hn 4 [39,2,3,4] ?_
    refine ht_ret ?_
    refine pt_pick [1,2,3] (by kernel_rfl) (es':=[(_,_),(_,_),(_,_)]) rfl ?_
    refine pt_sub (fs:=[(2,.box 25 [.fl (.own 5) 1 (map (int .u8) [])]),(3,vi 0),(4,vi v4)]) (.box _ _ (subs_cons (sub_nil 5 1) (subs_nil)) rfl (.same _ (.same _ .nil))) ?_
    refine pt_r_then ?_
    obtain rfl:=zi h
    exact pt_ret hio rfl (.cell1 _ _ _ _ underlying25 rfl (.tmp _ _ (.tmp _ _ .nil))) rfl rfl
   ·have h:=cond_f hb5 h
    refine ht_skip ?_
    refine pt_then (ht_seq ?_)
    refine ht_seq ?_
    obtain ⟨v6, hv6, h⟩:=zn h
    obtain ⟨v7, hv7, h⟩:=zn h
    refine yx hn 2 ?_
    refine yS (fb v6) 0 ⟨op_sl _ _ _ 0 v1.1 _ underlying25 sz5 rfl rfl rfl ⟨_,rfl⟩ hv6⟩ ?_
    refine yk [] [25] ?_
    refine yt (26,.cloB 89 [.box 25 [fb v7]]) 0 ⟨op_callS _ _ 69 _ _ rfl call69 rfl rfl (ok_dots_lines v6 _ hv7) rfl⟩ ?_
    refine yee [39,2,5,26] ?_
    refine ht_block ?_
    refine ht_pick [3,0,1,2] (by kernel_rfl) (es':=[(26,.cloB 89 [.box 25 [fb v7]]),(39,.glob (GL mx)),(2,.box 25 [vz]),(5,vi v1.1)]) rfl ?_
    refine ht_sub (fs:=[(26,.cloB 89 [.box 25 [fb v7]]),(39,.glob (GL mx)),(2,.box 25 [.fl (.own 5) 1 (map (int .u8) [])]),(5,vi v1.1)]) (.same _ (.same _ (.box _ _ (subs_cons (sub_nil 5 1) (subs_nil)) rfl (.same _ .nil)))) ?_
    refine ht_rangeF h 89 26 27 40 _ [39, 2, 5] call89 (fun (s12:(List Int))=>[(39, .glob (GL mx)), (2, .box 25 [.fl (.own 5) 1 (map (int .u8) s12)]), (5, .v (.int .i64 v1.1))]) (fun (():Unit)=>[]) (fun l J Y hY t t' h=>ok_dots_lines_1 mx l J Y hY v7 t t' h) hn rfl (fun _=>rfl) (fun _=>rfl) (fun _=>rfl) rfl rfl (fun _=>⟨rfl, rfl⟩) rfl (glIn_look 39 rfl) ?_ ?_ ?_
    ·rintro kk g0 hn hio x s12 u h
     refine ht_es (es':=[(27,fb x),(39,.glob (GL mx)),(2,.box 25 [.fl (.own 5) 1 (map (int .u8) s12)]),(5,vi v1.1),(39,.v (kk.tm.getD 39 undef)),(2,.v (kk.tm.getD 2 undef)),(5,.v (kk.tm.getD 5 undef)),(40,.inv kk.ready)]) rfl ?_
     refine yy hn 1 [39,2,5,40,8,39,2,5] ?_
     refine pt_pick [0,1,2,4,5,6,7,3] (by kernel_rfl) (es':=[(39,.glob (GL mx)),(2,.box 25 [.fl (.own 5) 1 (map (int .u8) s12)]),(5,vi v1.1),(8,fb x),(39,.v (kk.tm.getD 39 undef)),(2,.v (kk.tm.getD 2 undef)),(5,.v (kk.tm.getD 5 undef)),(40,.inv kk.ready)]) rfl ?_
     refine pt_begin (es:=[(39,.glob (GL mx)),(2,.box 25 [.fl (.own 5) 1 (map (int .u8) s12)]),(5,vi v1.1),(8,fb x),(39,.v (kk.tm.getD 39 undef)),(2,.v (kk.tm.getD 2 undef)),(5,.v (kk.tm.getD 5 undef))]) 40 rfl ?_
     refine ht_block ?_
     refine ht_seq ?_
     obtain ⟨v8, hv8, h⟩:=zn h
     obtain ⟨v9, hv9, h⟩:=zn h
     refine wb [[2],[8]] ?_
     refine wN [] ?_
     refine wS (.fl (.own 5) 1 (map (int .u8) [46])) [] ⟨op_buildSlice _ _ 1 (.int .u8 0) (map (int .u8) [46]) [(0,.int .u8 46)] underlying25 sz5 zr5 (fun _ V w o a hv hes=>by simp only [List.map_toArray,List.map_cons,List.map_nil]; try rfl) (litfill (by simp [Instr.fill,Value.cells]; rfl) (by simp [List.range,List.range.loop] <;> rfl)) (by simp [Value.oneCell']) rfl (by decide) (by decide) (by decide)⟩ ?_
     refine wK [30] [] ?_
     refine wt [(31,.fl .ro 1 (map (int .u8) [46]))] [] ⟨op_conv_mark _ _ _ underlying25 underlying5 (by intro h; cases h)⟩ ?_
     refine wN [29,31] ?_
     refine wS (fb v8) [] ⟨op_callS _ _ 104 _ _ rfl call104 rfl rfl (ok_bytes_TrimPrefix_sh x [46] _ hv8) rfl⟩ ?_
     refine wK [2] [28,32] ?_
     refine wt [(2,.box 25 [.any]),(33,.fl (.own 5) 1 (map (int .u8) v9))] [] ⟨op_app_cell _ _ _ _ _ _ el25 rfl rfl (zl rfl) rfl (map_len _) (map_len _) hv9 ((List.map_append).symm.trans (congrArg (map _) (app_eq hv9))) (Nat.ne_of_beq_eq_false rfl) rfl rfl⟩ ?_
     refine wK [28,33,2] [] ?_
     refine wt [(2,.box 25 [.fl (.own 5) 1 (map (int .u8) v9)])] [] ⟨LOp.drop [_] (op_store_take _ _ _ _ _ _ _ _ sz25 rfl rfl rfl (zl rfl) rfl rfl)⟩ ?_
     refine wee hn [39,2,5,40,39,2,5] ?_
     obtain ⟨v10, hv10, h⟩:=zn h
     refine yx hn 1 ?_
     refine yk [2] [34] ?_
     refine ytt (2,.box 25 [.any]) (35,.fl (.own 5) 1 (map (int .u8) v10)) 0 ⟨op_apps_cell _ _ _ _ _ _ el25 zr5 underlying9 rfl rfl (zl rfl) rfl rfl hv10 rfl (Nat.ne_of_beq_eq_false rfl) rfl rfl⟩ ?_
     refine yw [34] 0 ?_
     refine yk [35,2] [] ?_
     refine yt (2,.box 25 [.fl (.own 5) 1 (map (int .u8) v10)]) 0 ⟨op_store_take _ _ _ _ _ _ _ _ sz25 rfl rfl rfl (zl rfl) rfl rfl⟩ ?_
     refine ye [39,2,5,40,39,2,5] ?_
     refine pt_inb ?_
     refine pt_pick [0,1,2,4,5,6,3] (by kernel_rfl) (es':=[(_,_),(_,_),(_,_),(_,_),(_,_),(_,_),(_,_)]) rfl ?_
     obtain rfl:=zi h
     exact pt_rnext 40 [39, 2, 5] _ rfl rfl (by kernel_rfl)
    ·rintro D s12 h
     refine pt_inb ?_
     refine pt_then (ht_seq ?_)
     obtain ⟨v13, hv13, h⟩:=zn h
     refine yx hn 2 ?_
     refine ys 0 ⟨lb hv13⟩ ?_
     refine yk [2] [36] ?_
     refine yt (2,.box 25 [.fl (.own 5) 1 (map (int .u8) s12)]) 2 ⟨op_store_self1 _ _ _ 2 0 sz25 rfl rfl rfl (zl rfl)⟩ ?_
     refine yee [39,2,3,4] ?_
     refine ht_ret ?_
     refine pt_pick [1,2,3] (by kernel_rfl) (es':=[(_,_),(_,_),(_,_)]) rfl ?_
     obtain rfl:=zi h
     exact pt_ret hio rfl (.cell1 _ _ _ _ underlying25 rfl (.tmp _ _ (.tmp _ _ .nil))) rfl rfl
    ·rintro D ⟨⟩ h
     cases h
end Go.Proofs.YtglabbpbianmnaaGreatDoor
