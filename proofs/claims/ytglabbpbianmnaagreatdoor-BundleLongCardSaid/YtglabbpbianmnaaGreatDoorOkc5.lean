/-
  The model's runs are what is told in Lean.
-/
import Derived.Test.YtglabbpbianmnaaGreatDoorProg
import Derived.KernelRfl
import Derived.Test.YtglabbpbianmnaaGreatDoorShelf
import Derived.Test.YtglabbpbianmnaaGreatDoorIdx
import Derived.Test.YtglabbpbianmnaaGreatDoorBH
import Derived.Test.YtglabbpbianmnaaGreatDoorC1
import Derived.Test.YtglabbpbianmnaaGreatDoorOkc4
set_option linter.unusedVariables false
set_option linter.unusedSimpArgs false
set_option maxHeartbeats 1000000
namespace Go.Proofs.YtglabbpbianmnaaGreatDoor
open Go.Abs Go.Abs.Sh Tryz
open List (map flatten)
open Value (int)
theorem ok_bytes_Cut_ro (mx:Int) (s:(List Int)) (sep:(List Int)) (r:((List Int)×(List Int)×Bool)) (h:Sh.bytes_Cut_ro s sep=some r):FnG Tryz.prog (GL mx) 34 [.fl .ro 1 (map (int .u8) s), .fl .ro 1 (map (int .u8) sep)] (.tup [.fl .ro 1 (map (int .u8) r.1), .fl .ro 1 (map (int .u8) r.2.1), .v (.bool r.2.2)]):=by
  unfold Sh.bytes_Cut_ro at h
  refine yG 23 func34 fun g0 hn hio => ?_
  refine yyy hn 3 [0,1,23] ?_
  refine ht_seq ?_
  refine ht_seq ?_
  obtain ⟨v1, hv1, h⟩:=zn h
  refine yx hn 2 ?_
  refine ys 1 ⟨lg call56 (ok_bytes_Index _ _ _ _ hv1) 23⟩ ?_
  refine yee [0,1,23,7] ?_
  refine yyy hn 2 [0,1,23,7,12] ?_
  refine ht_cond _ rfl (fun hb6 => ?_) (fun hb6 => ?_)
  ·have h:=cond_t hb6 h
   refine ht_seq ?_
   obtain ⟨v3, hv3, h⟩:=zn h
   obtain ⟨v4, hv4, h⟩:=zn h
   obtain ⟨v5, hv5, h⟩:=zn h
   refine wb [[0],[7]] ?_
   refine wN [13,14] ?_
   refine wS (.fl .ro 1 (map (int .u8) v3)) [[0],[7],[1],[18]] ⟨op_sl _ _ _ 0 v1 _ underlying25 sz5 rfl rfl rfl ⟨_,rfl⟩ hv3⟩ ?_
   refine wN [17,19] ?_
   refine wo [] ⟨lb hv4⟩ ?_
   refine wN [16,20] ?_
   refine wS (.fl .ro 1 (map (int .u8) v5)) [[15],[21],[]] ⟨op_sl _ _ _ v4 (s.length:Int) _ underlying25 sz5 rfl rfl ⟨_,rfl⟩ rfl hv5⟩ ?_
   refine wee hn [23,4,5,6] ?_
   refine ht_ret ?_
   refine pt_pick [1,2,3] (by kernel_rfl) (es':=[(_,_),(_,_),(_,_)]) rfl ?_
   refine pt_r_then ?_
   obtain rfl:=zi h
   exact pt_ret hio rfl (.tmp _ _ (.tmp _ _ (.tmp _ _ .nil))) rfl rfl
  ·have h:=cond_f hb6 h
   refine ht_skip ?_
   refine pt_then ?_
   refine yyy hn 4 [23,4,5,6] ?_
   refine ht_ret ?_
   refine pt_pick [1,2,3] (by kernel_rfl) (es':=[(_,_),(_,_),(_,_)]) rfl ?_
   refine pt_sub (fs:=[(4,.fl .ro 1 (map (int .u8) s)),(5,.fl (.own 5) 1 (map (int .u8) [])),(6,vb false)]) (.same _ (.sub _ (sub_nil 5 1) rfl (.same _ .nil))) ?_
   refine pt_frz 1 hio (es':=[(4, .fl .ro 1 (map (int .u8) s)), (5, .fl .ro 1 (map (int .u8) [])), (6, .v (.bool false))]) rfl ?_
   obtain rfl:=zi h
   exact pt_ret hio rfl (.tmp _ _ (.tmp _ _ (.tmp _ _ .nil))) rfl rfl
theorem ok_bundle_parsePath_ro (mx:Int) (c:(List Int)) (word:ByteArray) (r:(T_Path×(List Int)×Bool)) (h:Sh.bundle_parsePath_ro c word=some r):FnG Tryz.prog (GL mx) 79 [.fl .ro 1 (map (int .u8) c), .v (.string word)] (.tup [.agg [.v (.bool r.1.Null), .v (.string r.1.Local), .v (.string r.1.Domain)], .fl .ro 1 (map (int .u8) r.2.1), .v (.bool r.2.2)]):=by
  unfold Sh.bundle_parsePath_ro at h
  refine yG 43 func79 fun g0 hn hio => ?_
  refine yxx hn 0 ?_
  refine yS (.box 43 [vb false,vs z0,vs z0]) 2 ⟨oA (op_alloc _ _ zr43)⟩ ?_
  refine yee [0,1,43,4] ?_
  refine ht_seq ?_
  obtain ⟨v1, hv1, h⟩:=zn h
  refine yx hn 1 ?_
  refine yS (.fl (.own 5) 1 (map (int .u8) [13,10])) 0 ⟨op_buildSlice _ _ 1 (.int .u8 0) (map (int .u8) [13,10]) [(0,.int .u8 13),(1,.int .u8 10)] underlying25 sz5 zr5 (fun _ V w o a hv hes=>by simp only [List.map_toArray,List.map_cons,List.map_nil]; try rfl) (litfill (by simp [Instr.fill,Value.cells]; rfl) (by simp [List.range,List.range.loop] <;> rfl)) (by simp [Value.oneCell']) rfl (by decide) (by decide) (by decide)⟩ ?_
  refine yk [14] [] ?_
  refine yt (15,.fl .ro 1 (map (int .u8) [13,10])) 0 ⟨op_conv_mark _ _ _ underlying25 underlying5 (by intro h; cases h)⟩ ?_
  refine yS (.tup [.fl .ro 1 (map (int .u8) v1.1),.fl .ro 1 (map (int .u8) v1.2.1),vb v1.2.2]) 0 ⟨op_callRG _ _ 43 34 _ _ rfl call34 rfl rfl (fun _ h=>h) (ok_bytes_Cut_ro mx c [13,10] _ hv1) rfl rfl⟩ ?_
  refine ym 6 ?_
  refine yee [1,43,4,7,5,8] ?_
  refine ht_seq ?_
  obtain ⟨v2, hv2, h⟩:=zn h
  obtain ⟨v3, hv3, h⟩:=zn h
  refine yx hn 1 ?_
  refine ys 1 ⟨lS hv2⟩ ?_
  refine ys 0 ⟨lk call101 (ok_strings_CutPrefix _ _ _ hv3)⟩ ?_
  refine ym 4 ?_
  refine yee [43,4,5,8,9,10] ?_
  refine ht_seq ?_
  refine ht_seq ?_
  refine ht_joinS h (fun (s10:Bool)=>[(43,.glob (GL mx)),(4,.box 43 [vb false,vs z0,vs z0]),(5,.fl .ro 1 (map (int .u8) v1.2.1)),(9,vs v3.1),(32,vb s10)]) ?_ ?_
  ·rintro s10 h
   refine pt_then ?_
   refine ht_cond _ rfl (fun hb14 => ?_) (fun hb14 => ?_)
   ·have h:=cond_t hb14 h
    refine yxx hn 0 ?_
    refine yS (.agg [vb false,vs z0,vs z0]) 0 ⟨op_build _ _ _ _ [1,1,1] _ _ underlying43 zr43 (fs43 _ underlying43) Src.nil rfl rfl rfl⟩ ?_
    refine yk [33,4] [] ?_
    refine yt (4,.box 43 [vb false,vs z0,vs z0]) 0 ⟨op_store_self _ _ _ 33 4 3 sz43 rfl rfl rfl rfl rfl (.eq _ (.eq _ (.eq _ (.nil _)))) rfl⟩ ?_
    refine yw [5] 2 ?_
    refine yee [43,4,5,6] ?_
    refine ht_ret ?_
    refine pt_pick [1,2,3] (by kernel_rfl) (es':=[(_,_),(_,_),(_,_)]) rfl ?_
    refine pt_sub (fs:=[(4,.box 43 [vb false,vs z0,vs z0]),(5,.fl (.own 5) 1 (map (int .u8) [])),(6,vb false)]) (.same _ (.sub _ (sub_nil 5 1) rfl (.same _ .nil))) ?_
    refine pt_frz 1 hio (es':=[(4, .box 43 [.v (.bool false),.v (.string (⟨#[]⟩:ByteArray)),.v (.string (⟨#[]⟩:ByteArray))]), (5, .fl .ro 1 (map (int .u8) [])), (6, .v (.bool false))]) rfl ?_
    refine pt_r_then ?_
    obtain rfl:=zi h
    exact pt_ret hio rfl (.cellA _ _ _ _ underlying43 rfl sz43 (.tmp _ _ (.tmp _ _ .nil))) rfl rfl
   ·have h:=cond_f hb14 h
    refine ht_skip ?_
    refine pt_then (ht_seq ?_)
    obtain ⟨v9, hv9, h⟩:=zn h
    refine yx hn 1 ?_
    refine ys 0 ⟨lg call102 (ok_path_Parse _ _ _ hv9) 43⟩ ?_
    refine ym 0 ?_
    refine yS (.agg [vb v9.1.Null,vs v9.1.Local,vs v9.1.Domain]) 3 ⟨op_extract_no _ _ _ _ _ _ rfl rfl (zl rfl) rfl rfl⟩ ?_
    refine yee [43,4,5,11] ?_
    refine yxx hn 4 ?_
    refine yk [39,4] [] ?_
    refine yt (4,.box 43 [vb v9.1.Null,vs v9.1.Local,vs v9.1.Domain]) 0 ⟨op_store_self _ _ _ 39 4 3 sz43 rfl rfl rfl rfl rfl (.eq _ (.eq _ (.eq _ (.nil _)))) rfl⟩ ?_
    refine yw [5] 2 ?_
    refine yee [43,4,5,6] ?_
    refine ht_ret ?_
    refine pt_pick [1,2,3] (by kernel_rfl) (es':=[(_,_),(_,_),(_,_)]) rfl ?_
    obtain rfl:=zi h
    exact pt_ret hio rfl (.cellA _ _ _ _ underlying43 rfl sz43 (.tmp _ _ (.tmp _ _ .nil))) rfl rfl
  ·intro u11 h hl12 hr13
   refine cond_some h (fun hg3_2 h => ?_) (fun hg3_2 h => ?_)
   ·refine yx hn 3 ?_
    refine yd hg3_2 3 ?_
    refine ye [43,4,5,9,32] ?_
    exact hl12 _ (zi h).symm
   ·refine yx hn 3 ?_
    refine yd hg3_2 3 ?_
    refine ye [43,4,5,9,32] ?_
    exact hl12 _ (zi h).symm
theorem ok_bytes_CutPrefix_ro (s:(List Int)) (prefix_:(List Int)) (r:((List Int)×Bool)) (h:Sh.bytes_CutPrefix_ro s prefix_=some r):FnOK Tryz.prog 80 [.fl .ro 1 (map (int .u8) s), .fl .ro 1 (map (int .u8) prefix_)] (.tup [.fl .ro 1 (map (int .u8) r.1), .v (.bool r.2)]):=by
  unfold Sh.bytes_CutPrefix_ro at h
  refine yO 15 func80 fun g0 hn hio => ?_
  refine yyy hn 2 [0,1] ?_
  refine ht_seq ?_
  refine ht_seq ?_
  obtain ⟨v1, hv1, h⟩:=zn h
  refine yx hn 2 ?_
  refine ys 1 ⟨lk call70 (ok_bytes_HasPrefix _ _ _ hv1)⟩ ?_
  refine yee [0,1,9] ?_
  refine ht_cond _ rfl (fun hb4 => ?_) (fun hb4 => ?_)
  ·have h:=cond_t hb4 h
   refine yyy hn 3 [4,5] ?_
   refine ht_ret ?_
   refine pt_r_then ?_
   obtain rfl:=zi h
   exact pt_ret hio rfl (.tmp _ _ (.tmp _ _ .nil)) rfl rfl
  ·have h:=cond_f hb4 h
   refine ht_skip ?_
   refine pt_then (ht_seq ?_)
   obtain ⟨v3, hv3, h⟩:=zn h
   refine yx hn 3 ?_
   refine yS (.fl .ro 1 (map (int .u8) v3)) 2 ⟨op_sl _ _ _ (prefix_.length:Int) (s.length:Int) _ underlying25 sz5 rfl rfl ⟨_,rfl⟩ rfl hv3⟩ ?_
   refine yee [4,5] ?_
   refine ht_ret ?_
   obtain rfl:=zi h
   exact pt_ret hio rfl (.tmp _ _ (.tmp _ _ .nil)) rfl rfl
theorem ok_bundle_parseMail_ro (mx:Int) (c:(List Int)) (r:(T_Mail×(List Int)×Bool)) (h:Sh.bundle_parseMail_ro c=some r):FnG Tryz.prog (GL mx) 59 [.fl .ro 1 (map (int .u8) c)] (.tup [.agg [.v (.bool r.1.From.Null), .v (.string r.1.From.Local), .v (.string r.1.From.Domain), .fl .ro 3 (flatten (map T_Path.enc r.1.To)), .fl .ro 1 (map (int .u8) r.1.Body), .v (.bool r.1.Quiet), .v (.string r.1.Helo), .v (.int .i64 r.1.At)], .fl .ro 1 (map (int .u8) r.2.1), .v (.bool r.2.2)]):=by
  unfold Sh.bundle_parseMail_ro at h
  refine yG 65 func59 fun g0 hn hio => ?_
  refine yxx hn 0 ?_
  refine yS (.box 46 [vb false,vs z0,vs z0,vz,vz,vb false,vs z0,vi 0]) 2 ⟨oA (op_alloc _ _ zr46)⟩ ?_
  refine yee [0,65,2] ?_
  refine ht_seq ?_
  obtain ⟨v1, hv1, h⟩:=zn h
  refine yx hn 1 ?_
  refine yS (.tup [.agg [vb v1.1.Null,vs v1.1.Local,vs v1.1.Domain],.fl .ro 1 (map (int .u8) v1.2.1),vb v1.2.2]) 0 ⟨op_callRG _ _ 65 79 _ _ rfl call79 rfl rfl (fun _ h=>h) (ok_bundle_parsePath_ro mx c (⟨#[77,65,73,76,32,70,82,79,77,58]⟩:ByteArray) _ hv1) rfl rfl⟩ ?_
  refine ym 0 ?_
  refine yS (.agg [vb v1.1.Null,vs v1.1.Local,vs v1.1.Domain]) 4 ⟨op_extract_no _ _ _ _ _ _ rfl rfl (zl rfl) rfl rfl⟩ ?_
  refine yw [0] 2 ?_
  refine yee [65,2,0,4] ?_
  refine ht_seq ?_
  refine yyy hn 2 [65,2,0,19] ?_
  refine ht_cond _ rfl (fun hb30 => ?_) (fun hb30 => ?_)
  ·have h:=cond_t hb30 h
   refine yxx hn 0 ?_
   refine yS (.agg [vb false,vs z0,vs z0,vz,vz,vb false,vs z0,vi 0]) 3 ⟨op_build _ _ _ _ [3,1,1,1,1,1] _ _ underlying46 zr46 (fs46 _ underlying46) Src.nil rfl rfl rfl⟩ ?_
   refine yee [65,2,3,4] ?_
   refine ht_ret ?_
   refine pt_pick [1,2,3] (by kernel_rfl) (es':=[(_,_),(_,_),(_,_)]) rfl ?_
   refine pt_sub (fs:=[(2,.box 46 [vb false,vs z0,vs z0,.fl (.own 43) 3 (flatten (map T_Path.enc [])),.fl (.own 5) 1 (map (int .u8) []),vb false,vs z0,vi 0]),(3,.fl (.own 5) 1 (map (int .u8) [])),(4,vb false)]) (.box _ _ (subs_cons (sub_refl _) (subs_cons (sub_refl _) (subs_cons (sub_refl _) (subs_cons (sub_nil 43 3) (subs_cons (sub_nil 5 1) (subs_cons (sub_refl _) (subs_cons (sub_refl _) (subs_cons (sub_refl _) (subs_nil))))))))) rfl (.sub _ (sub_nil 5 1) rfl (.same _ .nil))) ?_
   refine pt_frz 0 hio (es':=[(2, .box 46 [.v (.bool false),.v (.string (⟨#[]⟩:ByteArray)),.v (.string (⟨#[]⟩:ByteArray)),.fl .ro 3 (flatten (map T_Path.enc [])),.fl .ro 1 (map (int .u8) []),.v (.bool false),.v (.string (⟨#[]⟩:ByteArray)),.v (.int .i64 0)]), (3, .fl (.own 5) 1 (map (int .u8) [])), (4, .v (.bool false))]) rfl ?_
   refine pt_frz 1 hio (es':=[(2, .box 46 [.v (.bool false),.v (.string (⟨#[]⟩:ByteArray)),.v (.string (⟨#[]⟩:ByteArray)),.fl .ro 3 (flatten (map T_Path.enc [])),.fl .ro 1 (map (int .u8) []),.v (.bool false),.v (.string (⟨#[]⟩:ByteArray)),.v (.int .i64 0)]), (3, .fl .ro 1 (map (int .u8) [])), (4, .v (.bool false))]) rfl ?_
   refine pt_r_then ?_
   obtain rfl:=zi h
   exact pt_ret hio rfl (.cellA _ _ _ _ underlying46 rfl sz46 (.tmp _ _ (.tmp _ _ .nil))) rfl rfl
  ·have h:=cond_f hb30 h
   refine ht_skip ?_
   refine pt_then (ht_seq ?_)
   refine ht_pick [0,1,2] (by kernel_rfl) (es':=[(_,_),(_,_),(_,_)]) rfl ?_
   refine ht_sub (fs:=[(65,.glob (GL mx)),(2,.box 46 [vb v1.1.Null,vs v1.1.Local,vs v1.1.Domain,.fl (.own 43) 3 (flatten (map T_Path.enc [])),vz,vb false,vs z0,vi 0]),(0,.fl .ro 1 (map (int .u8) v1.2.1))]) (.same _ (.box _ _ (subs_cons (sub_refl _) (subs_cons (sub_refl _) (subs_cons (sub_refl _) (subs_cons (sub_nil 43 3) (subs_cons (sub_refl _) (subs_cons (sub_refl _) (subs_cons (sub_refl _) (subs_cons (sub_refl _) (subs_nil))))))))) rfl (.same _ .nil))) ?_
   refine ht_loopS h (fun ((s37,s38):(List T_Path)×(List Int))=>[(65,.glob (GL mx)),(2,.box 46 [vb v1.1.Null,vs v1.1.Local,vs v1.1.Domain,.fl (.own 43) 3 (flatten (map T_Path.enc s37)),vz,vb false,vs z0,vi 0]),(0,.fl .ro 1 (map (int .u8) s38))]) (fun ((s41,s42):(List T_Path)×(List Int))=>[(65,.glob (GL mx)),(2,.box 46 [vb v1.1.Null,vs v1.1.Local,vs v1.1.Domain,.fl (.own 43) 3 (flatten (map T_Path.enc s41)),vz,vb false,vs z0,vi 0]),(0,.fl .ro 1 (map (int .u8) s42))]) ?_ ?_
   ·rintro ⟨s41, s42⟩ h
    refine pt_then (ht_seq ?_)
    obtain ⟨v25, hv25, h⟩:=zn h
    refine yx hn 1 ?_
    refine yS (.fl (.own 5) 1 (map (int .u8) [68,65,84,65,13,10])) 0 ⟨op_buildSlice _ _ 1 (.int .u8 0) (map (int .u8) [68,65,84,65,13,10]) [(0,.int .u8 68),(1,.int .u8 65),(2,.int .u8 84),(3,.int .u8 65),(4,.int .u8 13),(5,.int .u8 10)] underlying25 sz5 zr5 (fun _ V w o a hv hes=>by simp only [List.map_toArray,List.map_cons,List.map_nil]; try rfl) (litfill (by simp [Instr.fill,Value.cells]; rfl) (by simp [List.range,List.range.loop] <;> rfl)) (by simp [Value.oneCell']) rfl (by decide) (by decide) (by decide)⟩ ?_
    refine yk [42] [] ?_
    refine yt (43,.fl .ro 1 (map (int .u8) [68,65,84,65,13,10])) 0 ⟨op_conv_mark _ _ _ underlying25 underlying5 (by intro h; cases h)⟩ ?_
    refine ys 0 ⟨lr call80 (ok_bytes_CutPrefix_ro _ _ _ hv25)⟩ ?_
    refine ym 2 ?_
    refine yw [0] 2 ?_
    refine yee [65,2,0,4] ?_
    refine ht_seq ?_
    refine yyy hn 2 [65,2,0,48] ?_
    refine ht_cond _ rfl (fun hb51 => ?_) (fun hb51 => ?_)
    ·have h:=cond_t hb51 h
     refine yxx hn 0 ?_
     refine yS (.agg [vb false,vs z0,vs z0,vz,vz,vb false,vs z0,vi 0]) 3 ⟨op_build _ _ _ _ [3,1,1,1,1,1] _ _ underlying46 zr46 (fs46 _ underlying46) Src.nil rfl rfl rfl⟩ ?_
     refine yee [65,2,3,4] ?_
     refine ht_ret ?_
     refine pt_pick [1,2,3] (by kernel_rfl) (es':=[(_,_),(_,_),(_,_)]) rfl ?_
     refine pt_sub (fs:=[(2,.box 46 [vb false,vs z0,vs z0,.fl (.own 43) 3 (flatten (map T_Path.enc [])),.fl (.own 5) 1 (map (int .u8) []),vb false,vs z0,vi 0]),(3,.fl (.own 5) 1 (map (int .u8) [])),(4,vb false)]) (.box _ _ (subs_cons (sub_refl _) (subs_cons (sub_refl _) (subs_cons (sub_refl _) (subs_cons (sub_nil 43 3) (subs_cons (sub_nil 5 1) (subs_cons (sub_refl _) (subs_cons (sub_refl _) (subs_cons (sub_refl _) (subs_nil))))))))) rfl (.sub _ (sub_nil 5 1) rfl (.same _ .nil))) ?_
     refine pt_frz 0 hio (es':=[(2, .box 46 [.v (.bool false),.v (.string (⟨#[]⟩:ByteArray)),.v (.string (⟨#[]⟩:ByteArray)),.fl .ro 3 (flatten (map T_Path.enc [])),.fl .ro 1 (map (int .u8) []),.v (.bool false),.v (.string (⟨#[]⟩:ByteArray)),.v (.int .i64 0)]), (3, .fl (.own 5) 1 (map (int .u8) [])), (4, .v (.bool false))]) rfl ?_
     refine pt_frz 1 hio (es':=[(2, .box 46 [.v (.bool false),.v (.string (⟨#[]⟩:ByteArray)),.v (.string (⟨#[]⟩:ByteArray)),.fl .ro 3 (flatten (map T_Path.enc [])),.fl .ro 1 (map (int .u8) []),.v (.bool false),.v (.string (⟨#[]⟩:ByteArray)),.v (.int .i64 0)]), (3, .fl .ro 1 (map (int .u8) [])), (4, .v (.bool false))]) rfl ?_
     refine pt_r_then ?_
     obtain rfl:=zi h
     exact pt_ret hio rfl (.cellA _ _ _ _ underlying46 rfl sz46 (.tmp _ _ (.tmp _ _ .nil))) rfl rfl
    ·have h:=cond_f hb51 h
     refine ht_skip ?_
     refine pt_then (ht_seq ?_)
     obtain ⟨v27, hv27, h⟩:=zn h
     refine yx hn 1 ?_
     refine ys 0 ⟨lg call81 (ok_dots_Strip _ _ _ hv27) 65⟩ ?_
     refine ym 0 ?_
     refine yx_ 2 ?_
     refine ya 2 ?_
     refine yee [65,2,0,8,9,10] ?_
     refine ht_seq ?_
     refine yyy hn 2 [65,2,0,8,9,57] ?_
     refine ht_cond _ rfl (fun hb52 => ?_) (fun hb52 => ?_)
     ·have h:=cond_t hb52 h
      refine yxx hn 0 ?_
      refine yS (.agg [vb false,vs z0,vs z0,vz,vz,vb false,vs z0,vi 0]) 3 ⟨op_build _ _ _ _ [3,1,1,1,1,1] _ _ underlying46 zr46 (fs46 _ underlying46) Src.nil rfl rfl rfl⟩ ?_
      refine yee [65,2,3,4] ?_
      refine ht_ret ?_
      refine pt_pick [1,2,3] (by kernel_rfl) (es':=[(_,_),(_,_),(_,_)]) rfl ?_
      refine pt_sub (fs:=[(2,.box 46 [vb false,vs z0,vs z0,.fl (.own 43) 3 (flatten (map T_Path.enc [])),.fl (.own 5) 1 (map (int .u8) []),vb false,vs z0,vi 0]),(3,.fl (.own 5) 1 (map (int .u8) [])),(4,vb false)]) (.box _ _ (subs_cons (sub_refl _) (subs_cons (sub_refl _) (subs_cons (sub_refl _) (subs_cons (sub_nil 43 3) (subs_cons (sub_nil 5 1) (subs_cons (sub_refl _) (subs_cons (sub_refl _) (subs_cons (sub_refl _) (subs_nil))))))))) rfl (.sub _ (sub_nil 5 1) rfl (.same _ .nil))) ?_
      refine pt_frz 0 hio (es':=[(2, .box 46 [.v (.bool false),.v (.string (⟨#[]⟩:ByteArray)),.v (.string (⟨#[]⟩:ByteArray)),.fl .ro 3 (flatten (map T_Path.enc [])),.fl .ro 1 (map (int .u8) []),.v (.bool false),.v (.string (⟨#[]⟩:ByteArray)),.v (.int .i64 0)]), (3, .fl (.own 5) 1 (map (int .u8) [])), (4, .v (.bool false))]) rfl ?_
      refine pt_frz 1 hio (es':=[(2, .box 46 [.v (.bool false),.v (.string (⟨#[]⟩:ByteArray)),.v (.string (⟨#[]⟩:ByteArray)),.fl .ro 3 (flatten (map T_Path.enc [])),.fl .ro 1 (map (int .u8) []),.v (.bool false),.v (.string (⟨#[]⟩:ByteArray)),.v (.int .i64 0)]), (3, .fl .ro 1 (map (int .u8) [])), (4, .v (.bool false))]) rfl ?_
      refine pt_r_then ?_
      obtain rfl:=zi h
      exact pt_ret hio rfl (.cellA _ _ _ _ underlying46 rfl sz46 (.tmp _ _ (.tmp _ _ .nil))) rfl rfl
     ·have h:=cond_f hb52 h
      refine ht_skip ?_
      refine pt_then ?_
      refine yxx hn 0 ?_
      refine ym 1 ?_
      refine yk [59,2] [60] ?_
      refine yt (2,.box 46 [vb v1.1.Null,vs v1.1.Local,vs v1.1.Domain,.fl (.own 43) 3 (flatten (map T_Path.enc s41)),.fl (.own 5) 1 (map (int .u8) v27.1),vb false,vs z0,vi 0]) 0 ⟨op_store_take _ _ _ _ _ _ _ _ sz25 rfl rfl rfl (zl rfl) rfl rfl⟩ ?_
      refine yee [65,2,0,9] ?_
      refine ht_seq ?_
      obtain ⟨v29, hv29, h⟩:=zn h
      refine wb [[2],[0],[9]] ?_
      refine wN [62,63] ?_
      refine wS (.fl .ro 1 (map (int .u8) v29)) [] ⟨op_sl _ _ _ v27.2.1 (v25.1.length:Int) _ underlying25 sz5 rfl rfl ⟨_,rfl⟩ rfl hv29⟩ ?_
      refine wK [61,2] [] ?_
      refine wt [(2,.box 46 [vb v1.1.Null,vs v1.1.Local,vs v1.1.Domain,.fl (.own 43) 3 (flatten (map T_Path.enc s41)),.fl (.own 5) 1 (map (int .u8) v27.1),vb false,vs z0,vi 0])] [[64],[]] ⟨op_store_self _ _ _ 61 2 8 sz46 rfl rfl rfl rfl rfl (.eq _ (.eq _ (.eq _ (.same _ (.same _ (.eq _ (.eq _ (.eq _ (.nil _))))))))) rfl⟩ ?_
      refine wee hn [65,2,3,4] ?_
      refine ht_ret ?_
      refine pt_pick [1,2,3] (by kernel_rfl) (es':=[(_,_),(_,_),(_,_)]) rfl ?_
      refine pt_frz 0 hio (es':=[(2, .box 46 [.v (.bool v1.1.Null),.v (.string v1.1.Local),.v (.string v1.1.Domain),.fl .ro 3 (flatten (map T_Path.enc s41)),.fl .ro 1 (map (int .u8) v27.1),.v (.bool false),.v (.string (⟨#[]⟩:ByteArray)),.v (.int .i64 0)]), (3, .fl .ro 1 (map (int .u8) v29)), (4, .v (.bool true))]) rfl ?_
      obtain rfl:=zi h
      exact pt_ret hio rfl (.cellA _ _ _ _ underlying46 rfl sz46 (.tmp _ _ (.tmp _ _ .nil))) rfl rfl
   ·rintro u43 hl44 hr45 ⟨s37, s38⟩ rr48 h ho46
    refine ht_seq ?_
    refine yyy hn 4 [65,2,0,24] ?_
    refine ht_cond _ rfl (fun hb49 => ?_) (fun hb49 => ?_)
    ·have h:=cond_t hb49 h
     refine ht_skip ?_
     refine pt_then ?_
     refine ht_block ?_
     refine ht_seq ?_
     obtain ⟨v4, hv4, h⟩:=zn h
     refine yx hn 1 ?_
     refine yS (.tup [.agg [vb v4.1.Null,vs v4.1.Local,vs v4.1.Domain],.fl .ro 1 (map (int .u8) v4.2.1),vb v4.2.2]) 0 ⟨op_callRG _ _ 65 79 _ _ rfl call79 rfl rfl (fun _ h=>h) (ok_bundle_parsePath_ro mx s38 (⟨#[82,67,80,84,32,84,79,58]⟩:ByteArray) _ hv4) rfl rfl⟩ ?_
     refine ym 0 ?_
     refine yS (.agg [vb v4.1.Null,vs v4.1.Local,vs v4.1.Domain]) 2 ⟨op_extract_no _ _ _ _ _ _ rfl rfl (zl rfl) rfl rfl⟩ ?_
     refine yS (.box 43 [vb false,vs z0,vs z0]) 3 ⟨oA (op_alloc _ _ zr43)⟩ ?_
     refine yee [65,2,0,5,6,7] ?_
     refine ht_seq ?_
     refine yyy hn 2 [65,2,0,5,6,32] ?_
     refine ht_cond _ rfl (fun hb50 => ?_) (fun hb50 => ?_)
     ·have h:=cond_t hb50 h
      refine ht_exit ?_
      refine pt_x_then ?_
      refine pt_x_out (by decide) ?_
      refine pt_x_then ?_
      refine pt_x_in ?_
      refine pt_pick [0,1,2] (by kernel_rfl) (es':=[(_,_),(_,_),(_,_)]) rfl ?_
      exact hl44 _ (ho46 _ (zi h).symm).symm
     ·have h:=cond_f hb50 h
      refine ht_skip ?_
      refine pt_then (ht_seq ?_)
      obtain ⟨v6, hv6, h⟩:=zn h
      refine yx hn 3 ?_
      refine yS (.fl (.own 43) 3 (flatten (map T_Path.enc [v4.1]))) 0 ⟨op_buildSlice _ _ 3 (.agg #[.bool false,.string ByteArray.empty,.string ByteArray.empty]) (flatten (map T_Path.enc [v4.1])) [(0,.agg #[.bool v4.1.Null,.string v4.1.Local,.string v4.1.Domain])] underlying44 sz43 zr43 (fun _ V w o a hv hes=>by have e0:=agg_v (ys:=[.bool v4.1.Null,.string v4.1.Local,.string v4.1.Domain]) hv hes (x := .tmp 35) rfl; simp only [List.map_toArray,List.map_cons,List.map_nil,e0]; try rfl) (litfill (by simp [Instr.fill,Value.cells]; rfl) (by simp [List.range,List.range.loop,T_Path.enc] <;> rfl)) (by simp [Value.oneCell',T_Path.enc]) rfl (by decide) (by decide) (by decide)⟩ ?_
      refine yk [2] [34,36] ?_
      refine ytt (2,.box 46 [vb v1.1.Null,vs v1.1.Local,vs v1.1.Domain,.any,vz,vb false,vs z0,vi 0]) (37,.fl (.own 43) 3 (flatten (map T_Path.enc v6))) 1 ⟨op_app_cell _ _ _ _ _ _ el44 rfl rfl (zl rfl) rfl (flat_len T_Path.len _) (flat_len T_Path.len _) hv6 (flat_app (app_eq hv6)) (Nat.ne_of_beq_eq_false rfl) rfl rfl⟩ ?_
      refine yw [34] 0 ?_
      refine yk [37,2] [38] ?_
      refine yt (2,.box 46 [vb v1.1.Null,vs v1.1.Local,vs v1.1.Domain,.fl (.own 43) 3 (flatten (map T_Path.enc v6)),vz,vb false,vs z0,vi 0]) 0 ⟨op_store_take _ _ _ _ _ _ _ _ sz44 rfl rfl rfl (zl rfl) rfl rfl⟩ ?_
      refine yee [65,2,6] ?_
      refine yy hn 2 [65,2,0] ?_
      refine pt_inb ?_
      exact pt_next _ (zi h).symm rfl
    ·have h:=cond_f hb49 h
     refine ht_exit ?_
     refine pt_x_then ?_
     refine pt_x_then ?_
     refine pt_x_in ?_
     refine pt_pick [0,1,2] (by kernel_rfl) (es':=[(_,_),(_,_),(_,_)]) rfl ?_
     exact hl44 _ (ho46 _ (zi h).symm).symm
theorem ok_bundle_parseMails_ro (mx:Int) (c:(List Int)) (r:(List T_Mail)) (h:Sh.bundle_parseMails_ro c=some r):FnG Tryz.prog (GL mx) 36 [.fl .ro 1 (map (int .u8) c)] (.fr (.own 46) false 8 (flatten (map T_Mail.ienc r))):=by
  unfold Sh.bundle_parseMails_ro at h
  refine yG 24 func36 fun g0 hn hio => ?_
  refine yyy hn 1 [0,24] ?_
  refine yyy hn 1 [0,24,3] ?_
  refine ht_seq ?_
  refine ht_sub (fs:=[(0,.fl .ro 1 (map (int .u8) c)),(24,.glob (GL mx)),(3,.fr (.own 46) false 8 (flatten (map T_Mail.ienc [])))]) (.same _ (.same _ (.sub _ (sub_nil_fr 46 false 8) rfl .nil))) ?_
  refine ht_loopS h (fun ((s9,s10):(List Int)×(List T_Mail))=>[(0,.fl .ro 1 (map (int .u8) s9)),(24,.glob (GL mx)),(3,.fr (.own 46) false 8 (flatten (map T_Mail.ienc s10)))]) (fun (s13:(List T_Mail))=>[(24,.glob (GL mx)),(3,.fr (.own 46) false 8 (flatten (map T_Mail.ienc s13)))]) ?_ ?_
  ·rintro s13 h
   refine pt_then ?_
   refine yxx hn 0 ?_
   refine ym 0 ?_
   refine ya 0 ?_
   refine yee [24,2] ?_
   refine ht_ret ?_
   refine pt_pick [1] (by kernel_rfl) (es':=[(_,_)]) rfl ?_
   obtain rfl:=zi h
   exact pt_ret hio rfl (.tmp _ _ .nil) rfl rfl
  ·rintro u14 hl15 hr16 ⟨s9, s10⟩ rr19 h ho17
   refine ht_seq ?_
   refine yyy hn 3 [0,24,3,9] ?_
   refine ht_cond _ rfl (fun hb20 => ?_) (fun hb20 => ?_)
   ·have h:=cond_t hb20 h
    refine ht_skip ?_
    refine pt_then ?_
    refine ht_block ?_
    refine ht_seq ?_
    obtain ⟨v2, hv2, h⟩:=zn h
    refine yx hn 1 ?_
    refine yS (.tup [.agg [vb v2.1.From.Null,vs v2.1.From.Local,vs v2.1.From.Domain,.fl .ro 3 (flatten (map T_Path.enc v2.1.To)),.fl .ro 1 (map (int .u8) v2.1.Body),vb v2.1.Quiet,vs v2.1.Helo,vi v2.1.At],.fl .ro 1 (map (int .u8) v2.2.1),vb v2.2.2]) 0 ⟨op_callRG _ _ 24 59 _ _ rfl call59 rfl rfl (fun _ h=>h) (ok_bundle_parseMail_ro mx s9 _ hv2) rfl rfl⟩ ?_
    refine ym 0 ?_
    refine yS (.agg [vb v2.1.From.Null,vs v2.1.From.Local,vs v2.1.From.Domain,.fl .ro 3 (flatten (map T_Path.enc v2.1.To)),.fl .ro 1 (map (int .u8) v2.1.Body),vb v2.1.Quiet,vs v2.1.Helo,vi v2.1.At]) 2 ⟨op_extract_no _ _ _ _ _ _ rfl rfl (zl rfl) rfl rfl⟩ ?_
    refine yS (.box 46 [vb false,vs z0,vs z0,vz,vz,vb false,vs z0,vi 0]) 3 ⟨oA (op_alloc _ _ zr46)⟩ ?_
    refine yee [24,3,4,5,6] ?_
    refine ht_seq ?_
    refine yyy hn 2 [24,3,4,5,17] ?_
    refine ht_cond _ rfl (fun hb21 => ?_) (fun hb21 => ?_)
    ·have h:=cond_t hb21 h
     refine ht_exit ?_
     refine pt_x_then ?_
     refine pt_x_out (by decide) ?_
     refine pt_x_then ?_
     refine pt_x_in ?_
     refine pt_pick [0,1] (by kernel_rfl) (es':=[(_,_),(_,_)]) rfl ?_
     exact hl15 _ (ho17 _ (zi h).symm).symm
    ·have h:=cond_f hb21 h
     refine ht_skip ?_
     refine pt_then (ht_seq ?_)
     obtain ⟨v4, hv4, h⟩:=zn h
     refine yx hn 0 ?_
     refine ym 1 ?_
     refine yS (.fr (.own 46) false 8 (flatten (map T_Mail.ienc [(T_Mail.mk (T_Path.mk v2.1.From.Null v2.1.From.Local v2.1.From.Domain) v2.1.To v2.1.Body v2.1.Quiet v2.1.Helo v2.1.At)]))) 0 ⟨op_build1_fr _ _ _ 8 (.agg #[.bool false,.string ByteArray.empty,.string ByteArray.empty,.slice none 0 0,.slice none 0 0,.bool false,.string ByteArray.empty,.int .i64 0]) false _ _ underlying22 sz46 zr46 rfl rfl (.cons (.v _) (.cons (.v _) (.cons (.v _) (.cons (.ro _ _ rfl) (.cons (.ro _ _ rfl) (.cons (.v _) (.cons (.v _) (.cons (.v _) (.nil))))))))) rfl (by decide) (by decide)⟩ ?_
     refine yk [18] [20] ?_
     refine ytt (18,.any) (21,.fr (.own 46) false 8 (flatten (map T_Mail.ienc v4))) 0 ⟨op_app_fr _ _ _ _ _ el22 rfl rfl (gflat_len T_Mail.ilen _) (gflat_len T_Mail.ilen _) hv4 (gflat_app (app_eq hv4)) (by decide) (by decide)⟩ ?_
     refine ya 0 ?_
     refine yee [24,5,3] ?_
     refine yy hn 2 [24,3,0] ?_
     refine pt_inb ?_
     refine pt_pick [2,0,1] (by kernel_rfl) (es':=[(_,_),(_,_),(_,_)]) rfl ?_
     exact pt_next _ (zi h).symm rfl
   ·have h:=cond_f hb20 h
    refine ht_exit ?_
    refine pt_x_then ?_
    refine pt_x_then ?_
    refine pt_x_in ?_
    refine pt_pick [1,2] (by kernel_rfl) (es':=[(_,_),(_,_)]) rfl ?_
    exact hl15 _ (ho17 _ (zi h).symm).symm
theorem ok_bundle_Read_ro (mx:Int) (t:(List Int)) (r:(T_Bundle×Int)) (h:Sh.bundle_Read_ro t=some r):FnG Tryz.prog (GL mx) 15 [.fl .ro 1 (map (int .u8) t)] (.tup [.agg [.v (.int .i64 r.1.Origin), .v (.int .i64 r.1.Number), .fr (.own 46) false 8 (flatten (map T_Mail.ienc r.1.Mails))], .v (.int .i64 r.2)]):=by
  unfold Sh.bundle_Read_ro at h
  refine yG 68 func15 fun g0 hn hio => ?_
  refine yxx hn 0 ?_
  refine yS (.box 24 [vi 0,vi 0,vz]) 1 ⟨oA (op_alloc _ _ zr24)⟩ ?_
  refine yee [0,68,2] ?_
  refine ht_seq ?_
  obtain ⟨v1, hv1, h⟩:=zn h
  refine yx hn 1 ?_
  refine yS (.fl (.own 5) 1 (map (int .u8) [13,10])) 0 ⟨op_buildSlice _ _ 1 (.int .u8 0) (map (int .u8) [13,10]) [(0,.int .u8 13),(1,.int .u8 10)] underlying25 sz5 zr5 (fun _ V w o a hv hes=>by simp only [List.map_toArray,List.map_cons,List.map_nil]; try rfl) (litfill (by simp [Instr.fill,Value.cells]; rfl) (by simp [List.range,List.range.loop] <;> rfl)) (by simp [Value.oneCell']) rfl (by decide) (by decide) (by decide)⟩ ?_
  refine yk [14] [] ?_
  refine yt (15,.fl .ro 1 (map (int .u8) [13,10])) 0 ⟨op_conv_mark _ _ _ underlying25 underlying5 (by intro h; cases h)⟩ ?_
  refine yS (.tup [.fl .ro 1 (map (int .u8) v1.1),.fl .ro 1 (map (int .u8) v1.2.1),vb v1.2.2]) 0 ⟨op_callRG _ _ 68 34 _ _ rfl call34 rfl rfl (fun _ h=>h) (ok_bytes_Cut_ro mx t [13,10] _ hv1) rfl rfl⟩ ?_
  refine ym 6 ?_
  refine yee [0,68,2,4,5,6] ?_
  refine ht_seq ?_
  obtain ⟨v2, hv2, h⟩:=zn h
  obtain ⟨v3, hv3, h⟩:=zn h
  refine yx hn 1 ?_
  refine ys 0 ⟨lS hv2⟩ ?_
  refine ys 0 ⟨lk call35 (ok_bundle_parseHeader _ _ hv3)⟩ ?_
  refine ym 0 ?_
  refine yS (.agg [vi v3.1.origin,vi v3.1.number,vi v3.1.size,vi v3.1.sum]) 1 ⟨op_extract_no _ _ _ _ _ _ rfl rfl (zl rfl) rfl rfl⟩ ?_
  refine yS (.box 66 [vi 0,vi 0,vi 0,vi 0]) 2 ⟨oA (op_alloc _ _ zr66)⟩ ?_
  refine yee [0,68,2,5,6,7,8] ?_
  refine ht_seq ?_
  refine ht_seq ?_
  refine ht_joinS h (fun (s4:Bool)=>[(0,.fl .ro 1 (map (int .u8) t)),(68,.glob (GL mx)),(2,.box 24 [vi 0,vi 0,vz]),(5,.fl .ro 1 (map (int .u8) v1.2.1)),(7,.box 66 [vi v3.1.origin,vi v3.1.number,vi v3.1.size,vi v3.1.sum]),(38,vb s4)]) ?_ ?_
  ·rintro s4 h
   refine pt_then ?_
   refine ht_cond _ rfl (fun hb8 => ?_) (fun hb8 => ?_)
   ·have h:=cond_t hb8 h
    refine yxx hn 0 ?_
    refine yS (.agg [vi 0,vi 0,vz]) 0 ⟨op_build _ _ _ _ [1,1,1] _ _ underlying24 zr24 (fs24 _ underlying24) Src.nil rfl rfl rfl⟩ ?_
    refine yk [39,2] [] ?_
    refine yt (2,.box 24 [vi 0,vi 0,vz]) 1 ⟨op_store_self _ _ _ 39 2 3 sz24 rfl rfl rfl rfl rfl (.eq _ (.eq _ (.eq _ (.nil _)))) rfl⟩ ?_
    refine yee [68,2,3] ?_
    refine ht_ret ?_
    refine pt_pick [1,2] (by kernel_rfl) (es':=[(_,_),(_,_)]) rfl ?_
    refine pt_sub (fs:=[(2,.box 24 [vi 0,vi 0,.fr (.own 46) false 8 (flatten (map T_Mail.ienc []))]),(3,vi 5)]) (.box _ _ (subs_cons (sub_refl _) (subs_cons (sub_refl _) (subs_cons (sub_nil_fr 46 false 8) (subs_nil)))) rfl (.same _ .nil)) ?_
    refine pt_r_then ?_
    obtain rfl:=zi h
    exact pt_ret hio rfl (.cellA _ _ _ _ underlying24 rfl sz24 (.tmp _ _ .nil)) rfl rfl
   ·have h:=cond_f hb8 h
    refine ht_skip ?_
    refine pt_then (ht_seq ?_)
    refine ht_seq ?_
    obtain ⟨v9, hv9, h⟩:=zn h
    refine wb [[5]] ?_
    refine wN [40] ?_
    refine wo [[7],[42,7],[41,43]] ⟨lk call31 (ok_sums_Long _ _ hv9)⟩ ?_
    refine wee hn [0,68,2,5,7,44] ?_
    refine ht_cond _ rfl (fun hb10 => ?_) (fun hb10 => ?_)
    ·have h:=cond_t hb10 h
     refine yxx hn 0 ?_
     refine yS (.agg [vi 0,vi 0,vz]) 0 ⟨op_build _ _ _ _ [1,1,1] _ _ underlying24 zr24 (fs24 _ underlying24) Src.nil rfl rfl rfl⟩ ?_
     refine yk [45,2] [] ?_
     refine yt (2,.box 24 [vi 0,vi 0,vz]) 1 ⟨op_store_self _ _ _ 45 2 3 sz24 rfl rfl rfl rfl rfl (.eq _ (.eq _ (.eq _ (.nil _)))) rfl⟩ ?_
     refine yee [68,2,3] ?_
     refine ht_ret ?_
     refine pt_pick [1,2] (by kernel_rfl) (es':=[(_,_),(_,_)]) rfl ?_
     refine pt_sub (fs:=[(2,.box 24 [vi 0,vi 0,.fr (.own 46) false 8 (flatten (map T_Mail.ienc []))]),(3,vi 6)]) (.box _ _ (subs_cons (sub_refl _) (subs_cons (sub_refl _) (subs_cons (sub_nil_fr 46 false 8) (subs_nil)))) rfl (.same _ .nil)) ?_
     refine pt_r_then ?_
     obtain rfl:=zi h
     exact pt_ret hio rfl (.cellA _ _ _ _ underlying24 rfl sz24 (.tmp _ _ .nil)) rfl rfl
    ·have h:=cond_f hb10 h
     refine ht_skip ?_
     refine pt_then (ht_seq ?_)
     obtain ⟨v11, hv11, h⟩:=zn h
     refine wb [[7],[46,7],[7],[48,7],[5]] ?_
     refine wN [50,68] ?_
     refine wS (.fr (.own 46) false 8 (flatten (map T_Mail.ienc v11))) [] ⟨op_callRG _ _ 68 36 _ _ rfl call36 rfl rfl (fun _ h=>h) (ok_bundle_parseMails_ro mx v1.2.1 _ hv11) rfl rfl⟩ ?_
     refine wK [51] [47,49] ?_
     refine wt [(52,.agg [vi v3.1.origin,vi v3.1.number,.fr (.own 46) false 8 (flatten (map T_Mail.ienc v11))])] [] ⟨op_build _ _ _ _ [1,1,1] _ _ underlying24 zr24 (fs24 _ underlying24) (.copy _ (.copy _ (.take _ _ Src.nil))) rfl rfl rfl⟩ ?_
     refine wN [] ?_
     refine wS (.box 24 [vi 0,vi 0,vz]) [] ⟨oA (op_alloc _ _ zr24)⟩ ?_
     refine wK [52,9] [] ?_
     refine wt [(9,.box 24 [vi v3.1.origin,vi v3.1.number,.fr (.own 46) false 8 (flatten (map T_Mail.ienc v11))])] [] ⟨op_store_take _ _ _ _ _ _ _ _ sz24 rfl rfl rfl (zl rfl) rfl rfl⟩ ?_
     refine wee hn [0,68,2,9] ?_
     refine ht_seq ?_
     obtain ⟨v12, hv12, h⟩:=zn h
     refine yx hn 1 ?_
     refine ys 0 ⟨lg call13 (ok_bundle_Bytes _ _ _ hv12) 68⟩ ?_
     refine ym 0 ?_
     refine yx_ 1 ?_
     refine ya 1 ?_
     refine yee [0,68,2,9,10,11] ?_
     refine ht_seq ?_
     refine ht_seq ?_
     refine ht_joinS h (fun (s14:Bool)=>[(68,.glob (GL mx)),(2,.box 24 [vi 0,vi 0,vz]),(9,.box 24 [vi v3.1.origin,vi v3.1.number,.fr (.own 46) false 8 (flatten (map T_Mail.ienc v11))]),(65,vb s14)]) ?_ ?_
     ·rintro s14 h
      refine pt_then ?_
      refine ht_cond _ rfl (fun hb18 => ?_) (fun hb18 => ?_)
      ·have h:=cond_t hb18 h
       refine yxx hn 0 ?_
       refine yS (.agg [vi 0,vi 0,vz]) 0 ⟨op_build _ _ _ _ [1,1,1] _ _ underlying24 zr24 (fs24 _ underlying24) Src.nil rfl rfl rfl⟩ ?_
       refine yk [66,2] [] ?_
       refine yt (2,.box 24 [vi 0,vi 0,vz]) 1 ⟨op_store_self _ _ _ 66 2 3 sz24 rfl rfl rfl rfl rfl (.eq _ (.eq _ (.eq _ (.nil _)))) rfl⟩ ?_
       refine yee [68,2,3] ?_
       refine ht_ret ?_
       refine pt_pick [1,2] (by kernel_rfl) (es':=[(_,_),(_,_)]) rfl ?_
       refine pt_sub (fs:=[(2,.box 24 [vi 0,vi 0,.fr (.own 46) false 8 (flatten (map T_Mail.ienc []))]),(3,vi 5)]) (.box _ _ (subs_cons (sub_refl _) (subs_cons (sub_refl _) (subs_cons (sub_nil_fr 46 false 8) (subs_nil)))) rfl (.same _ .nil)) ?_
       refine pt_r_then ?_
       obtain rfl:=zi h
       exact pt_ret hio rfl (.cellA _ _ _ _ underlying24 rfl sz24 (.tmp _ _ .nil)) rfl rfl
      ·have h:=cond_f hb18 h
       refine ht_skip ?_
       refine pt_then ?_
       refine yxx hn 0 ?_
       refine yk [9] [] ?_
       refine yt (67,.agg [vi v3.1.origin,vi v3.1.number,.fr (.own 46) false 8 (flatten (map T_Mail.ienc v11))]) 0 ⟨op_loadA_take _ _ _ _ underlying24 rfl sz24 rfl rfl⟩ ?_
       refine yk [67,2] [] ?_
       refine yt (2,.box 24 [vi v3.1.origin,vi v3.1.number,.fr (.own 46) false 8 (flatten (map T_Mail.ienc v11))]) 1 ⟨op_store_take _ _ _ _ _ _ _ _ sz24 rfl rfl rfl (zl rfl) rfl rfl⟩ ?_
       refine yee [68,2,3] ?_
       refine ht_ret ?_
       refine pt_pick [1,2] (by kernel_rfl) (es':=[(_,_),(_,_)]) rfl ?_
       obtain rfl:=zi h
       exact pt_ret hio rfl (.cellA _ _ _ _ underlying24 rfl sz24 (.tmp _ _ .nil)) rfl rfl
     ·intro u15 h hl16 hr17
      refine cond_some h (fun hg9_2 h => ?_) (fun hg9_2 h => ?_)
      ·refine yx hn 3 ?_
       refine yd hg9_2 5 ?_
       refine ye [68,2,9,65] ?_
       exact hl16 _ (zi h).symm
      ·obtain ⟨v13, hv13, h⟩:=zn h
       refine yx hn 3 ?_
       refine yd hg9_2 0 ?_
       refine ym 1 ?_
       refine ys 2 ⟨lk call37 (ok_bytes_Equal _ _ _ hv13)⟩ ?_
       refine ye [68,2,9,65] ?_
       exact hl16 _ (zi h).symm
  ·intro u5 h hl6 hr7
   refine cond_some h (fun hg3_2 h => ?_) (fun hg3_2 h => ?_)
   ·refine yx hn 3 ?_
    refine yd hg3_2 10 ?_
    refine ye [0,68,2,5,7,38] ?_
    exact hl6 _ (zi h).symm
   ·refine cond_some h (fun hg3_6 h => ?_) (fun hg3_6 h => ?_)
    ·refine yx hn 3 ?_
     refine yd hg3_2 4 ?_
     refine yd hg3_6 6 ?_
     refine ye [0,68,2,5,7,38] ?_
     exact hl6 _ (zi h).symm
    ·refine yx hn 3 ?_
     refine yd hg3_2 4 ?_
     refine yd hg3_6 6 ?_
     refine ye [0,68,2,5,7,38] ?_
     exact hl6 _ (zi h).symm
end Go.Proofs.YtglabbpbianmnaaGreatDoor
