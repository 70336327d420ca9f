/-
  The model's runs are what is told in Lean.
-/
import Derived.Test.YthceldoojddpiaaDoorProg
import Derived.KernelRfl
import Derived.Test.YthceldoojddpiaaDoorShelf
import Derived.Test.YthceldoojddpiaaDoorB2
import Derived.Test.YthceldoojddpiaaDoorB4
import Derived.Test.YthceldoojddpiaaDoorB5
import Derived.Test.YthceldoojddpiaaDoorB8
import Derived.Test.YthceldoojddpiaaDoorSrt
import Derived.Test.YthceldoojddpiaaDoorB9
import Derived.Test.YthceldoojddpiaaDoorShr
import Derived.Test.YthceldoojddpiaaDoorC1
import Derived.Test.YthceldoojddpiaaDoorBA
import Derived.Test.YthceldoojddpiaaDoorOkc2
set_option linter.unusedVariables false
set_option linter.unusedSimpArgs false
set_option maxHeartbeats 1000000
namespace Go.Proofs.YthceldoojddpiaaDoor
open Go.Abs Go.Abs.Sh Tryd
open List (map flatten)
open Value (int)
theorem ok_sym_Weights (l:(List T_Tok)) (r:((List Int)×(List Int)×Int)) (h:Sh.sym_Weights l=some r):FnOK Tryd.prog 36 [.fl .shr 3 (flatten (map T_Tok.enc l))] (.tup [.fl (.own 3) 1 (map (int .i64) r.1), .fl (.own 3) 1 (map (int .i64) r.2.1), .v (.int .i64 r.2.2)]):=by
  unfold Sh.sym_Weights at h
  refine yO 72 func36 fun g0 hn hio => ?_
  refine yyy hn 3 [0] ?_
  refine ht_seq ?_
  refine ht_seq ?_
  obtain ⟨v1, hv1, h⟩:=zn h
  refine yx hn 1 ?_
  refine ys 1 ⟨lk call49 (ok_match_Check _ _ hv1)⟩ ?_
  refine yee [0,5] ?_
  refine yyy hn 2 [0,5,19] ?_
  refine ht_cond _ rfl (fun hb2 => ?_) (fun hb2 => ?_)
  ·have h:=cond_t hb2 h
   refine yyy hn 4 [2,3,4] ?_
   refine ht_ret ?_
   refine pt_sub (fs:=[(2,.fl (.own 3) 1 (map (int .i64) [])),(3,.fl (.own 3) 1 (map (int .i64) [])),(4,vi v1)]) (.sub _ (sub_nil 3 1) rfl (.sub _ (sub_nil 3 1) rfl (.same _ .nil))) ?_
   refine pt_r_then ?_
   obtain rfl:=zi h
   exact pt_ret hio rfl (.tmp _ _ (.tmp _ _ (.tmp _ _ .nil))) rfl rfl
  ·have h:=cond_f hb2 h
   refine ht_skip ?_
   refine pt_then (ht_seq ?_)
   obtain ⟨v3, hv3, h⟩:=zn h
   obtain ⟨v4, hv4, h⟩:=zn h
   refine wb [] ?_
   refine wN [] ?_
   refine wS (.fl (.own 3) 1 (map (int .i64) v3)) [] ⟨op_mk (f:=int .i64) _ _ _ _ el73 (by decide) zr3 rfl rfl rfl hv3⟩ ?_
   refine wN [] ?_
   refine wS (.fl (.own 3) 1 (map (int .i64) v4)) [] ⟨op_mk (f:=int .i64) _ _ _ _ el73 (by decide) zr3 rfl rfl rfl hv4⟩ ?_
   refine wK [21] [] ?_
   refine wt [(2,.fl (.own 3) 1 (map (int .i64) v3))] [] ⟨op_assign_take _ _ _ _ rfl⟩ ?_
   refine wK [22] [] ?_
   refine wt [(3,.fl (.own 3) 1 (map (int .i64) v4))] [] ⟨op_assign_take _ _ _ _ rfl⟩ ?_
   refine wee hn [0,2,3] ?_
   refine ht_seq ?_
   obtain ⟨v5, hv5, h⟩:=zn h
   obtain ⟨v6, hv6, h⟩:=zn h
   refine yx hn 1 ?_
   refine ys 0 ⟨li hv5⟩ ?_
   refine yk [2] [24] ?_
   refine yt (2,.fl (.own 3) 1 (map (int .i64) v6)) 0 ⟨op_store_e _ _ _ _ _ _ _ _ sz3 rfl rfl rfl (by decide) (map_lt (ix_ok hv5).2) ((map_set (f:=int .i64) _ (ix_ok hv5).2).trans (congrArg (map _) (Option.some.inj hv6)))⟩ ?_
   refine yee [0,2,3] ?_
   refine ht_seq ?_
   refine yyy hn 3 [2,3,25,26,27] ?_
   refine ht_loopS h (fun ((s46,s47,s48):(List Int)×(List Int)×Int)=>[(2,.fl (.own 3) 1 (map (int .i64) s46)),(3,.fl (.own 3) 1 (map (int .i64) s47)),(25,.fl .shr 3 (flatten (map T_Tok.enc l))),(26,vi (l.length:Int)),(27,vi s48)]) (fun ((s57,s58):(List Int)×(List Int))=>[(2,.fl (.own 3) 1 (map (int .i64) s57)),(3,.fl (.own 3) 1 (map (int .i64) s58))]) ?_ ?_
   ·rintro ⟨s57, s58⟩ h
    refine pt_then ?_
    refine yxx hn 0 ?_
    refine ym 0 ?_
    refine ym 0 ?_
    refine ya 0 ?_
    refine ya 1 ?_
    refine yee [2,3,4] ?_
    refine ht_ret ?_
    obtain rfl:=zi h
    exact pt_ret hio rfl (.tmp _ _ (.tmp _ _ (.tmp _ _ .nil))) rfl rfl
   ·rintro u59 hl60 hr61 ⟨s46, s47, s48⟩ rr64 h ho62
    refine yyy hn 1 [2,3,25,26,27,28] ?_
    refine ht_seq ?_
    refine ht_cond _ rfl (fun hb65 => ?_) (fun hb65 => ?_)
    ·have h:=cond_t hb65 h
     refine ht_skip ?_
     refine pt_then (ht_seq ?_)
     refine ht_joinS h (fun ((s67,s68):(List Int)×(List Int))=>[(2,.fl (.own 3) 1 (map (int .i64) s67)),(3,.fl (.own 3) 1 (map (int .i64) s68)),(25,.fl .shr 3 (flatten (map T_Tok.enc l))),(26,vi (l.length:Int)),(27,vi s48)]) ?_ ?_
     ·rintro ⟨s67, s68⟩ h
      refine pt_then ?_
      obtain ⟨v34, hv34, h⟩:=zn h
      refine yx hn 0 ?_
      refine ys 0 ⟨lb hv34⟩ ?_
      refine yw [27] 1 ?_
      refine ye [2,3,25,26,27] ?_
      exact pt_next _ (zi h).symm rfl
     ·intro u69 h hl70 hr71
      refine ht_block ?_
      refine ht_seq ?_
      obtain ⟨v8, hv8, h⟩:=zn h
      obtain ⟨v9, hv9, h⟩:=zn h
      refine yx hn 0 ?_
      refine ys 0 ⟨lj hv8⟩ ?_
      refine yS (.agg [.v (.int .u8 v9.Byte),vi v9.Len,vi v9.Dist]) 0 ⟨op_load_eA _ _ _ _ _ _ _ underlying69 rfl sz69 rfl rfl (flat_get T_Tok.len hv9) rfl (by decide)⟩ ?_
      refine yS (.box 69 [.v (.int .u8 0),vi 0,vi 0]) 1 ⟨oA (op_alloc _ _ zr69)⟩ ?_
      refine yee [2,3,25,26,27,7] ?_
      refine ht_seq ?_
      refine yyy hn 3 [2,3,25,26,27,7,33] ?_
      refine ht_cond _ rfl (fun hb72 => ?_) (fun hb72 => ?_)
      ·have h:=cond_t hb72 h
       refine ht_seq ?_
       obtain ⟨v11, hv11, h⟩:=zn h
       obtain ⟨v12, hv12, h⟩:=zn h
       obtain ⟨v13, hv13, h⟩:=zn h
       obtain ⟨v14, hv14, h⟩:=zn h
       obtain ⟨v15, hv15, h⟩:=zn h
       refine yx hn 3 ?_
       refine ys 0 ⟨li hv11⟩ ?_
       refine ys 0 ⟨ll hv12⟩ ?_
       refine ys 0 ⟨lb hv13⟩ ?_
       refine ys 0 ⟨li hv14⟩ ?_
       refine yk [2] [40,39] ?_
       refine yt (2,.fl (.own 3) 1 (map (int .i64) v15)) 0 ⟨op_store_e _ _ _ _ _ _ _ _ sz3 rfl rfl rfl (by decide) (map_lt (ix_ok hv14).2) ((map_set (f:=int .i64) _ (ix_ok hv14).2).trans (congrArg (map _) (Option.some.inj hv15)))⟩ ?_
       refine yee [2,3,25,26,27] ?_
       refine ht_exit ?_
       refine pt_x_then ?_
       refine pt_x_in ?_
       exact hl70 _ (zi h).symm
      ·have h:=cond_f hb72 h
       refine ht_skip ?_
       refine pt_then (ht_seq ?_)
       obtain ⟨v16, hv16, h⟩:=zn h
       refine yx hn 2 ?_
       refine ys 0 ⟨lk call46 (ok_sym_Len _ _ hv16)⟩ ?_
       refine ym 8 ?_
       refine yee [2,3,25,26,27,7,8] ?_
       refine ht_seq ?_
       obtain ⟨v17, hv17, h⟩:=zn h
       refine yx hn 2 ?_
       refine ys 0 ⟨lk call47 (ok_sym_Dist _ _ hv17)⟩ ?_
       refine ym 8 ?_
       refine yee [2,3,25,26,27,8,12] ?_
       refine ht_seq ?_
       obtain ⟨v18, hv18, h⟩:=zn h
       obtain ⟨v19, hv19, h⟩:=zn h
       obtain ⟨v20, hv20, h⟩:=zn h
       obtain ⟨v21, hv21, h⟩:=zn h
       obtain ⟨v22, hv22, h⟩:=zn h
       refine yx hn 2 ?_
       refine ys 0 ⟨li hv18⟩ ?_
       refine ys 0 ⟨ll hv19⟩ ?_
       refine ys 0 ⟨lb hv20⟩ ?_
       refine ys 0 ⟨li hv21⟩ ?_
       refine yk [2] [62,61] ?_
       refine yt (2,.fl (.own 3) 1 (map (int .i64) v22)) 0 ⟨op_store_e _ _ _ _ _ _ _ _ sz3 rfl rfl rfl (by decide) (map_lt (ix_ok hv21).2) ((map_set (f:=int .i64) _ (ix_ok hv21).2).trans (congrArg (map _) (Option.some.inj hv22)))⟩ ?_
       refine yee [2,3,25,26,27,12] ?_
       obtain ⟨v23, hv23, h⟩:=zn h
       obtain ⟨v24, hv24, h⟩:=zn h
       obtain ⟨v25, hv25, h⟩:=zn h
       obtain ⟨v26, hv26, h⟩:=zn h
       obtain ⟨v27, hv27, h⟩:=zn h
       refine yx hn 2 ?_
       refine ys 0 ⟨li hv23⟩ ?_
       refine ys 0 ⟨ll hv24⟩ ?_
       refine ys 0 ⟨lb hv25⟩ ?_
       refine ys 0 ⟨li hv26⟩ ?_
       refine yk [3] [68,67] ?_
       refine yt (3,.fl (.own 3) 1 (map (int .i64) v27)) 0 ⟨op_store_e _ _ _ _ _ _ _ _ sz3 rfl rfl rfl (by decide) (map_lt (ix_ok hv26).2) ((map_set (f:=int .i64) _ (ix_ok hv26).2).trans (congrArg (map _) (Option.some.inj hv27)))⟩ ?_
       refine ye [2,3,25,26,27] ?_
       refine pt_inb ?_
       exact hl70 _ (zi h).symm
    ·have h:=cond_f hb65 h
     refine ht_exit ?_
     refine pt_x_then ?_
     refine pt_x_then ?_
     refine pt_x_in ?_
     refine pt_pick [0,1] (by kernel_rfl) (es':=[(_,_),(_,_)]) rfl ?_
     exact hl60 _ (ho62 _ (zi h).symm).symm
theorem ok_tree_validWeights (weights:(List Int)) (r:Bool) (h:Sh.tree_validWeights weights=some r):FnOK Tryd.prog 50 [.fl .shr 1 (map (int .i64) weights)] (.v (.bool r)):=by
  unfold Sh.tree_validWeights at h
  refine yO 21 func50 fun g0 hn hio => ?_
  refine yyy hn 1 [0] ?_
  refine ht_seq ?_
  refine yyy hn 3 [0,7] ?_
  refine ht_cond _ rfl (fun hb1 => ?_) (fun hb1 => ?_)
  ·have h:=cond_t hb1 h
   refine yyy hn 1 [2] ?_
   refine ht_ret ?_
   refine pt_r_then ?_
   obtain rfl:=zi h
   exact pt_ret hio rfl (.tmp _ _ .nil) rfl rfl
  ·have h:=cond_f hb1 h
   refine ht_skip ?_
   refine pt_then (ht_seq ?_)
   refine yyy hn 3 [8,9,10] ?_
   refine ht_loopS h (fun (s18:Int)=>[(8,fi weights),(9,vi (weights.length:Int)),(10,vi s18)]) (fun (():Unit)=>[]) ?_ ?_
   ·rintro ⟨⟩ h
    refine pt_then ?_
    refine yyy hn 1 [2] ?_
    refine ht_ret ?_
    obtain rfl:=zi h
    exact pt_ret hio rfl (.tmp _ _ .nil) rfl rfl
   ·rintro u25 hl26 hr27 s18 rr30 h ho28
    refine yyy hn 1 [8,9,10,11] ?_
    refine ht_seq ?_
    refine ht_cond _ rfl (fun hb31 => ?_) (fun hb31 => ?_)
    ·have h:=cond_t hb31 h
     refine ht_skip ?_
     refine pt_then (ht_seq ?_)
     refine ht_block ?_
     refine ht_seq ?_
     obtain ⟨v3, hv3, h⟩:=zn h
     obtain ⟨v4, hv4, h⟩:=zn h
     refine yx hn 0 ?_
     refine ys 0 ⟨li hv3⟩ ?_
     refine ys 1 ⟨ll hv4⟩ ?_
     refine yee [8,9,10,4] ?_
     refine ht_seq ?_
     refine ht_joinS h (fun (s32:Bool)=>[(8,fi weights),(9,vi (weights.length:Int)),(10,vi s18),(19,vb s32)]) ?_ ?_
     ·rintro s32 h
      refine pt_then ?_
      refine ht_cond _ rfl (fun hb36 => ?_) (fun hb36 => ?_)
      ·have h:=cond_t hb36 h
       refine yyy hn 1 [2] ?_
       refine ht_ret ?_
       refine pt_r_in ?_
       refine pt_r_then ?_
       refine pt_r_then ?_
       refine pt_r_in ?_
       refine pt_r_then ?_
       have h:=hr27 _ (ho28 _ (zi h).symm).symm
       obtain rfl:=zi h
       exact pt_ret hio rfl (.tmp _ _ .nil) rfl rfl
      ·have h:=cond_f hb36 h
       refine ht_skip ?_
       refine pt_inb ?_
       refine pt_then ?_
       obtain ⟨v10, hv10, h⟩:=zn h
       refine yx hn 0 ?_
       refine ys 0 ⟨lb hv10⟩ ?_
       refine yw [10] 1 ?_
       refine ye [8,9,10] ?_
       exact pt_next _ (zi h).symm rfl
     ·intro u33 h hl34 hr35
      refine cond_some h (fun hg6_2 h => ?_) (fun hg6_2 h => ?_)
      ·refine yx hn 3 ?_
       refine yd hg6_2 3 ?_
       refine ye [8,9,10,19] ?_
       exact hl34 _ (zi h).symm
      ·refine yx hn 3 ?_
       refine yd hg6_2 3 ?_
       refine ye [8,9,10,19] ?_
       exact hl34 _ (zi h).symm
    ·have h:=cond_f hb31 h
     refine ht_exit ?_
     refine pt_x_then ?_
     refine pt_x_then ?_
     refine pt_x_in ?_
     refine pt_pick [] (by kernel_rfl) (es':=[]) rfl ?_
     exact hl26 _ (ho28 _ (zi h).symm).symm
theorem ok_tree_positive (weights:(List Int)) (r:(List Int)) (h:Sh.tree_positive weights=some r):FnOK Tryd.prog 70 [.fl .shr 1 (map (int .i64) weights)] (.fl (.own 3) 1 (map (int .i64) r)):=by
  unfold Sh.tree_positive at h
  refine yO 21 func70 fun g0 hn hio => ?_
  refine yyy hn 1 [0] ?_
  refine yyy hn 1 [0,3] ?_
  refine ht_seq ?_
  refine yyy hn 3 [3,6,7,8] ?_
  refine ht_sub (fs:=[(3,.fl (.own 3) 1 (map (int .i64) [])),(6,fi weights),(7,vi (weights.length:Int)),(8,vi 0)]) (.sub _ (sub_nil 3 1) rfl (.same _ (.same _ (.same _ .nil)))) ?_
  refine ht_loopS h (fun ((s21,s22):(List Int)×Int)=>[(3,.fl (.own 3) 1 (map (int .i64) s21)),(6,fi weights),(7,vi (weights.length:Int)),(8,vi s22)]) (fun (s30:(List Int))=>[(3,.fl (.own 3) 1 (map (int .i64) s30))]) ?_ ?_
  ·rintro s30 h
   refine pt_then ?_
   refine yxx hn 0 ?_
   refine ym 0 ?_
   refine ya 0 ?_
   refine yee [2] ?_
   refine ht_ret ?_
   obtain rfl:=zi h
   exact pt_ret hio rfl (.tmp _ _ .nil) rfl rfl
  ·rintro u31 hl32 hr33 ⟨s21, s22⟩ rr36 h ho34
   refine yyy hn 1 [3,6,7,8,9] ?_
   refine ht_seq ?_
   refine ht_cond _ rfl (fun hb37 => ?_) (fun hb37 => ?_)
   ·have h:=cond_t hb37 h
    refine ht_skip ?_
    refine pt_then (ht_seq ?_)
    refine ht_joinS h (fun (s39:(List Int))=>[(6,fi weights),(7,vi (weights.length:Int)),(8,vi s22),(3,.fl (.own 3) 1 (map (int .i64) s39))]) ?_ ?_
    ·rintro s39 h
     refine pt_then ?_
     obtain ⟨v11, hv11, h⟩:=zn h
     refine yx hn 0 ?_
     refine ys 0 ⟨lb hv11⟩ ?_
     refine yw [8] 1 ?_
     refine ye [6,7,3,8] ?_
     refine pt_pick [2,0,1,3] (by kernel_rfl) (es':=[(_,_),(_,_),(_,_),(_,_)]) rfl ?_
     exact pt_next _ (zi h).symm rfl
    ·intro u40 h hl41 hr42
     refine ht_block ?_
     refine ht_seq ?_
     obtain ⟨v2, hv2, h⟩:=zn h
     obtain ⟨v3, hv3, h⟩:=zn h
     refine yx hn 1 ?_
     refine ys 0 ⟨li hv2⟩ ?_
     refine ys 2 ⟨ll hv3⟩ ?_
     refine yee [3,6,7,8,4,5] ?_
     refine yyy hn 2 [3,6,7,8,4,14] ?_
     refine ht_cond _ rfl (fun hb43 => ?_) (fun hb43 => ?_)
     ·have h:=cond_t hb43 h
      obtain ⟨v5, hv5, h⟩:=zn h
      refine yx hn 0 ?_
      refine ym 1 ?_
      refine yS (.fl (.own 3) 1 (map (int .i64) [s22])) 0 ⟨op_buildSlice _ _ 1 (.int .i64 0) (map (int .i64) [s22]) [(0,.int .i64 s22)] underlying73 sz3 zr3 (fun _ V w o a hv hes=>by have e0:=rd_v hv hes (x := .tmp 16) rfl; simp only [List.map_toArray,List.map_cons,List.map_nil,e0]; try rfl) (litfill (by simp [Instr.fill,Value.cells]; rfl) (by simp [List.range,List.range.loop] <;> rfl)) (by simp [Value.oneCell']) rfl (by decide) (by decide) (by decide)⟩ ?_
      refine yp el73 hv5 0 ?_
      refine ya 0 ?_
      refine ye [6,7,8,3] ?_
      refine pt_inb ?_
      exact hl41 _ (zi h).symm
     ·have h:=cond_f hb43 h
      refine ht_skip ?_
      refine pt_inb ?_
      refine pt_pick [1,2,3,0] (by kernel_rfl) (es':=[(_,_),(_,_),(_,_),(_,_)]) rfl ?_
      exact hl41 _ (zi h).symm
   ·have h:=cond_f hb37 h
    refine ht_exit ?_
    refine pt_x_then ?_
    refine pt_x_then ?_
    refine pt_x_in ?_
    refine pt_pick [0] (by kernel_rfl) (es':=[(_,_)]) rfl ?_
    exact hl32 _ (ho34 _ (zi h).symm).symm
theorem ok_tree_validLimit (weights:(List Int)) (limit:Int) (r:Bool) (h:Sh.tree_validLimit weights limit=some r):FnOK Tryd.prog 51 [.fl .shr 1 (map (int .i64) weights), .v (.int .i64 limit)] (.v (.bool r)):=by
  unfold Sh.tree_validLimit at h
  refine yO 17 func51 fun g0 hn hio => ?_
  refine yyy hn 1 [0,1] ?_
  refine yyy hn 1 [0,1,5] ?_
  refine ht_seq ?_
  refine ht_joinS h (fun (s3:Int)=>[(1,vi limit),(5,vi s3)]) ?_ ?_
  ·rintro s3 h
   refine pt_then (ht_seq ?_)
   refine ht_joinS h (fun (s8:Bool)=>[(4,vb s8)]) ?_ ?_
   ·rintro s8 h
    refine pt_then (ht_ret ?_)
    obtain rfl:=zi h
    exact pt_ret hio rfl (.tmp _ _ .nil) rfl rfl
   ·intro u9 h hl10 hr11
    refine cond_some h (fun hg4_3 h => ?_) (fun hg4_3 h => ?_)
    ·refine yx hn 4 ?_
     refine yd hg4_3 4 ?_
     refine ye [4] ?_
     exact hl10 _ (zi h).symm
    ·refine yx hn 4 ?_
     refine yd hg4_3 4 ?_
     refine ye [4] ?_
     exact hl10 _ (zi h).symm
  ·intro u4 h hl5 hr6
   refine ht_seq ?_
   obtain ⟨v1, hv1, h⟩:=zn h
   refine yx hn 1 ?_
   refine ys 2 ⟨lk call70 (ok_tree_positive _ _ hv1)⟩ ?_
   refine yee [1,5,9] ?_
   refine ht_cond _ rfl (fun hb7 => ?_) (fun hb7 => ?_)
   ·have h:=cond_t hb7 h
    refine yx hn 0 ?_
    refine yw [5] 1 ?_
    refine ye [1,5] ?_
    exact hl5 _ (zi h).symm
   ·have h:=cond_f hb7 h
    refine ht_skip ?_
    refine pt_pick [0,1] (by kernel_rfl) (es':=[(_,_),(_,_)]) rfl ?_
    exact hl5 _ (zi h).symm
theorem ok_slices_Clone_int_int (l r:List Int) (h:Sh.slices_Clone_int_int l=some r):FnOK Tryd.prog 52 [.fl .shr 1 (map (int .i64) l)] (.fl (.own 3) 1 (map (int .i64) r)):=lib_slices_Clone Tryd.slices_Clone_int_nil Tryd.slices_Clone_int Tryd.slices_Clone_int_zero l r h
theorem ok_tree_merge_1_clo (cap0:Int) (cap1:Int) (cap2:Int) (cap3:(List T_tree_node)) (r:(Int×Int×Int×Int×(List T_tree_node))) (h:Sh.tree_merge_1_clo cap0 cap1 cap2 cap3=some r):FnP Tryd.prog 86 [.box 3 [.v (.int .i64 cap0)], .box 3 [.v (.int .i64 cap1)], .box 3 [.v (.int .i64 cap2)], .box 123 [.fr (.own 125) false 2 (flatten (map T_tree_node.ienc cap3))]] [.box 3 [.v (.int .i64 r.2.1)], .box 3 [.v (.int .i64 r.2.2.1)], .box 3 [.v (.int .i64 r.2.2.2.1)], .box 123 [.fr (.own 125) false 2 (flatten (map T_tree_node.ienc r.2.2.2.2))]] (.v (.int .i64 r.1)):=by
  unfold Sh.tree_merge_1_clo at h
  refine yP 35 func86 fun args0 hargs0 g0 hn hio => ?_
  refine yyy hn 1 [0,1,2,3,0,1,2,3] ?_
  refine ht_seq ?_
  refine ht_seq ?_
  refine ht_joinS h (fun (s5:Bool)=>[(0,.box 3 [vi cap0]),(1,.box 3 [vi cap1]),(2,.box 3 [vi cap2]),(3,.box 123 [.fr (.own 125) false 2 (flatten (map T_tree_node.ienc cap3))]),(26,vb s5),(0,.v (List.getD args0 0 undef)),(1,.v (List.getD args0 1 undef)),(2,.v (List.getD args0 2 undef)),(3,.v (List.getD args0 3 undef))]) ?_ ?_
  ·rintro s5 h
   refine pt_then ?_
   refine ht_cond _ rfl (fun hb9 => ?_) (fun hb9 => ?_)
   ·have h:=cond_t hb9 h
    refine ht_seq ?_
    obtain ⟨v10, hv10, h⟩:=zn h
    refine yx hn 1 ?_
    refine ys 1 ⟨lb hv10⟩ ?_
    refine yee [0,1,2,3,0,1,2,3] ?_
    refine ht_seq ?_
    obtain ⟨v11, hv11, h⟩:=zn h
    refine yx hn 1 ?_
    refine ys 1 ⟨lb hv11⟩ ?_
    refine yee [0,1,2,3,4,0,1,2,3] ?_
    refine ht_ret ?_
    refine pt_pick [4,0,1,2,3,5,6,7,8] (by kernel_rfl) (es':=[(_,_),(_,_),(_,_),(_,_),(_,_),(_,_),(_,_),(_,_),(_,_)]) rfl ?_
    refine pt_r_then ?_
    obtain rfl:=zi h
    exact pt_retP (es:=[(4, .v (.int .i64 v11))]) (posts:=[.box 3 [.v (.int .i64 v10)], .box 3 [.v (.int .i64 cap1)], .box 3 [.v (.int .i64 cap2)], .box 123 [.fr (.own 125) false 2 (flatten (map T_tree_node.ienc cap3))]]) hio rfl rfl (.tmp _ _ .nil) rfl rfl hargs0 rfl
   ·have h:=cond_f hb9 h
    refine ht_skip ?_
    refine pt_then (ht_seq ?_)
    obtain ⟨v12, hv12, h⟩:=zn h
    refine yx hn 1 ?_
    refine ys 1 ⟨lb hv12⟩ ?_
    refine yee [0,1,2,3,0,1,2,3] ?_
    refine ht_seq ?_
    obtain ⟨v13, hv13, h⟩:=zn h
    refine yx hn 1 ?_
    refine ys 1 ⟨lb hv13⟩ ?_
    refine yee [0,1,2,3,4,0,1,2,3] ?_
    refine ht_ret ?_
    refine pt_pick [4,0,1,2,3,5,6,7,8] (by kernel_rfl) (es':=[(_,_),(_,_),(_,_),(_,_),(_,_),(_,_),(_,_),(_,_),(_,_)]) rfl ?_
    obtain rfl:=zi h
    exact pt_retP (es:=[(4, .v (.int .i64 v13))]) (posts:=[.box 3 [.v (.int .i64 cap0)], .box 3 [.v (.int .i64 cap1)], .box 3 [.v (.int .i64 v12)], .box 123 [.fr (.own 125) false 2 (flatten (map T_tree_node.ienc cap3))]]) hio rfl rfl (.tmp _ _ .nil) rfl rfl hargs0 rfl
  ·intro u6 h hl7 hr8
   refine cond_some h (fun hg1_3 h => ?_) (fun hg1_3 h => ?_)
   ·refine cond_some h (fun hg1_8 h => ?_) (fun hg1_8 h => ?_)
    ·refine wb [[0],[1],[5,6],[7]] ?_
     refine wd hg1_3 [[8,2],[8,3],[8,10,3],[8,9,11],[8,12]] ?_
     refine wd hg1_8 [[13],[13],[13],[13],[13],[13],[13],[13],[13],[13],[13],[8,13],[8,25]] ?_
     refine we hn [0,1,2,3,26,0,1,2,3] ?_
     exact hl7 _ (zi h).symm
    ·obtain ⟨v1, hv1, h⟩:=zn h
     obtain ⟨v2, hv2, h⟩:=zn h
     obtain ⟨v3, hv3, h⟩:=zn h
     obtain ⟨v4, hv4, h⟩:=zn h
     refine wb [[0],[1],[5,6],[7]] ?_
     refine wd hg1_3 [[8,2],[8,3],[8,10,3],[8,9,11],[8,12]] ?_
     refine wd hg1_8 [[13,3],[13,0]] ?_
     refine wN [13,14,3,15] ?_
     refine wo [[13,16,3]] ⟨lI hv1⟩ ?_
     refine wN [13,17,3] ?_
     refine wS (vi v2.weight) [[13,3],[13,2]] ⟨op_load_fr _ _ _ _ _ _ _ underlying3 rfl rfl rfl (gflat_cell T_tree_node.ilen hv2 rfl) (.v _)⟩ ?_
     refine wN [13,19,3,20] ?_
     refine wo [[13,21,3]] ⟨lI hv3⟩ ?_
     refine wN [13,22,3] ?_
     refine wS (vi v4.weight) [[13,18,23],[8,13,24],[8,25]] ⟨op_load_fr _ _ _ _ _ _ _ underlying3 rfl rfl rfl (gflat_cell T_tree_node.ilen hv4 rfl) (.v _)⟩ ?_
     refine we hn [0,1,2,3,26,0,1,2,3] ?_
     exact hl7 _ (zi h).symm
   ·refine wb [[0],[1],[5,6],[7]] ?_
    refine wd hg1_3 [[8],[8],[8],[8],[8],[13],[13],[13],[13],[13],[13],[13],[13],[13],[13],[13],[8],[8]] ?_
    refine we hn [0,1,2,3,26,0,1,2,3] ?_
    exact hl7 _ (zi h).symm
theorem ok_tree_merge (nodes:(List T_tree_node)) (r:(List T_tree_node)) (h:Sh.tree_merge nodes=some r):FnE Tryd.prog 73 [.fr (.own 125) false 2 (flatten (map T_tree_node.ienc nodes))] (.fr .ro false 2 (flatten (map T_tree_node.ienc r))):=by
  unfold Sh.tree_merge at h
  refine yE 51 func73 fun g0 hn hio => ?_
  refine yxx hn 0 ?_
  refine yk [0] [] ?_
  refine yt (1,.box 123 [.fr (.own 125) false 2 (flatten (map T_tree_node.ienc nodes))]) 1 ⟨op_box_take _ _ _ _ _ rfl rfl rfl⟩ ?_
  refine yee [1] ?_
  refine yxx hn 2 ?_
  refine yS (.box 3 [vi 0]) 1 ⟨oA (op_alloc _ _ zr3)⟩ ?_
  refine yee [1,3] ?_
  refine ht_seq ?_
  refine wb [[3]] ?_
  refine wN [] ?_
  refine wS (.box 3 [vi 0]) [] ⟨oA (op_alloc _ _ zr3)⟩ ?_
  refine wN [] ?_
  refine wS (.box 3 [vi 0]) [] ⟨oA (op_alloc _ _ zr3)⟩ ?_
  refine wK [4] [] ?_
  refine wt [(4,.box 3 [vi 0])] [] ⟨op_store _ _ _ _ _ _ _ _ sz3 rfl rfl rfl rfl (zl rfl) rfl rfl⟩ ?_
  refine wK [5] [11] ?_
  refine wt [(5,.box 3 [vi (nodes.length:Int)])] [] ⟨op_store _ _ _ _ _ _ _ _ sz3 rfl rfl rfl rfl (zl rfl) rfl rfl⟩ ?_
  refine wee hn [1,3,4,5] ?_
  refine yxx hn 0 ?_
  refine yS (.clo 86 [4,3,5,1]) 1 ⟨op_makeFuncs_name _ _ _ [4,3,5,1] rfl rfl⟩ ?_
  refine yee [1,3,4,5,6] ?_
  refine ht_seq ?_
  refine ht_loopS h (fun ((s42,s43,s44,s45):(List T_tree_node)×Int×Int×Int)=>[(1,.box 123 [.fr (.own 125) false 2 (flatten (map T_tree_node.ienc s42))]),(3,.box 3 [vi s43]),(4,.box 3 [vi s44]),(5,.box 3 [vi s45]),(6,.clo 86 [4,3,5,1])]) (fun (s47:(List T_tree_node))=>[(1,.box 123 [.fr (.own 125) false 2 (flatten (map T_tree_node.ienc s47))])]) ?_ ?_
  ·rintro s47 h
   refine pt_then (ht_seq ?_)
   refine ht_frzE 0 hio (es':=[(1, .box 123 [.fr .ro false 2 (flatten (map T_tree_node.ienc s47))])]) rfl ?_
   refine yy hn 2 [2] ?_
   refine pt_then (ht_ret ?_)
   obtain rfl:=zi h
   exact pt_retE hio rfl (.tmp _ _ .nil) rfl rfl
  ·rintro u48 hl49 hr50 ⟨s42, s43, s44, s45⟩ rr53 h ho51
   refine ht_seq ?_
   refine ht_seq ?_
   obtain ⟨v1, hv1, h⟩:=zn h
   obtain ⟨v2, hv2, h⟩:=zn h
   refine yx hn 3 ?_
   refine ys 0 ⟨lb hv1⟩ ?_
   refine ys 1 ⟨lb hv2⟩ ?_
   refine yee [1,3,4,5,6,18] ?_
   refine ht_cond _ rfl (fun hb54 => ?_) (fun hb54 => ?_)
   ·have h:=cond_t hb54 h
    refine ht_skip ?_
    refine pt_then ?_
    refine ht_block ?_
    refine ht_seq ?_
    obtain ⟨v4, hv4, h⟩:=zn h
    obtain ⟨v5, hv5, h⟩:=zn h
    refine yx hn 1 ?_
    refine yk [4,3,5,1] [19] ?_
    refine yn [(4,.box 3 [vi v4.2.1]),(3,.box 3 [vi v4.2.2.1]),(5,.box 3 [vi v4.2.2.2.1]),(1,.box 123 [.fr (.own 125) false 2 (flatten (map T_tree_node.ienc v4.2.2.2.2))]),(20,vi v4.1)] 1 ⟨op_callLs _ _ _ _ 20 19 86 [] [4,3,5,1] _ _ _ rfl rfl rfl call86 rfl rfl (ok_tree_merge_1_clo s44 s43 s45 s42 _ hv4) rfl rfl rfl rfl rfl rfl rfl rfl rfl⟩ ?_
    refine yk [4,3,5,1] [21] ?_
    refine yn [(4,.box 3 [vi v5.2.1]),(3,.box 3 [vi v5.2.2.1]),(5,.box 3 [vi v5.2.2.2.1]),(1,.box 123 [.fr (.own 125) false 2 (flatten (map T_tree_node.ienc v5.2.2.2.2))]),(22,vi v5.1)] 2 ⟨op_callLs _ _ _ _ 22 21 86 [] [4,3,5,1] _ _ _ rfl rfl rfl call86 rfl rfl (ok_tree_merge_1_clo v4.2.1 v4.2.2.1 v4.2.2.2.1 v4.2.2.2.2 _ hv5) rfl rfl rfl rfl rfl rfl rfl rfl rfl⟩ ?_
    refine yee [1,3,4,5,6,7,8] ?_
    refine ht_seq ?_
    obtain ⟨v6, hv6, h⟩:=zn h
    obtain ⟨v7, hv7, h⟩:=zn h
    obtain ⟨v8, hv8, h⟩:=zn h
    obtain ⟨v9, hv9, h⟩:=zn h
    obtain ⟨v10, hv10, h⟩:=zn h
    obtain ⟨v11, hv11, h⟩:=zn h
    refine ht_pick [0,1,2,3,4,5,6] rfl rfl ?_
    refine ht_open 58 0 (fun rb6 rn6 rc6=>[.v (.slice (some ⟨rb6, 0, none⟩) rn6 rc6)]) (zl rfl) rfl (fun _ _ _=>rfl) (ics_pos T_tree_node.ilen (by decide) hv7) fun rb6 rn6 rc6 rl6 => ?_
    refine ht_anyR (by kernel_rfl) hn (El:=(_::_::_::_::_::_::_::_::(23,.v (.slice (some ⟨rb6,0,none⟩) rn6 rc6))::(24,vi v4.1)::(25,.v (.slice (some ⟨rb6,0,none⟩) rn6 rc6))::(26,vi v5.1)::(27,.v (.slice (some ⟨rb6,0,none⟩) rn6 rc6))::(28,vi (v5.2.2.2.2.length:Int))::(29,.v (.slice (some ⟨rb6,0,none⟩) rn6 rc6))::(30,vi (v5.2.2.2.2.length:Int))::(31,.v (.pointer (some ⟨rb6,(v6 * 2),none⟩)))::(32,.v (.pointer (some ⟨rb6,(v6 * 2+1),none⟩)))::(58,.inv (rowJ 125 false 2 (flatten (map T_tree_node.ienc v8)) rb6 rn6 rc6))::(33,.v (.pointer (some ⟨rb6,(v9 * 2),none⟩)))::(34,.v (.pointer (some ⟨rb6,(v9 * 2+1),none⟩)))::(58,.inv (rowJ 125 false 2 (flatten (map T_tree_node.ienc v11)) rb6 rn6 rc6))::[])) (init:=[0,1,2,3,4,5,6,7]) (fin:=[0,21,2,3,4,5,6,7]) (sps:=[zq [0] 8 23,zq [6] 9 24,zq [0] 10 25,zq [7] 11 26,zq [0] 12 27,zq [12] 13 28,zq [0] 14 29,zq [14] 15 30,zq [8,9] 16 31,zq [16] 17 32,⟨[17,13],[1],[18],[]⟩,zq [10,11] 19 33,zq [19] 20 34,⟨[20,15],[18],[21],[]⟩]) (es':=[(_,_),(58,.inv (rowJ 125 false 2 (flatten (map T_tree_node.ienc v11)) rb6 rn6 rc6)),(_,_),(_,_),(_,_),(_,_),(_,_),(_,_)]) (by kernel_rfl) rfl rfl ⟨zp rfl (oL underlying123 rfl),z1 rfl,zp rfl (oL underlying123 rfl),z1 rfl,zp rfl (oL underlying123 rfl),zp rfl (op_len_val _ _ rb6 rn6 rc6 _ underlying123 rfl (ics_eq rl6 (gflat_len T_tree_node.ilen _) (by decide))),zp rfl (oL underlying123 rfl),zp rfl (op_len_val _ _ rb6 rn6 rc6 _ underlying123 rfl (ics_eq rl6 (gflat_len T_tree_node.ilen _) (by decide))),zp rfl (op_ix_val _ _ _ _ _ rb6 rn6 rc6 _ _ underlying123 sz125 rfl rfl (ix_ok hv6).1 (ics_lt rl6 (gflat_len T_tree_node.ilen _) (by decide) (ix_ok hv6).2)),zp rfl (op_fieldAddr_v _ _ _ _ rb6 (v6 * 2) _ underlying125 rfl sz3 rfl rfl),zp rfl (op_store_row _ _ _ 58 rb6 rn6 rc6 _ 1 _ sz3 rfl rfl rfl (by decide) (gflat_fit (q:=1) (s:=1) T_tree_node.ilen hv7 (by decide)) ((gflat_setc (q:=1) (s:=1) (y:=(T_tree_node.mk v7.weight (v5.2.2.2.2.length:Int))) T_tree_node.ilen hv7 rfl (by decide)).trans (congrArg (fun l=>flatten (map T_tree_node.ienc l)) (Option.some.inj hv8)))),zp rfl (op_ix_val _ _ _ _ _ rb6 rn6 rc6 _ _ underlying123 sz125 rfl rfl (ix_ok hv9).1 (ics_lt rl6 (gflat_len T_tree_node.ilen _) (by decide) (ix_ok hv9).2)),zp rfl (op_fieldAddr_v _ _ _ _ rb6 (v9 * 2) _ underlying125 rfl sz3 rfl rfl),zp rfl (op_store_row _ _ _ 58 rb6 rn6 rc6 _ 1 _ sz3 rfl rfl rfl (by decide) (gflat_fit (q:=1) (s:=1) T_tree_node.ilen hv10 (by decide)) ((gflat_setc (q:=1) (s:=1) (y:=(T_tree_node.mk v10.weight (v5.2.2.2.2.length:Int))) T_tree_node.ilen hv10 rfl (by decide)).trans (congrArg (fun l=>flatten (map T_tree_node.ienc l)) (Option.some.inj hv11)))),zz⟩ ?_
    refine pt_close 0 [.fr (.own 125) false 2 (flatten (map T_tree_node.ienc v11))] (zl rfl) rfl rfl ?_
    refine pt_then ?_
    obtain ⟨v12, hv12, h⟩:=zn h
    obtain ⟨v13, hv13, h⟩:=zn h
    obtain ⟨v14, hv14, h⟩:=zn h
    obtain ⟨v15, hv15, h⟩:=zn h
    obtain ⟨v16, hv16, h⟩:=zn h
    obtain ⟨v17, hv17, h⟩:=zn h
    refine wb [[1],[1],[7]] ?_
    refine wN [36,1,37] ?_
    refine wo [[38,1]] ⟨lI hv12⟩ ?_
    refine wN [39,1] ?_
    refine wS (vi v13.weight) [[1],[8]] ⟨op_load_fr _ _ _ _ _ _ _ underlying3 rfl rfl rfl (gflat_cell T_tree_node.ilen hv13 rfl) (.v _)⟩ ?_
    refine wN [41,1,42] ?_
    refine wo [[43,1]] ⟨lI hv14⟩ ?_
    refine wN [44,1] ?_
    refine wS (vi v15.weight) [] ⟨op_load_fr _ _ _ _ _ _ _ underlying3 rfl rfl rfl (gflat_cell T_tree_node.ilen hv15 rfl) (.v _)⟩ ?_
    refine wN [40,45] ?_
    refine wo [] ⟨lb hv16⟩ ?_
    refine wN [46] ?_
    refine wS (.agg [vi v16,vi 0]) [] ⟨op_build _ _ _ _ [1,1] _ _ underlying125 zr125 (fs125 _ underlying125) (.copy _ Src.nil) rfl rfl rfl⟩ ?_
    refine wN [47] ?_
    refine wS (.fr (.own 125) false 2 (flatten (map T_tree_node.ienc [(T_tree_node.mk v16 0)]))) [] ⟨op_build1_fr _ _ _ 2 (.agg #[.int .i64 0,.int .i64 0]) false _ _ underlying123 sz125 zr125 rfl rfl (.cons (.v _) (.cons (.v _) (.nil))) rfl (by decide) (by decide)⟩ ?_
    refine wK [1] [35,48] ?_
    refine wt [(1,.box 123 [.any]),(49,.fr (.own 125) false 2 (flatten (map T_tree_node.ienc v17)))] [] ⟨op_app_fr_cell _ 49 1 0 _ _ el123 rfl rfl (zl rfl) rfl (gflat_len T_tree_node.ilen _) (gflat_len T_tree_node.ilen _) hv17 (gflat_app (app_eq hv17)) (by decide) (by decide) (by decide) rfl rfl⟩ ?_
    refine wK [35,36,38,39,41,43,44,49,1] [] ?_
    refine wt [(1,.box 123 [.fr (.own 125) false 2 (flatten (map T_tree_node.ienc v17))])] [] ⟨LOp.drop [_] (LOp.drop [_] (LOp.drop [_] (LOp.drop [_] (LOp.drop [_] (LOp.drop [_] (LOp.drop [_] (op_store_take _ _ _ _ _ _ _ _ sz123 rfl rfl rfl (zl rfl) rfl rfl)))))))⟩ ?_
    refine we hn [1,3,4,5,6] ?_
    refine pt_inb ?_
    exact pt_next _ (zi h).symm rfl
   ·have h:=cond_f hb54 h
    refine ht_exit ?_
    refine pt_x_then ?_
    refine pt_x_then ?_
    refine pt_x_in ?_
    refine pt_pick [0] (by kernel_rfl) (es':=[(_,_)]) rfl ?_
    exact hl49 _ (ho51 _ (zi h).symm).symm
theorem ok_tree_depths (weights:(List Int)) (r:(List Int)) (h:Sh.tree_depths weights=some r):FnOK Tryd.prog 53 [.fl .shr 1 (map (int .i64) weights)] (.fl (.own 3) 1 (map (int .i64) r)):=by
  unfold Sh.tree_depths at h
  refine yO 92 func53 fun g0 hn hio => ?_
  refine yyy hn 2 [1] ?_
  refine ht_seq ?_
  obtain ⟨v1, hv1, h⟩:=zn h
  refine yx hn 2 ?_
  refine yS (.fl (.own 3) 1 (map (int .i64) v1)) 0 ⟨op_mk (f:=int .i64) _ _ _ _ el73 (by decide) zr3 rfl rfl rfl hv1⟩ ?_
  refine ya 0 ?_
  refine yee [1,3] ?_
  refine ht_seq ?_
  obtain ⟨v2, hv2, h⟩:=zn h
  refine yx hn 1 ?_
  refine ys 0 ⟨lk call70 (ok_tree_positive _ _ hv2)⟩ ?_
  refine ya 0 ?_
  refine yee [1,3,4] ?_
  refine ht_seq ?_
  refine yyy hn 3 [1,3,4,19] ?_
  refine ht_cond _ rfl (fun hb3 => ?_) (fun hb3 => ?_)
  ·have h:=cond_t hb3 h
   refine yxx hn 0 ?_
   refine ym 0 ?_
   refine ya 0 ?_
   refine yee [2] ?_
   refine ht_ret ?_
   refine pt_r_then ?_
   obtain rfl:=zi h
   exact pt_ret hio rfl (.tmp _ _ .nil) rfl rfl
  ·have h:=cond_f hb3 h
   refine ht_skip ?_
   refine pt_then (ht_seq ?_)
   refine yyy hn 3 [1,3,4,23] ?_
   refine ht_cond _ rfl (fun hb4 => ?_) (fun hb4 => ?_)
   ·have h:=cond_t hb4 h
    refine ht_seq ?_
    obtain ⟨v5, hv5, h⟩:=zn h
    obtain ⟨v6, hv6, h⟩:=zn h
    obtain ⟨v7, hv7, h⟩:=zn h
    obtain ⟨v8, hv8, h⟩:=zn h
    refine yx hn 1 ?_
    refine ym 0 ?_
    refine ys 0 ⟨li hv5⟩ ?_
    refine ys 0 ⟨ll hv6⟩ ?_
    refine ys 0 ⟨li hv7⟩ ?_
    refine yk [3] [28] ?_
    refine yt (3,.fl (.own 3) 1 (map (int .i64) v8)) 0 ⟨op_store_e _ _ _ _ _ _ _ _ sz3 rfl rfl rfl (by decide) (map_lt (ix_ok hv7).2) ((map_set (f:=int .i64) _ (ix_ok hv7).2).trans (congrArg (map _) (Option.some.inj hv8)))⟩ ?_
    refine yee [3] ?_
    refine yxx hn 0 ?_
    refine ym 0 ?_
    refine ya 0 ?_
    refine yee [2] ?_
    refine ht_ret ?_
    refine pt_r_then ?_
    obtain rfl:=zi h
    exact pt_ret hio rfl (.tmp _ _ .nil) rfl rfl
   ·have h:=cond_f hb4 h
    refine ht_skip ?_
    refine pt_then (ht_seq ?_)
    obtain ⟨v9, hv9, h⟩:=zn h
    refine yx hn 1 ?_
    refine yS (.clo 72 [1]) 0 ⟨op_makeFunc_name _ _ _ 1 (by decide)⟩ ?_
    refine yk [4] [30,31,1] ?_
    refine ytt (4,.fl (.own 3) 1 (map (int .i64) v9)) (32,.tup []) 0 ⟨op_sort _ 32 4 31 1 _ _ weights v2 v9 rfl call71 Tryd.sort_ok rfl rfl rfl rfl rfl hv9 rfl (by decide)⟩ ?_
    refine yee [1,3,4] ?_
    refine ht_seq ?_
    obtain ⟨v10, hv10, h⟩:=zn h
    obtain ⟨v11, hv11, h⟩:=zn h
    refine yx hn 2 ?_
    refine ys 0 ⟨lb hv10⟩ ?_
    refine yS (.fr (.own 125) false 2 (flatten (map T_tree_node.ienc ([]:List T_tree_node)))) 0 ⟨op_mk0f _ _ 2 false _ _ el123 (by decide) rfl rfl hv11⟩ ?_
    refine ya 0 ?_
    refine yee [1,3,4,5] ?_
    refine ht_seq ?_
    refine yyy hn 3 [1,3,4,5,37,38,39] ?_
    refine ht_loopS h (fun ((s22,s23):(List T_tree_node)×Int)=>[(1,.box 73 [fi weights]),(3,.fl (.own 3) 1 (map (int .i64) v1)),(4,.fl (.own 3) 1 (map (int .i64) v9)),(5,.fr (.own 125) false 2 (flatten (map T_tree_node.ienc s22))),(37,.same (.slot 4)),(38,vi (v9.length:Int)),(39,vi s23)]) (fun (s25:(List T_tree_node))=>[(3,.fl (.own 3) 1 (map (int .i64) v1)),(4,.fl (.own 3) 1 (map (int .i64) v9)),(5,.fr (.own 125) false 2 (flatten (map T_tree_node.ienc s25)))]) ?_ ?_
    ·rintro s25 h
     refine pt_then (ht_seq ?_)
     obtain ⟨v33, hv33, h⟩:=zn h
     refine yx hn 0 ?_
     refine ym 0 ?_
     refine yk [52] [] ?_
     refine ytt (52,.any) (53,.fr .ro false 2 (flatten (map T_tree_node.ienc v33))) 1 ⟨op_callEf _ _ 52 73 _ _ rfl call73 rfl rfl (ok_tree_merge s25 _ hv33) rfl rfl rfl⟩ ?_
     refine yee [3,4,5] ?_
     refine ht_seq ?_
     obtain ⟨v34, hv34, h⟩:=zn h
     refine yx hn 2 ?_
     refine yS (.fl (.own 3) 1 (map (int .i64) v34)) 0 ⟨op_mk (f:=int .i64) _ _ _ _ el73 (by decide) zr3 rfl rfl rfl hv34⟩ ?_
     refine ya 0 ?_
     refine yee [3,4,5,8] ?_
     refine ht_seq ?_
     refine ht_seq ?_
     obtain ⟨v35, hv35, h⟩:=zn h
     refine yx hn 2 ?_
     refine ys 1 ⟨lb hv35⟩ ?_
     refine yee [3,4,5,8,9] ?_
     refine ht_loopS h (fun ((s48,s49):(List Int)×Int)=>[(3,.fl (.own 3) 1 (map (int .i64) v1)),(4,.fl (.own 3) 1 (map (int .i64) v9)),(5,.fr .ro false 2 (flatten (map T_tree_node.ienc v33))),(8,.fl (.own 3) 1 (map (int .i64) s48)),(9,vi s49)]) (fun (s51:(List Int))=>[(3,.fl (.own 3) 1 (map (int .i64) v1)),(4,.fl (.own 3) 1 (map (int .i64) v9)),(8,.fl (.own 3) 1 (map (int .i64) s51))]) ?_ ?_
     ·rintro s51 h
      refine pt_then (ht_seq ?_)
      refine yxx hn 0 ?_
      refine ym 2 ?_
      refine yee [3,8,76,77,78] ?_
      refine ht_loopS h (fun ((s70,s71):(List Int)×Int)=>[(3,.fl (.own 3) 1 (map (int .i64) s70)),(8,.fl (.own 3) 1 (map (int .i64) s51)),(76,.fl (.own 3) 1 (map (int .i64) v9)),(77,vi (v9.length:Int)),(78,vi s71)]) (fun (s73:(List Int))=>[(3,.fl (.own 3) 1 (map (int .i64) s73))]) ?_ ?_
      ·rintro s73 h
       refine pt_then ?_
       refine yxx hn 0 ?_
       refine ym 0 ?_
       refine ya 0 ?_
       refine yee [2] ?_
       refine ht_ret ?_
       obtain rfl:=zi h
       exact pt_ret hio rfl (.tmp _ _ .nil) rfl rfl
      ·rintro u74 hl75 hr76 ⟨s70, s71⟩ rr79 h ho77
       refine yyy hn 1 [3,8,76,77,78,79] ?_
       refine ht_seq ?_
       refine ht_cond _ rfl (fun hb80 => ?_) (fun hb80 => ?_)
       ·have h:=cond_t hb80 h
        refine ht_skip ?_
        refine pt_then (ht_seq ?_)
        refine ht_block ?_
        refine ht_seq ?_
        obtain ⟨v60, hv60, h⟩:=zn h
        obtain ⟨v61, hv61, h⟩:=zn h
        refine yx hn 1 ?_
        refine ys 0 ⟨li hv60⟩ ?_
        refine ys 2 ⟨ll hv61⟩ ?_
        refine yee [3,8,76,77,78,10,11] ?_
        obtain ⟨v62, hv62, h⟩:=zn h
        obtain ⟨v63, hv63, h⟩:=zn h
        obtain ⟨v64, hv64, h⟩:=zn h
        obtain ⟨v65, hv65, h⟩:=zn h
        refine yx hn 4 ?_
        refine ys 0 ⟨li hv62⟩ ?_
        refine ys 0 ⟨ll hv63⟩ ?_
        refine ys 0 ⟨li hv64⟩ ?_
        refine yk [3] [89,88] ?_
        refine yt (3,.fl (.own 3) 1 (map (int .i64) v65)) 0 ⟨op_store_e _ _ _ _ _ _ _ _ sz3 rfl rfl rfl (by decide) (map_lt (ix_ok hv64).2) ((map_set (f:=int .i64) _ (ix_ok hv64).2).trans (congrArg (map _) (Option.some.inj hv65)))⟩ ?_
        refine ye [3,8,76,77,78] ?_
        refine pt_inb ?_
        refine pt_then ?_
        obtain ⟨v66, hv66, h⟩:=zn h
        refine yx hn 0 ?_
        refine ys 0 ⟨lb hv66⟩ ?_
        refine yw [78] 1 ?_
        refine ye [3,8,76,77,78] ?_
        exact pt_next _ (zi h).symm rfl
       ·have h:=cond_f hb80 h
        refine ht_exit ?_
        refine pt_x_then ?_
        refine pt_x_then ?_
        refine pt_x_in ?_
        refine pt_pick [0] (by kernel_rfl) (es':=[(_,_)]) rfl ?_
        exact hl75 _ (ho77 _ (zi h).symm).symm
     ·rintro u52 hl53 hr54 ⟨s48, s49⟩ rr57 h ho55
      refine ht_seq ?_
      refine yyy hn 2 [3,4,5,8,9,61] ?_
      refine ht_cond _ rfl (fun hb58 => ?_) (fun hb58 => ?_)
      ·have h:=cond_t hb58 h
       refine ht_skip ?_
       refine pt_then (ht_seq ?_)
       refine ht_block ?_
       obtain ⟨v37, hv37, h⟩:=zn h
       obtain ⟨v38, hv38, h⟩:=zn h
       obtain ⟨v39, hv39, h⟩:=zn h
       obtain ⟨v40, hv40, h⟩:=zn h
       obtain ⟨v41, hv41, h⟩:=zn h
       obtain ⟨v42, hv42, h⟩:=zn h
       obtain ⟨v43, hv43, h⟩:=zn h
       refine yx hn 5 ?_
       refine ys 1 ⟨lI hv37⟩ ?_
       refine yS (vi v38.parent) 0 ⟨op_load_fr _ _ _ _ _ _ _ underlying3 rfl rfl rfl (gflat_cell T_tree_node.ilen hv38 rfl) (.v _)⟩ ?_
       refine ys 0 ⟨li hv39⟩ ?_
       refine ys 0 ⟨ll hv40⟩ ?_
       refine ys 0 ⟨lb hv41⟩ ?_
       refine ys 0 ⟨li hv42⟩ ?_
       refine yk [8] [75,74] ?_
       refine yt (8,.fl (.own 3) 1 (map (int .i64) v43)) 0 ⟨op_store_e _ _ _ _ _ _ _ _ sz3 rfl rfl rfl (by decide) (map_lt (ix_ok hv42).2) ((map_set (f:=int .i64) _ (ix_ok hv42).2).trans (congrArg (map _) (Option.some.inj hv43)))⟩ ?_
       refine ye [3,4,5,8,9] ?_
       refine pt_inb ?_
       refine pt_then ?_
       obtain ⟨v44, hv44, h⟩:=zn h
       refine yx hn 1 ?_
       refine ys 0 ⟨lb hv44⟩ ?_
       refine yw [9] 1 ?_
       refine ye [3,4,5,8,9] ?_
       exact pt_next _ (zi h).symm rfl
      ·have h:=cond_f hb58 h
       refine ht_exit ?_
       refine pt_x_then ?_
       refine pt_x_then ?_
       refine pt_x_in ?_
       refine pt_pick [0,1,3] (by kernel_rfl) (es':=[(_,_),(_,_),(_,_)]) rfl ?_
       exact hl53 _ (ho55 _ (zi h).symm).symm
    ·rintro u26 hl27 hr28 ⟨s22, s23⟩ rr31 h ho29
     refine yyy hn 1 [1,3,4,5,37,38,39,40] ?_
     refine ht_seq ?_
     refine ht_cond _ rfl (fun hb32 => ?_) (fun hb32 => ?_)
     ·have h:=cond_t hb32 h
      refine ht_skip ?_
      refine pt_then (ht_seq ?_)
      refine ht_block ?_
      refine ht_seq ?_
      obtain ⟨v13, hv13, h⟩:=zn h
      obtain ⟨v14, hv14, h⟩:=zn h
      refine yx hn 0 ?_
      refine ys 0 ⟨li hv13⟩ ?_
      refine ys 1 ⟨ll hv14⟩ ?_
      refine yee [1,3,4,5,37,38,39,7] ?_
      obtain ⟨v15, hv15, h⟩:=zn h
      obtain ⟨v16, hv16, h⟩:=zn h
      obtain ⟨v17, hv17, h⟩:=zn h
      refine yx hn 0 ?_
      refine ym 2 ?_
      refine ys 0 ⟨li hv15⟩ ?_
      refine ys 0 ⟨ll hv16⟩ ?_
      refine yS (.agg [vi v16,vi 0]) 0 ⟨op_build _ _ _ _ [1,1] _ _ underlying125 zr125 (fs125 _ underlying125) (.copy _ Src.nil) rfl rfl rfl⟩ ?_
      refine yS (.fr (.own 125) false 2 (flatten (map T_tree_node.ienc [(T_tree_node.mk v16 0)]))) 0 ⟨op_build1_fr _ _ _ 2 (.agg #[.int .i64 0,.int .i64 0]) false _ _ underlying123 sz125 zr125 rfl rfl (.cons (.v _) (.cons (.v _) (.nil))) rfl (by decide) (by decide)⟩ ?_
      refine yk [43] [49] ?_
      refine ytt (43,.any) (50,.fr (.own 125) false 2 (flatten (map T_tree_node.ienc v17))) 0 ⟨op_app_fr _ _ _ _ _ el123 rfl rfl (gflat_len T_tree_node.ilen _) (gflat_len T_tree_node.ilen _) hv17 (gflat_app (app_eq hv17)) (by decide) (by decide)⟩ ?_
      refine ya 0 ?_
      refine ye [1,3,4,37,38,39,5] ?_
      refine pt_inb ?_
      refine pt_then ?_
      obtain ⟨v18, hv18, h⟩:=zn h
      refine yx hn 0 ?_
      refine ys 0 ⟨lb hv18⟩ ?_
      refine yw [39] 1 ?_
      refine ye [1,3,4,37,38,5,39] ?_
      refine pt_pick [0,1,2,5,3,4,6] (by kernel_rfl) (es':=[(_,_),(_,_),(_,_),(_,_),(_,_),(_,_),(_,_)]) rfl ?_
      exact pt_next _ (zi h).symm rfl
     ·have h:=cond_f hb32 h
      refine ht_exit ?_
      refine pt_x_then ?_
      refine pt_x_then ?_
      refine pt_x_in ?_
      refine pt_pick [1,2,3] (by kernel_rfl) (es':=[(_,_),(_,_),(_,_)]) rfl ?_
      exact hl27 _ (ho29 _ (zi h).symm).symm
theorem ok_tree_Lengths_1_cap (bx:Nat) (n:Int) (cap:Int) (r:Bool) (h:Sh.tree_Lengths_1_cap n cap=some r):FnG Tryd.prog [(bx, [.int .i64 cap])] 55 [.v (.int .i64 n), .v (.pointer (some ⟨bx, 0, none⟩))] (.v (.bool r)):=by
  unfold Sh.tree_Lengths_1_cap at h
  refine yG 7 func55 fun g0 hn hio => ?_
  refine yyy hn 1 [0,1,7] ?_
  refine yxx hn 1 ?_
  refine yS (vi cap) 2 ⟨op_load_glob _ _ 7 bx 0 _ _ underlying3 rfl rfl rfl (.head _) rfl⟩ ?_
  refine yee [7,3] ?_
  refine ht_ret ?_
  refine pt_pick [1] (by kernel_rfl) (es':=[(_,_)]) rfl ?_
  obtain rfl:=zi h
  exact pt_ret hio rfl (.tmp _ _ .nil) rfl rfl
theorem ok_slices_IndexFunc_int_int_of_tree_Lengths_1 (bx:Nat) (s:(List Int)) (cap:Int) (r:Int) (h:Sh.slices_IndexFunc_int_int_of_tree_Lengths_1 s cap=some r):FnG Tryd.prog [(bx, [.int .i64 cap])] 74 [.fl .shr 1 (map (int .i64) s), .v (.func (.func 55) #[] #[.pointer (some ⟨bx, 0, none⟩)])] (.v (.int .i64 r)):=by
  unfold Sh.slices_IndexFunc_int_int_of_tree_Lengths_1 at h
  refine yG 19 func74 fun g0 hn hio => ?_
  refine yyy hn 1 [0,1,19] ?_
  refine ht_seq ?_
  refine yyy hn 3 [0,1,19,7,8] ?_
  refine ht_loopS h (fun (s10:Int)=>[(0,fi s),(1,.v (.func (.func 55) #[] #[.pointer (some ⟨bx,0,none⟩)])),(19,.glob [(bx,[.int .i64 cap])]),(7,vi (s.length:Int)),(8,vi s10)]) (fun (():Unit)=>[(19,.glob [(bx,[.int .i64 cap])])]) ?_ ?_
  ·rintro ⟨⟩ h
   refine pt_then ?_
   refine yyy hn 1 [19,4] ?_
   refine ht_ret ?_
   refine pt_pick [1] (by kernel_rfl) (es':=[(_,_)]) rfl ?_
   obtain rfl:=zi h
   exact pt_ret hio rfl (.tmp _ _ .nil) rfl rfl
  ·rintro u13 hl14 hr15 s10 rr18 h ho16
   refine yyy hn 1 [0,1,19,7,8,9] ?_
   refine ht_seq ?_
   refine ht_cond _ rfl (fun hb19 => ?_) (fun hb19 => ?_)
   ·have h:=cond_t hb19 h
    refine ht_skip ?_
    refine pt_then (ht_seq ?_)
    refine ht_block ?_
    refine yyy hn 2 [0,1,19,7,8,5] ?_
    refine ht_seq ?_
    obtain ⟨v2, hv2, h⟩:=zn h
    obtain ⟨v3, hv3, h⟩:=zn h
    obtain ⟨v4, hv4, h⟩:=zn h
    refine yx hn 3 ?_
    refine ys 0 ⟨li hv2⟩ ?_
    refine ys 0 ⟨ll hv3⟩ ?_
    refine yS (vb v4) 0 ⟨op_callV _ _ 19 55 (.pointer (some ⟨bx,0,none⟩)) _ _ rfl call55 rfl rfl (fun _ h=>h) (ok_tree_Lengths_1_cap bx v3 cap _ hv4) rfl rfl⟩ ?_
    refine yee [0,1,19,7,8,5,16] ?_
    refine ht_cond _ rfl (fun hb20 => ?_) (fun hb20 => ?_)
    ·have h:=cond_t hb20 h
     refine yyy hn 2 [19,4] ?_
     refine ht_ret ?_
     refine pt_pick [1] (by kernel_rfl) (es':=[(_,_)]) rfl ?_
     refine pt_r_in ?_
     refine pt_r_then ?_
     refine pt_r_then ?_
     refine pt_r_in ?_
     refine pt_r_then ?_
     have h:=hr15 _ (ho16 _ (zi h).symm).symm
     obtain rfl:=zi h
     exact pt_ret hio rfl (.tmp _ _ .nil) rfl rfl
    ·have h:=cond_f hb20 h
     refine ht_skip ?_
     refine pt_inb ?_
     refine pt_then ?_
     obtain ⟨v6, hv6, h⟩:=zn h
     refine yx hn 0 ?_
     refine ys 0 ⟨lb hv6⟩ ?_
     refine yw [8] 1 ?_
     refine ye [0,1,19,7,8] ?_
     exact pt_next _ (zi h).symm rfl
   ·have h:=cond_f hb19 h
    refine ht_exit ?_
    refine pt_x_then ?_
    refine pt_x_then ?_
    refine pt_x_in ?_
    refine pt_pick [2] (by kernel_rfl) (es':=[(_,_)]) rfl ?_
    exact hl14 _ (ho16 _ (zi h).symm).symm
theorem ok_slices_ContainsFunc_int_int_of_tree_Lengths_1 (bx:Nat) (s:(List Int)) (cap:Int) (r:Bool) (h:Sh.slices_ContainsFunc_int_int_of_tree_Lengths_1 s cap=some r):FnG Tryd.prog [(bx, [.int .i64 cap])] 54 [.fl .shr 1 (map (int .i64) s), .v (.func (.func 55) #[] #[.pointer (some ⟨bx, 0, none⟩)])] (.v (.bool r)):=by
  unfold Sh.slices_ContainsFunc_int_int_of_tree_Lengths_1 at h
  refine yG 9 func54 fun g0 hn hio => ?_
  refine yyy hn 1 [0,1,9] ?_
  refine ht_seq ?_
  obtain ⟨v1, hv1, h⟩:=zn h
  refine yx hn 2 ?_
  refine ys 2 ⟨lg call74 (ok_slices_IndexFunc_int_int_of_tree_Lengths_1 _ _ _ _ hv1) 9⟩ ?_
  refine yee [9,4] ?_
  refine ht_ret ?_
  refine pt_pick [1] (by kernel_rfl) (es':=[(_,_)]) rfl ?_
  obtain rfl:=zi h
  exact pt_ret hio rfl (.tmp _ _ .nil) rfl rfl
theorem ok_tree_Lengths (weights:(List Int)) (limit:Int) (r:((List Int)×Int)) (h:Sh.tree_Lengths weights limit=some r):FnOK Tryd.prog 37 [.fl .shr 1 (map (int .i64) weights), .v (.int .i64 limit)] (.tup [.fl (.own 3) 1 (map (int .i64) r.1), .v (.int .i64 r.2)]):=by
  unfold Sh.tree_Lengths at h
  refine yO 42 func37 fun g0 hn hio => ?_
  refine yyy hn 3 [0,3] ?_
  refine ht_seq ?_
  refine ht_seq ?_
  refine ht_joinS h (fun (s3:Bool)=>[(0,fi weights),(3,.box 3 [vi limit]),(18,vb s3)]) ?_ ?_
  ·rintro s3 h
   refine pt_then ?_
   refine ht_cond _ rfl (fun hb7 => ?_) (fun hb7 => ?_)
   ·have h:=cond_t hb7 h
    refine yyy hn 2 [4,5] ?_
    refine ht_ret ?_
    refine pt_sub (fs:=[(4,.fl (.own 3) 1 (map (int .i64) [])),(5,vi 1)]) (.sub _ (sub_nil 3 1) rfl (.same _ .nil)) ?_
    refine pt_r_then ?_
    obtain rfl:=zi h
    exact pt_ret hio rfl (.tmp _ _ (.tmp _ _ .nil)) rfl rfl
   ·have h:=cond_f hb7 h
    refine ht_skip ?_
    refine pt_then (ht_seq ?_)
    obtain ⟨v8, hv8, h⟩:=zn h
    refine yx hn 1 ?_
    refine ys 0 ⟨lk call52 (ok_slices_Clone_int_int _ _ hv8)⟩ ?_
    refine ya 0 ?_
    refine yee [3,6] ?_
    refine ht_loopS h (fun (s51:(List Int))=>[(3,.box 3 [vi limit]),(6,.fl (.own 3) 1 (map (int .i64) s51))]) (fun (():Unit)=>[]) ?_ ?_
    ·rintro ⟨⟩ h
     cases h
    ·rintro u68 hl69 hr70 s51 rr73 h ho71
     refine ht_block ?_
     refine ht_seq ?_
     obtain ⟨v9, hv9, h⟩:=zn h
     refine yx hn 1 ?_
     refine ys 0 ⟨lk call53 (ok_tree_depths _ _ hv9)⟩ ?_
     refine ya 0 ?_
     refine yee [3,6,7] ?_
     refine ht_seq ?_
     refine ht_seq ?_
     obtain ⟨v10, hv10, h⟩:=zn h
     refine yx hn 1 ?_
     refine yS (.clo 55 [3]) 0 ⟨op_makeFunc_name _ _ _ 3 (by decide)⟩ ?_
     refine yS (vb v10) 1 ⟨op_callC _ 25 3 24 54 55 [.int .i64 limit] [.tmp 23] _ _ rfl call54 rfl rfl rfl rfl (fun bx=>ok_slices_ContainsFunc_int_int_of_tree_Lengths_1 bx v9 limit _ hv10) rfl rfl⟩ ?_
     refine yee [3,6,7,26] ?_
     refine ht_cond _ rfl (fun hb74 => ?_) (fun hb74 => ?_)
     ·have h:=cond_t hb74 h
      refine yxx hn 0 ?_
      refine ym 0 ?_
      refine ya 1 ?_
      refine yee [4,5] ?_
      refine ht_ret ?_
      refine pt_r_then ?_
      refine pt_r_in ?_
      refine pt_r_then ?_
      refine pt_r_in ?_
      have h:=hr70 _ (ho71 _ (zi h).symm).symm
      obtain rfl:=zi h
      exact pt_ret hio rfl (.tmp _ _ (.tmp _ _ .nil)) rfl rfl
     ·have h:=cond_f hb74 h
      refine ht_skip ?_
      refine pt_then ?_
      refine yyy hn 3 [3,6,28,29,30] ?_
      refine ht_loopS h (fun ((s79,s80):(List Int)×Int)=>[(3,.box 3 [vi limit]),(6,.fl (.own 3) 1 (map (int .i64) s79)),(28,.same (.slot 6)),(29,vi (s51.length:Int)),(30,vi s80)]) (fun (s82:(List Int))=>[(3,.box 3 [vi limit]),(6,.fl (.own 3) 1 (map (int .i64) s82))]) ?_ ?_
      ·rintro s82 h
       refine pt_inb ?_
       exact pt_next _ (zi h).symm rfl
      ·rintro u83 hl84 hr85 ⟨s79, s80⟩ rr88 h ho86
       refine yyy hn 1 [3,6,28,29,30,31] ?_
       refine ht_seq ?_
       refine ht_cond _ rfl (fun hb89 => ?_) (fun hb89 => ?_)
       ·have h:=cond_t hb89 h
        refine ht_skip ?_
        refine pt_then (ht_seq ?_)
        refine ht_block ?_
        refine ht_seq ?_
        obtain ⟨v13, hv13, h⟩:=zn h
        obtain ⟨v14, hv14, h⟩:=zn h
        refine yx hn 1 ?_
        refine ys 0 ⟨li hv13⟩ ?_
        refine ys 2 ⟨ll hv14⟩ ?_
        refine yee [3,6,28,29,30,8,9] ?_
        obtain ⟨v15, hv15, h⟩:=zn h
        obtain ⟨v16, hv16, h⟩:=zn h
        obtain ⟨v17, hv17, h⟩:=zn h
        obtain ⟨v18, hv18, h⟩:=zn h
        refine yx hn 3 ?_
        refine ys 0 ⟨lb hv15⟩ ?_
        refine ys 0 ⟨lB (quo_ok hv16)⟩ ?_
        refine ys 0 ⟨li hv17⟩ ?_
        refine yk [6] [40,39] ?_
        refine yt (6,.fl (.own 3) 1 (map (int .i64) v18)) 0 ⟨op_store_e _ _ _ _ _ _ _ _ sz3 rfl rfl rfl (by decide) (map_lt (ix_ok hv17).2) ((map_set (f:=int .i64) _ (ix_ok hv17).2).trans (congrArg (map _) (Option.some.inj hv18)))⟩ ?_
        refine ye [3,6,28,29,30] ?_
        refine pt_inb ?_
        refine pt_then ?_
        obtain ⟨v19, hv19, h⟩:=zn h
        refine yx hn 0 ?_
        refine ys 0 ⟨lb hv19⟩ ?_
        refine yw [30] 1 ?_
        refine ye [3,6,28,29,30] ?_
        exact pt_next _ (zi h).symm rfl
       ·have h:=cond_f hb89 h
        refine ht_exit ?_
        refine pt_x_then ?_
        refine pt_x_then ?_
        refine pt_x_in ?_
        refine pt_pick [0,1] (by kernel_rfl) (es':=[(_,_),(_,_)]) rfl ?_
        exact hl84 _ (ho86 _ (zi h).symm).symm
  ·intro u4 h hl5 hr6
   obtain ⟨v1, hv1, h⟩:=zn h
   refine cond_some h (fun hg1_3 h => ?_) (fun hg1_3 h => ?_)
   ·refine yx hn 1 ?_
    refine ys 2 ⟨lk call50 (ok_tree_validWeights _ _ hv1)⟩ ?_
    refine yd hg1_3 5 ?_
    refine ye [0,3,18] ?_
    exact hl5 _ (zi h).symm
   ·obtain ⟨v2, hv2, h⟩:=zn h
    refine yx hn 1 ?_
    refine ys 2 ⟨lk call50 (ok_tree_validWeights _ _ hv1)⟩ ?_
    refine yd hg1_3 2 ?_
    refine ys 2 ⟨lk call51 (ok_tree_validLimit _ _ _ hv2)⟩ ?_
    refine ye [0,3,18] ?_
    exact hl5 _ (zi h).symm
theorem ok_shrink_trim_ro (l:(List Int)) (least:Int) (r:(List Int)) (h:Sh.shrink_trim_ro l least=some r):FnOK Tryd.prog 39 [.fl .ro 1 (map (int .i64) l), .v (.int .i64 least)] (.fl .ro 1 (map (int .i64) r)):=by
  unfold Sh.shrink_trim_ro at h
  refine yO 24 func39 fun g0 hn hio => ?_
  refine yyy hn 1 [0,1] ?_
  refine yyy hn 3 [0,1,5] ?_
  refine ht_seq ?_
  refine ht_loopS h (fun (s46:Int)=>[(0,.fl .ro 1 (map (int .i64) l)),(1,vi least),(5,vi s46)]) (fun (s52:Int)=>[(0,.fl .ro 1 (map (int .i64) l)),(5,vi s52)]) ?_ ?_
  ·rintro s52 h
   refine pt_then (ht_seq ?_)
   obtain ⟨v34, hv34, h⟩:=zn h
   refine yx hn 2 ?_
   refine yS (.fl .ro 1 (map (int .i64) v34)) 1 ⟨op_sl _ _ _ 0 s52 _ underlying73 sz3 rfl rfl rfl ⟨_,rfl⟩ hv34⟩ ?_
   refine yee [4] ?_
   refine ht_ret ?_
   obtain rfl:=zi h
   exact pt_ret hio rfl (.tmp _ _ .nil) rfl rfl
  ·rintro u53 hl54 hr55 s46 rr58 h ho56
   refine ht_seq ?_
   refine ht_seq ?_
   refine ht_joinS h (fun (s59:Bool)=>[(0,.fl .ro 1 (map (int .i64) l)),(1,vi least),(5,vi s46),(18,vb s59)]) ?_ ?_
   ·rintro s59 h
    refine pt_then ?_
    refine ht_cond _ rfl (fun hb63 => ?_) (fun hb63 => ?_)
    ·have h:=cond_t hb63 h
     refine ht_skip ?_
     refine pt_then ?_
     refine ht_block ?_
     obtain ⟨v9, hv9, h⟩:=zn h
     refine yx hn 1 ?_
     refine ys 0 ⟨lb hv9⟩ ?_
     refine yw [5] 1 ?_
     refine ye [0,1,5] ?_
     refine pt_inb ?_
     exact pt_next _ (zi h).symm rfl
    ·have h:=cond_f hb63 h
     refine ht_exit ?_
     refine pt_x_then ?_
     refine pt_x_then ?_
     refine pt_x_in ?_
     refine pt_pick [0,2] (by kernel_rfl) (es':=[(_,_),(_,_)]) rfl ?_
     exact hl54 _ (ho56 _ (zi h).symm).symm
   ·intro u60 h hl61 hr62
    refine cond_some h (fun hg2_3 h => ?_) (fun hg2_3 h => ?_)
    ·obtain ⟨v1, hv1, h⟩:=zn h
     obtain ⟨v2, hv2, h⟩:=zn h
     obtain ⟨v3, hv3, h⟩:=zn h
     refine yx hn 4 ?_
     refine yd hg2_3 2 ?_
     refine ys 0 ⟨lb hv1⟩ ?_
     refine ys 0 ⟨li hv2⟩ ?_
     refine ys 2 ⟨ll hv3⟩ ?_
     refine ye [0,1,5,18] ?_
     exact hl61 _ (zi h).symm
    ·refine yx hn 4 ?_
     refine yd hg2_3 7 ?_
     refine ye [0,1,5,18] ?_
     exact hl61 _ (zi h).symm
end Go.Proofs.YthceldoojddpiaaDoor
