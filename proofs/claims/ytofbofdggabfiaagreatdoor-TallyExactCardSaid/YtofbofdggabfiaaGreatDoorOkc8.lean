/-
  The model's runs are what is told in Lean.
-/
import Derived.Test.YtofbofdggabfiaaGreatDoorProg
import Derived.KernelRfl
import Derived.Test.YtofbofdggabfiaaGreatDoorShelf
import Derived.Test.YtofbofdggabfiaaGreatDoorB3
import Derived.Test.YtofbofdggabfiaaGreatDoorC1
import Derived.Test.YtofbofdggabfiaaGreatDoorOkc7
set_option linter.unusedVariables false
set_option linter.unusedSimpArgs false
set_option maxHeartbeats 1000000
namespace Go.Proofs.YtofbofdggabfiaaGreatDoor
open Go.Abs Go.Abs.Sh Tryz
open List (map flatten)
open Value (int)
theorem ok_wherryref23_Bound (s:T_Spool) (r:Int) (h:Sh.wherryref23_Bound s=some r):FnOK Tryz.prog 20 [.agg [.fr .shr true 11 (flatten (map T_Item.ienc s.Items)), .v (.int .i64 s.Packs), .fl .shr 1 (map (int .i64) s.Sent), .fl .shr 1 (map (int .u8) s.Part), .v (.int .i64 s.Of), .fl .shr 1 (map (int .i64) s.Done)]] (.v (.int .i64 r)):=by
  unfold Sh.wherryref23_Bound at h
  refine yO 54 func20 fun g0 hn hio => ?_
  refine yyy hn 2 [1] ?_
  refine yyy hn 1 [1,3] ?_
  refine ht_seq ?_
  refine yyy hn 1 [1,3,4] ?_
  refine ht_loopS h (fun ((s50,s51):Int×Int)=>[(1,.box 44 (T_Spool.c s [])),(3,vi s50),(4,vi s51)]) (fun (s67:Int)=>[(3,vi s67)]) ?_ ?_
  ·rintro s67 h
   refine pt_then ?_
   refine yyy hn 2 [2] ?_
   refine ht_ret ?_
   obtain rfl:=zi h
   exact pt_ret hio rfl (.tmp _ _ .nil) rfl rfl
  ·rintro u68 hl69 hr70 ⟨s50, s51⟩ rr73 h ho71
   refine ht_seq ?_
   refine yyy hn 5 [1,3,4,9] ?_
   refine ht_cond _ rfl (fun hb74 => ?_) (fun hb74 => ?_)
   ·have h:=cond_t hb74 h
    refine ht_skip ?_
    refine pt_then (ht_seq ?_)
    refine ht_joinS h (fun (s80:Int)=>[(1,.box 44 (T_Spool.c s [])),(4,vi s51),(3,vi s80)]) ?_ ?_
    ·rintro s80 h
     refine pt_then ?_
     obtain ⟨v32, hv32, h⟩:=zn h
     refine yx hn 1 ?_
     refine ys 0 ⟨lb hv32⟩ ?_
     refine yw [4] 1 ?_
     refine ye [1,3,4] ?_
     exact pt_next _ (zi h).symm rfl
    ·intro u81 h hl82 hr83
     refine ht_block ?_
     refine ht_seq ?_
     refine ht_joinS h (fun (s84:Bool)=>[(1,.box 44 (T_Spool.c s [])),(3,vi s50),(4,vi s51),(27,vb s84)]) ?_ ?_
     ·rintro s84 h
      refine pt_then ?_
      refine ht_cond _ rfl (fun hb88 => ?_) (fun hb88 => ?_)
      ·have h:=cond_t hb88 h
       obtain ⟨v11, hv11, h⟩:=zn h
       obtain ⟨v12, hv12, h⟩:=zn h
       obtain ⟨v13, hv13, h⟩:=zn h
       obtain ⟨v14, hv14, h⟩:=zn h
       obtain ⟨v15, hv15, h⟩:=zn h
       obtain ⟨v16, hv16, h⟩:=zn h
       obtain ⟨v17, hv17, h⟩:=zn h
       obtain ⟨v18, hv18, h⟩:=zn h
       obtain ⟨v19, hv19, h⟩:=zn h
       obtain ⟨v20, hv20, h⟩:=zn h
       obtain ⟨v21, hv21, h⟩:=zn h
       obtain ⟨v22, hv22, h⟩:=zn h
       refine wb [[3]] ?_
       refine wN [28] ?_
       refine wo [[1],[30,1],[4]] ⟨lb hv11⟩ ?_
       refine wN [31,32] ?_
       refine wo [[33,31],[34,31]] ⟨lI hv12⟩ ?_
       refine wN [35,31] ?_
       refine wS (fb v13.Mail.Body) [[36]] ⟨op_load_fr _ _ _ _ _ _ _ underlying25 rfl rfl rfl (gflat_cell (j:=5) T_Item.ilen hv13 rfl) (.fl _ _ rfl)⟩ ?_
       refine wN [37] ?_
       refine wo [] ⟨lb hv14⟩ ?_
       refine wN [38] ?_
       refine wo [] ⟨lb hv15⟩ ?_
       refine wN [39] ?_
       refine wo [] ⟨lB (quo_ok hv16)⟩ ?_
       refine wN [40] ?_
       refine wo [] ⟨lb hv17⟩ ?_
       refine wN [29,41] ?_
       refine wo [[1],[43,1],[4]] ⟨lb hv18⟩ ?_
       refine wN [44,45] ?_
       refine wo [[46,44],[47,44]] ⟨lI hv19⟩ ?_
       refine wN [48,44] ?_
       refine wS (.fl .shr 3 (flatten (map T_Path.enc v20.Mail.To))) [[49]] ⟨op_load_fr _ _ _ _ _ _ _ underlying30 rfl rfl rfl (gflat_cell (j:=4) T_Item.ilen hv20 rfl) (.fl _ _ rfl)⟩ ?_
       refine wN [50] ?_
       refine wo [] ⟨lb hv21⟩ ?_
       refine wN [42,51] ?_
       refine wo [] ⟨lb hv22⟩ ?_
       refine wK [3] [52] ?_
       refine wt [(3,vi v22)] [] ⟨LOp.drop [_] (op_assign _ _ _ _ rfl rfl)⟩ ?_
       refine we hn [1,4,3] ?_
       refine pt_inb ?_
       exact hl82 _ (zi h).symm
      ·have h:=cond_f hb88 h
       refine ht_skip ?_
       refine pt_inb ?_
       refine pt_pick [0,2,1] (by kernel_rfl) (es':=[(_,_),(_,_),(_,_)]) rfl ?_
       exact hl82 _ (zi h).symm
     ·intro u85 h hl86 hr87
      obtain ⟨v2, hv2, h⟩:=zn h
      obtain ⟨v3, hv3, h⟩:=zn h
      refine cond_some h (fun hg5_7 h => ?_) (fun hg5_7 h => ?_)
      ·refine yx hn 3 ?_
       refine ys 1 ⟨lI hv2⟩ ?_
       refine yS (vi v3.State) 2 ⟨op_load_fr _ _ _ _ _ _ _ underlying3 rfl rfl rfl (gflat_cell T_Item.ilen hv3 rfl) (.v _)⟩ ?_
       refine yd hg5_7 8 ?_
       refine ye [1,3,4,27] ?_
       exact hl86 _ (zi h).symm
      ·obtain ⟨v4, hv4, h⟩:=zn h
       obtain ⟨v5, hv5, h⟩:=zn h
       refine yx hn 3 ?_
       refine ys 1 ⟨lI hv2⟩ ?_
       refine yS (vi v3.State) 2 ⟨op_load_fr _ _ _ _ _ _ _ underlying3 rfl rfl rfl (gflat_cell T_Item.ilen hv3 rfl) (.v _)⟩ ?_
       refine yd hg5_7 3 ?_
       refine ys 1 ⟨lI hv4⟩ ?_
       refine yS (vi v5.State) 2 ⟨op_load_fr _ _ _ _ _ _ _ underlying3 rfl rfl rfl (gflat_cell T_Item.ilen hv5 rfl) (.v _)⟩ ?_
       refine ye [1,3,4,27] ?_
       exact hl86 _ (zi h).symm
   ·have h:=cond_f hb74 h
    refine ht_exit ?_
    refine pt_x_then ?_
    refine pt_x_then ?_
    refine pt_x_in ?_
    refine pt_pick [1] (by kernel_rfl) (es':=[(_,_)]) rfl ?_
    exact hl69 _ (ho71 _ (zi h).symm).symm
theorem ok_wherrykeep_Events (a:(List T_Event)) (b:(List T_Event)) (r:Bool) (h:Sh.wherrykeep_Events a b=some r):FnOK Tryz.prog 21 [.fr .shr true 9 (flatten (map T_Event.ienc a)), .fr .shr true 9 (flatten (map T_Event.ienc b))] (.v (.bool r)):=by
  unfold Sh.wherrykeep_Events at h
  refine yO 27 func21 fun g0 hn hio => ?_
  refine yyy hn 1 [0,1] ?_
  refine ht_seq ?_
  refine yyy hn 5 [0,1,10] ?_
  refine ht_cond _ rfl (fun hb1 => ?_) (fun hb1 => ?_)
  ·have h:=cond_t hb1 h
   refine yyy hn 1 [4] ?_
   refine ht_ret ?_
   refine pt_r_then ?_
   obtain rfl:=zi h
   exact pt_ret hio rfl (.tmp _ _ .nil) rfl rfl
  ·have h:=cond_f hb1 h
   refine ht_skip ?_
   refine pt_then (ht_seq ?_)
   refine yyy hn 1 [0,1,5] ?_
   refine ht_loopS h (fun (s13:Int)=>[(0,.fr .shr true 9 (flatten (map T_Event.ienc a))),(1,.fr .shr true 9 (flatten (map T_Event.ienc b))),(5,vi s13)]) (fun (():Unit)=>[]) ?_ ?_
   ·rintro ⟨⟩ h
    refine pt_then ?_
    refine yyy hn 1 [4] ?_
    refine ht_ret ?_
    obtain rfl:=zi h
    exact pt_ret hio rfl (.tmp _ _ .nil) rfl rfl
   ·rintro u16 hl17 hr18 s13 rr21 h ho19
    refine ht_seq ?_
    refine yyy hn 4 [0,1,5,14] ?_
    refine ht_cond _ rfl (fun hb22 => ?_) (fun hb22 => ?_)
    ·have h:=cond_t hb22 h
     refine ht_skip ?_
     refine pt_then (ht_seq ?_)
     refine ht_block ?_
     refine ht_seq ?_
     obtain ⟨v3, hv3, h⟩:=zn h
     obtain ⟨v4, hv4, h⟩:=zn h
     obtain ⟨v5, hv5, h⟩:=zn h
     obtain ⟨v6, hv6, h⟩:=zn h
     obtain ⟨v7, hv7, h⟩:=zn h
     refine wb [[0],[5]] ?_
     refine wN [17,18] ?_
     refine wo [] ⟨lI hv3⟩ ?_
     refine wN [19,17] ?_
     refine wS (.agg (T_Event.c v4 [])) [[1],[5]] ⟨op_loadA_fr _ _ _ _ _ _ _ _ underlying55 rfl sz55 rfl rfl (gflat_get T_Event.ilen hv4) (.cons (.v _) (.cons (.v _) (.cons (.v _) (.cons (.v _) (.cons (.v _) (.cons (.v _) (.cons (.v _) (.cons (.v _) (.cons (.fl _ _ rfl) (.nil)))))))))) rfl (by decide)⟩ ?_
     refine wN [21,22] ?_
     refine wo [] ⟨lI hv5⟩ ?_
     refine wN [23,21] ?_
     refine wS (.agg (T_Event.c v6 [])) [] ⟨op_loadA_fr _ _ _ _ _ _ _ _ underlying55 rfl sz55 rfl rfl (gflat_get T_Event.ilen hv6) (.cons (.v _) (.cons (.v _) (.cons (.v _) (.cons (.v _) (.cons (.v _) (.cons (.v _) (.cons (.v _) (.cons (.v _) (.cons (.fl _ _ rfl) (.nil)))))))))) rfl (by decide)⟩ ?_
     refine wN [20,24] ?_
     refine wo [[25]] ⟨lk call31 (ok_wherrykeep_Event _ _ _ hv7)⟩ ?_
     refine wee hn [0,1,5,26] ?_
     refine ht_cond _ rfl (fun hb23 => ?_) (fun hb23 => ?_)
     ·have h:=cond_t hb23 h
      refine yyy hn 1 [4] ?_
      refine ht_ret ?_
      refine pt_r_in ?_
      refine pt_r_then ?_
      refine pt_r_then ?_
      refine pt_r_in ?_
      refine pt_r_then ?_
      have h:=hr18 _ (ho19 _ (zi h).symm).symm
      obtain rfl:=zi h
      exact pt_ret hio rfl (.tmp _ _ .nil) rfl rfl
     ·have h:=cond_f hb23 h
      refine ht_skip ?_
      refine pt_inb ?_
      refine pt_then ?_
      obtain ⟨v9, hv9, h⟩:=zn h
      refine yx hn 1 ?_
      refine ys 0 ⟨lb hv9⟩ ?_
      refine yw [5] 1 ?_
      refine ye [0,1,5] ?_
      exact pt_next _ (zi h).symm rfl
    ·have h:=cond_f hb22 h
     refine ht_exit ?_
     refine pt_x_then ?_
     refine pt_x_then ?_
     refine pt_x_in ?_
     refine pt_pick [] (by kernel_rfl) (es':=[]) rfl ?_
     exact hl17 _ (ho19 _ (zi h).symm).symm
theorem ok_wherrylaw26_wakes (mx:Int) (r:Bool) (h:Sh.wherrylaw26_wakes  = some r):FnG Tryz.prog (GL mx) 22 [] (.v (.bool r)):=by
  unfold Sh.wherrylaw26_wakes at h
  refine yG 44 func22 fun g0 hn hio => ?_
  refine yyy hn 1 [44] ?_
  refine yxx hn 0 ?_
  refine yS (.agg [vb false,vs (⟨#[97]⟩:ByteArray),vs (⟨#[98]⟩:ByteArray)]) 0 ⟨op_build _ _ _ _ [1,1,1] _ _ underlying24 zr24 (fs24 _ underlying24) (.copy _ (.copy _ Src.nil)) rfl rfl rfl⟩ ?_
  refine yS (.fl (.own 5) 1 (map (int .u8) [120])) 0 ⟨op_buildSlice _ _ 1 (.int .u8 0) (map (int .u8) [120]) [(0,.int .u8 120)] underlying25 sz5 zr5 (fun _ V w o a hv hes=>by simp only [List.map_toArray,List.map_cons,List.map_nil]; try rfl) (litfill (by simp [Instr.fill,Value.cells]; rfl) (by simp [List.range,List.range.loop] <;> rfl)) (by simp [Value.oneCell']) rfl (by decide) (by decide) (by decide)⟩ ?_
  refine yk [5] [] ?_
  refine yt (6,.fl .ro 1 (map (int .u8) [120])) 0 ⟨op_conv_mark _ _ _ underlying25 underlying5 (by intro h; cases h)⟩ ?_
  refine yS (.agg [vi 1,vi 1,vb false,vs z0,vs z0,vb false,vs (⟨#[97]⟩:ByteArray),vs (⟨#[98]⟩:ByteArray),.fl .ro 1 (map (int .u8) [120])]) 0 ⟨op_build _ _ _ _ [1,1,3,3,1] _ _ underlying55 zr55 (fs55 _ underlying55) (.copy _ (.copy _ (.copy _ (.copy _ Src.nil)))) rfl rfl rfl⟩ ?_
  refine yS (.box 55 [vi 0,vi 0,vb false,vs z0,vs z0,vb false,vs z0,vs z0,vz]) 1 ⟨oA (op_alloc _ _ zr55)⟩ ?_
  refine yee [44,1] ?_
  refine ht_seq ?_
  obtain ⟨v1, hv1, h⟩:=zn h
  refine yx hn 2 ?_
  refine yS (.fr (.own 55) false 9 (flatten (map T_Event.ienc ([(T_Event.mk 1 1 ((T_Path.mk false z0 z0)) ((T_Path.mk false (⟨#[97]⟩:ByteArray) (⟨#[98]⟩:ByteArray))) [120]),(T_Event.mk 1 1 ((T_Path.mk false z0 z0)) ((T_Path.mk false (⟨#[97]⟩:ByteArray) (⟨#[98]⟩:ByteArray))) [120])])))) 4 ⟨op_buildn_fr _ _ 2 9 (.agg #[.int .i64 0,.int .i64 0,.bool false,.string ByteArray.empty,.string ByteArray.empty,.bool false,.string ByteArray.empty,.string ByteArray.empty,.slice none 0 0]) false [some (.tmp 9),some (.tmp 10)] _ underlying22 sz55 zr55 rfl rfl (by kernel_rfl) rfl rfl (.some (ics:=T_Event.ienc ((T_Event.mk 1 1 ((T_Path.mk false z0 z0)) ((T_Path.mk false (⟨#[97]⟩:ByteArray) (⟨#[98]⟩:ByteArray))) [120]))) (jcs:=(flatten (map T_Event.ienc ([(T_Event.mk 1 1 ((T_Path.mk false z0 z0)) ((T_Path.mk false (⟨#[97]⟩:ByteArray) (⟨#[98]⟩:ByteArray))) [120])]:List T_Event)))) _ rfl rfl (.cons (.v _) (.cons (.v _) (.cons (.v _) (.cons (.v _) (.cons (.v _) (.cons (.v _) (.cons (.v _) (.cons (.v _) (.cons (.ro _ _ rfl) (.nil)))))))))) rfl (.some (ics:=T_Event.ienc ((T_Event.mk 1 1 ((T_Path.mk false z0 z0)) ((T_Path.mk false (⟨#[97]⟩:ByteArray) (⟨#[98]⟩:ByteArray))) [120]))) (jcs:=(flatten (map T_Event.ienc ([]:List T_Event)))) _ rfl rfl (.cons (.v _) (.cons (.v _) (.cons (.v _) (.cons (.v _) (.cons (.v _) (.cons (.v _) (.cons (.v _) (.cons (.v _) (.cons (.ro _ _ rfl) (.nil)))))))))) rfl (.nil))) (by decide) (by decide) (by decide)⟩ ?_
  refine ys 0 ⟨lg call9 (ok_tally_Of _ _ _ _ _ _ hv1) 44⟩ ?_
  refine ym 4 ?_
  refine yee [44,1,2,3] ?_
  refine ht_seq ?_
  refine ht_joinS h (fun (s5:Bool)=>[(44,.glob (GL mx)),(0,vb s5)]) ?_ ?_
  ·rintro s5 h
   refine pt_then (ht_ret ?_)
   refine pt_pick [1] (by kernel_rfl) (es':=[(_,_)]) rfl ?_
   obtain rfl:=zi h
   exact pt_ret hio rfl (.tmp _ _ .nil) rfl rfl
  ·intro u6 h hl7 hr8
   obtain ⟨v2, hv2, h⟩:=zn h
   refine cond_some h (fun hg3_5 h => ?_) (fun hg3_5 h => ?_)
   ·refine cond_some h (fun hg3_9 h => ?_) (fun hg3_9 h => ?_)
    ·refine cond_some h (fun hg3_13 h => ?_) (fun hg3_13 h => ?_)
     ·obtain ⟨v3, hv3, h⟩:=zn h
      refine cond_some h (fun hg3_18 h => ?_) (fun hg3_18 h => ?_)
      ·obtain ⟨v4, hv4, h⟩:=zn h
       refine yx hn 2 ?_
       refine yS (.fr (.own 55) false 9 (flatten (map T_Event.ienc ([(T_Event.mk 1 1 ((T_Path.mk false z0 z0)) ((T_Path.mk false (⟨#[97]⟩:ByteArray) (⟨#[98]⟩:ByteArray))) [120]),(T_Event.mk 1 1 ((T_Path.mk false z0 z0)) ((T_Path.mk false (⟨#[97]⟩:ByteArray) (⟨#[98]⟩:ByteArray))) [120])])))) 0 ⟨op_buildn_fr _ _ 2 9 (.agg #[.int .i64 0,.int .i64 0,.bool false,.string ByteArray.empty,.string ByteArray.empty,.bool false,.string ByteArray.empty,.string ByteArray.empty,.slice none 0 0]) false [some (.tmp 19),some (.tmp 20)] _ underlying22 sz55 zr55 rfl rfl (by kernel_rfl) rfl rfl (.some (ics:=T_Event.ienc ((T_Event.mk 1 1 ((T_Path.mk false z0 z0)) ((T_Path.mk false (⟨#[97]⟩:ByteArray) (⟨#[98]⟩:ByteArray))) [120]))) (jcs:=(flatten (map T_Event.ienc ([(T_Event.mk 1 1 ((T_Path.mk false z0 z0)) ((T_Path.mk false (⟨#[97]⟩:ByteArray) (⟨#[98]⟩:ByteArray))) [120])]:List T_Event)))) _ rfl rfl (.cons (.v _) (.cons (.v _) (.cons (.v _) (.cons (.v _) (.cons (.v _) (.cons (.v _) (.cons (.v _) (.cons (.v _) (.cons (.ro _ _ rfl) (.nil)))))))))) rfl (.some (ics:=T_Event.ienc ((T_Event.mk 1 1 ((T_Path.mk false z0 z0)) ((T_Path.mk false (⟨#[97]⟩:ByteArray) (⟨#[98]⟩:ByteArray))) [120]))) (jcs:=(flatten (map T_Event.ienc ([]:List T_Event)))) _ rfl rfl (.cons (.v _) (.cons (.v _) (.cons (.v _) (.cons (.v _) (.cons (.v _) (.cons (.v _) (.cons (.v _) (.cons (.v _) (.cons (.ro _ _ rfl) (.nil)))))))))) rfl (.nil))) (by decide) (by decide) (by decide)⟩ ?_
       refine ys 2 ⟨lk call12 (ok_tally_Count _ _ hv2)⟩ ?_
       refine yd hg3_5 4 ?_
       refine yd hg3_9 4 ?_
       refine yd hg3_13 0 ?_
       refine yS (.agg [vz,vi 0,vz,vz,vi 0,vz]) 0 ⟨op_build _ _ _ _ [1,1,1,1,1,1] _ _ underlying44 zr44 (fs44 _ underlying44) Src.nil rfl rfl rfl⟩ ?_
       refine yS (vi v3) 3 ⟨op_call _ _ 19 _ _ rfl call19 rfl ((ok_tally_Bound (T_Spool.mk [] 0 [] [] 0 []) _ hv3).args (subs_cons (sub_agg (subs_cons (sub_nil_frs true 11) (subs_cons (sub_refl _) (subs_cons (sub_nil_shr 1) (subs_cons (sub_nil_shr 1) (subs_cons (sub_refl _) (subs_cons (sub_nil_shr 1) (subs_nil)))))))) (subs_nil))) rfl rfl⟩ ?_
       refine yd hg3_18 0 ?_
       refine yS (.agg [vi 0,vb false,vs z0,vs z0,vz,vz,vb false,vs z0,vi 0,vi 1,vi 0]) 0 ⟨op_build _ _ _ _ [1,8,1,1] _ _ underlying74 zr74 (fs74 _ underlying74) (.copy _ Src.nil) rfl rfl rfl⟩ ?_
       refine yS (.fr (.own 74) false 11 (flatten (map T_Item.ienc ([(T_Item.mk 0 ((T_Mail.mk ((T_Path.mk false z0 z0)) [] [] false z0 0)) 1 0)])))) 0 ⟨op_build1_fr _ _ _ 11 (.agg #[.int .i64 0,.bool false,.string ByteArray.empty,.string ByteArray.empty,.slice none 0 0,.slice none 0 0,.bool false,.string ByteArray.empty,.int .i64 0,.int .i64 0,.int .i64 0]) false _ _ underlying41 sz74 zr74 rfl rfl (.cons (.v _) (.cons (.v _) (.cons (.v _) (.cons (.v _) (.cons (.nil 3) (.cons (.nil 1) (.cons (.v _) (.cons (.v _) (.cons (.v _) (.cons (.v _) (.cons (.v _) (.nil)))))))))))) rfl (by decide) (by decide)⟩ ?_
       refine yk [39] [] ?_
       refine yt (40,.agg [.fr (.own 74) false 11 (flatten (map T_Item.ienc ([(T_Item.mk 0 ((T_Mail.mk ((T_Path.mk false z0 z0)) [] [] false z0 0)) 1 0)]))),vi 0,vz,vz,vi 0,vz]) 0 ⟨op_build _ _ _ _ [1,1,1,1,1,1] _ _ underlying44 zr44 (fs44 _ underlying44) (.take _ _ Src.nil) rfl rfl rfl⟩ ?_
       refine yS (vi v4) 3 ⟨op_call _ _ 14 _ _ rfl call14 rfl ((ok_tally_Waits ((T_Spool.mk ([(T_Item.mk 0 ((T_Mail.mk ((T_Path.mk false z0 z0)) [] [] false z0 0)) 1 0)]) 0 [] [] 0 [])) _ hv4).args (subs_cons (sub_agg (subs_cons (sub_refl _) (subs_cons (sub_refl _) (subs_cons (sub_nil_shr 1) (subs_cons (sub_nil_shr 1) (subs_cons (sub_refl _) (subs_cons (sub_nil_shr 1) (subs_nil)))))))) (subs_nil))) rfl rfl⟩ ?_
       refine ye [44,0] ?_
       exact hl7 _ (zi h).symm
      ·refine yx hn 2 ?_
       refine yS (.fr (.own 55) false 9 (flatten (map T_Event.ienc ([(T_Event.mk 1 1 ((T_Path.mk false z0 z0)) ((T_Path.mk false (⟨#[97]⟩:ByteArray) (⟨#[98]⟩:ByteArray))) [120]),(T_Event.mk 1 1 ((T_Path.mk false z0 z0)) ((T_Path.mk false (⟨#[97]⟩:ByteArray) (⟨#[98]⟩:ByteArray))) [120])])))) 0 ⟨op_buildn_fr _ _ 2 9 (.agg #[.int .i64 0,.int .i64 0,.bool false,.string ByteArray.empty,.string ByteArray.empty,.bool false,.string ByteArray.empty,.string ByteArray.empty,.slice none 0 0]) false [some (.tmp 19),some (.tmp 20)] _ underlying22 sz55 zr55 rfl rfl (by kernel_rfl) rfl rfl (.some (ics:=T_Event.ienc ((T_Event.mk 1 1 ((T_Path.mk false z0 z0)) ((T_Path.mk false (⟨#[97]⟩:ByteArray) (⟨#[98]⟩:ByteArray))) [120]))) (jcs:=(flatten (map T_Event.ienc ([(T_Event.mk 1 1 ((T_Path.mk false z0 z0)) ((T_Path.mk false (⟨#[97]⟩:ByteArray) (⟨#[98]⟩:ByteArray))) [120])]:List T_Event)))) _ rfl rfl (.cons (.v _) (.cons (.v _) (.cons (.v _) (.cons (.v _) (.cons (.v _) (.cons (.v _) (.cons (.v _) (.cons (.v _) (.cons (.ro _ _ rfl) (.nil)))))))))) rfl (.some (ics:=T_Event.ienc ((T_Event.mk 1 1 ((T_Path.mk false z0 z0)) ((T_Path.mk false (⟨#[97]⟩:ByteArray) (⟨#[98]⟩:ByteArray))) [120]))) (jcs:=(flatten (map T_Event.ienc ([]:List T_Event)))) _ rfl rfl (.cons (.v _) (.cons (.v _) (.cons (.v _) (.cons (.v _) (.cons (.v _) (.cons (.v _) (.cons (.v _) (.cons (.v _) (.cons (.ro _ _ rfl) (.nil)))))))))) rfl (.nil))) (by decide) (by decide) (by decide)⟩ ?_
       refine ys 2 ⟨lk call12 (ok_tally_Count _ _ hv2)⟩ ?_
       refine yd hg3_5 4 ?_
       refine yd hg3_9 4 ?_
       refine yd hg3_13 0 ?_
       refine yS (.agg [vz,vi 0,vz,vz,vi 0,vz]) 0 ⟨op_build _ _ _ _ [1,1,1,1,1,1] _ _ underlying44 zr44 (fs44 _ underlying44) Src.nil rfl rfl rfl⟩ ?_
       refine yS (vi v3) 3 ⟨op_call _ _ 19 _ _ rfl call19 rfl ((ok_tally_Bound (T_Spool.mk [] 0 [] [] 0 []) _ hv3).args (subs_cons (sub_agg (subs_cons (sub_nil_frs true 11) (subs_cons (sub_refl _) (subs_cons (sub_nil_shr 1) (subs_cons (sub_nil_shr 1) (subs_cons (sub_refl _) (subs_cons (sub_nil_shr 1) (subs_nil)))))))) (subs_nil))) rfl rfl⟩ ?_
       refine yd hg3_18 7 ?_
       refine ye [44,0] ?_
       exact hl7 _ (zi h).symm
     ·refine yx hn 2 ?_
      refine yS (.fr (.own 55) false 9 (flatten (map T_Event.ienc ([(T_Event.mk 1 1 ((T_Path.mk false z0 z0)) ((T_Path.mk false (⟨#[97]⟩:ByteArray) (⟨#[98]⟩:ByteArray))) [120]),(T_Event.mk 1 1 ((T_Path.mk false z0 z0)) ((T_Path.mk false (⟨#[97]⟩:ByteArray) (⟨#[98]⟩:ByteArray))) [120])])))) 0 ⟨op_buildn_fr _ _ 2 9 (.agg #[.int .i64 0,.int .i64 0,.bool false,.string ByteArray.empty,.string ByteArray.empty,.bool false,.string ByteArray.empty,.string ByteArray.empty,.slice none 0 0]) false [some (.tmp 19),some (.tmp 20)] _ underlying22 sz55 zr55 rfl rfl (by kernel_rfl) rfl rfl (.some (ics:=T_Event.ienc ((T_Event.mk 1 1 ((T_Path.mk false z0 z0)) ((T_Path.mk false (⟨#[97]⟩:ByteArray) (⟨#[98]⟩:ByteArray))) [120]))) (jcs:=(flatten (map T_Event.ienc ([(T_Event.mk 1 1 ((T_Path.mk false z0 z0)) ((T_Path.mk false (⟨#[97]⟩:ByteArray) (⟨#[98]⟩:ByteArray))) [120])]:List T_Event)))) _ rfl rfl (.cons (.v _) (.cons (.v _) (.cons (.v _) (.cons (.v _) (.cons (.v _) (.cons (.v _) (.cons (.v _) (.cons (.v _) (.cons (.ro _ _ rfl) (.nil)))))))))) rfl (.some (ics:=T_Event.ienc ((T_Event.mk 1 1 ((T_Path.mk false z0 z0)) ((T_Path.mk false (⟨#[97]⟩:ByteArray) (⟨#[98]⟩:ByteArray))) [120]))) (jcs:=(flatten (map T_Event.ienc ([]:List T_Event)))) _ rfl rfl (.cons (.v _) (.cons (.v _) (.cons (.v _) (.cons (.v _) (.cons (.v _) (.cons (.v _) (.cons (.v _) (.cons (.v _) (.cons (.ro _ _ rfl) (.nil)))))))))) rfl (.nil))) (by decide) (by decide) (by decide)⟩ ?_
      refine ys 2 ⟨lk call12 (ok_tally_Count _ _ hv2)⟩ ?_
      refine yd hg3_5 4 ?_
      refine yd hg3_9 4 ?_
      refine yd hg3_13 12 ?_
      refine ye [44,0] ?_
      exact hl7 _ (zi h).symm
    ·refine yx hn 2 ?_
     refine yS (.fr (.own 55) false 9 (flatten (map T_Event.ienc ([(T_Event.mk 1 1 ((T_Path.mk false z0 z0)) ((T_Path.mk false (⟨#[97]⟩:ByteArray) (⟨#[98]⟩:ByteArray))) [120]),(T_Event.mk 1 1 ((T_Path.mk false z0 z0)) ((T_Path.mk false (⟨#[97]⟩:ByteArray) (⟨#[98]⟩:ByteArray))) [120])])))) 0 ⟨op_buildn_fr _ _ 2 9 (.agg #[.int .i64 0,.int .i64 0,.bool false,.string ByteArray.empty,.string ByteArray.empty,.bool false,.string ByteArray.empty,.string ByteArray.empty,.slice none 0 0]) false [some (.tmp 19),some (.tmp 20)] _ underlying22 sz55 zr55 rfl rfl (by kernel_rfl) rfl rfl (.some (ics:=T_Event.ienc ((T_Event.mk 1 1 ((T_Path.mk false z0 z0)) ((T_Path.mk false (⟨#[97]⟩:ByteArray) (⟨#[98]⟩:ByteArray))) [120]))) (jcs:=(flatten (map T_Event.ienc ([(T_Event.mk 1 1 ((T_Path.mk false z0 z0)) ((T_Path.mk false (⟨#[97]⟩:ByteArray) (⟨#[98]⟩:ByteArray))) [120])]:List T_Event)))) _ rfl rfl (.cons (.v _) (.cons (.v _) (.cons (.v _) (.cons (.v _) (.cons (.v _) (.cons (.v _) (.cons (.v _) (.cons (.v _) (.cons (.ro _ _ rfl) (.nil)))))))))) rfl (.some (ics:=T_Event.ienc ((T_Event.mk 1 1 ((T_Path.mk false z0 z0)) ((T_Path.mk false (⟨#[97]⟩:ByteArray) (⟨#[98]⟩:ByteArray))) [120]))) (jcs:=(flatten (map T_Event.ienc ([]:List T_Event)))) _ rfl rfl (.cons (.v _) (.cons (.v _) (.cons (.v _) (.cons (.v _) (.cons (.v _) (.cons (.v _) (.cons (.v _) (.cons (.v _) (.cons (.ro _ _ rfl) (.nil)))))))))) rfl (.nil))) (by decide) (by decide) (by decide)⟩ ?_
     refine ys 2 ⟨lk call12 (ok_tally_Count _ _ hv2)⟩ ?_
     refine yd hg3_5 4 ?_
     refine yd hg3_9 16 ?_
     refine ye [44,0] ?_
     exact hl7 _ (zi h).symm
   ·refine yx hn 2 ?_
    refine yS (.fr (.own 55) false 9 (flatten (map T_Event.ienc ([(T_Event.mk 1 1 ((T_Path.mk false z0 z0)) ((T_Path.mk false (⟨#[97]⟩:ByteArray) (⟨#[98]⟩:ByteArray))) [120]),(T_Event.mk 1 1 ((T_Path.mk false z0 z0)) ((T_Path.mk false (⟨#[97]⟩:ByteArray) (⟨#[98]⟩:ByteArray))) [120])])))) 0 ⟨op_buildn_fr _ _ 2 9 (.agg #[.int .i64 0,.int .i64 0,.bool false,.string ByteArray.empty,.string ByteArray.empty,.bool false,.string ByteArray.empty,.string ByteArray.empty,.slice none 0 0]) false [some (.tmp 19),some (.tmp 20)] _ underlying22 sz55 zr55 rfl rfl (by kernel_rfl) rfl rfl (.some (ics:=T_Event.ienc ((T_Event.mk 1 1 ((T_Path.mk false z0 z0)) ((T_Path.mk false (⟨#[97]⟩:ByteArray) (⟨#[98]⟩:ByteArray))) [120]))) (jcs:=(flatten (map T_Event.ienc ([(T_Event.mk 1 1 ((T_Path.mk false z0 z0)) ((T_Path.mk false (⟨#[97]⟩:ByteArray) (⟨#[98]⟩:ByteArray))) [120])]:List T_Event)))) _ rfl rfl (.cons (.v _) (.cons (.v _) (.cons (.v _) (.cons (.v _) (.cons (.v _) (.cons (.v _) (.cons (.v _) (.cons (.v _) (.cons (.ro _ _ rfl) (.nil)))))))))) rfl (.some (ics:=T_Event.ienc ((T_Event.mk 1 1 ((T_Path.mk false z0 z0)) ((T_Path.mk false (⟨#[97]⟩:ByteArray) (⟨#[98]⟩:ByteArray))) [120]))) (jcs:=(flatten (map T_Event.ienc ([]:List T_Event)))) _ rfl rfl (.cons (.v _) (.cons (.v _) (.cons (.v _) (.cons (.v _) (.cons (.v _) (.cons (.v _) (.cons (.v _) (.cons (.v _) (.cons (.ro _ _ rfl) (.nil)))))))))) rfl (.nil))) (by decide) (by decide) (by decide)⟩ ?_
    refine ys 2 ⟨lk call12 (ok_tally_Count _ _ hv2)⟩ ?_
    refine yd hg3_5 20 ?_
    refine ye [44,0] ?_
    exact hl7 _ (zi h).symm
end Go.Proofs.YtofbofdggabfiaaGreatDoor
