/-
  The model's runs are what is told in Lean.
-/
import Derived.Test.YtglabbpbianmnaaGreatDoorProg
import Derived.KernelRfl
import Derived.Test.YtglabbpbianmnaaGreatDoorShelf
import Derived.Test.YtglabbpbianmnaaGreatDoorIdx
import Derived.Test.YtglabbpbianmnaaGreatDoorBH
import Derived.Test.YtglabbpbianmnaaGreatDoorC1
import Derived.Test.YtglabbpbianmnaaGreatDoorOkc6
set_option linter.unusedVariables false
set_option linter.unusedSimpArgs false
set_option maxHeartbeats 1000000
namespace Go.Proofs.YtglabbpbianmnaaGreatDoor
open Go.Abs Go.Abs.Sh Tryz
open List (map flatten)
open Value (int)

theorem ok_wherrylaw17_BundleLong (mx:Int) (over:Int) (r:Bool) (h:Sh.wherrylaw17_BundleLong over=some r):FnG Tryz.prog (GL mx) 8 [.v (.int .i64 over)] (.v (.bool r)):=by
  unfold Sh.wherrylaw17_BundleLong at h
  refine yG 131 func8 fun g0 hn hio => ?_
  refine yyy hn 1 [0,131] ?_
  refine ht_seq ?_
  obtain ⟨v1, hv1, h⟩:=zn h
  obtain ⟨v2, hv2, h⟩:=zn h
  obtain ⟨v3, hv3, h⟩:=zn h
  refine yx hn 1 ?_
  refine ys 0 ⟨lv hv1⟩ ?_
  refine ys 0 ⟨lB (rem_ok hv2)⟩ ?_
  refine ys 0 ⟨lv hv3⟩ ?_
  refine yw [0] 1 ?_
  refine yee [131,0] ?_
  refine yxx hn 0 ?_
  refine yS (.agg [vb true,vs z0,vs z0]) 0 ⟨op_build _ _ _ _ [1,1,1] _ _ underlying43 zr43 (fs43 _ underlying43) (.copy _ Src.nil) rfl rfl rfl⟩ ?_
  refine yS (.agg [vb false,vs (⟨#[97]⟩:ByteArray),vs (⟨#[98]⟩:ByteArray)]) 0 ⟨op_build _ _ _ _ [1,1,1] _ _ underlying43 zr43 (fs43 _ underlying43) (.copy _ (.copy _ Src.nil)) rfl rfl rfl⟩ ?_
  refine yS (.fl (.own 43) 3 (flatten (map T_Path.enc ([(T_Path.mk false (⟨#[97]⟩:ByteArray) (⟨#[98]⟩:ByteArray))])))) 0 ⟨op_buildSlice _ _ 3 (.agg #[.bool false,.string ByteArray.empty,.string ByteArray.empty]) (flatten (map T_Path.enc ([(T_Path.mk false (⟨#[97]⟩:ByteArray) (⟨#[98]⟩:ByteArray))]))) [(0,.agg #[.bool false,.string (⟨#[97]⟩:ByteArray),.string (⟨#[98]⟩:ByteArray)])] underlying44 sz43 zr43 (fun _ V w o a hv hes=>by have e0:=agg_v (ys:=[.bool false,.string (⟨#[97]⟩:ByteArray),.string (⟨#[98]⟩:ByteArray)]) hv hes (x := .tmp 26) rfl; simp only [List.map_toArray,List.map_cons,List.map_nil,e0]; try rfl) (litfill (by simp [Instr.fill,Value.cells]; rfl) (by simp [List.range,List.range.loop,T_Path.enc] <;> rfl)) (by simp [Value.oneCell',T_Path.enc]) rfl (by decide) (by decide) (by decide)⟩ ?_
  refine yk [27] [25] ?_
  refine yt (28,.agg [vb true,vs z0,vs z0,.fl (.own 43) 3 (flatten (map T_Path.enc ([(T_Path.mk false (⟨#[97]⟩:ByteArray) (⟨#[98]⟩:ByteArray))]))),vz,vb false,vs z0,vi 0]) 0 ⟨op_build _ _ _ _ [3,1,1,1,1,1] _ _ underlying46 zr46 (fs46 _ underlying46) (.copy _ (.take _ _ Src.nil)) rfl rfl rfl⟩ ?_
  refine yS (.box 46 [vb false,vs z0,vs z0,vz,vz,vb false,vs z0,vi 0]) 0 ⟨oA (op_alloc _ _ zr46)⟩ ?_
  refine yk [28,3] [] ?_
  refine yt (3,.box 46 [vb true,vs z0,vs z0,.fl (.own 43) 3 (flatten (map T_Path.enc ([(T_Path.mk false (⟨#[97]⟩:ByteArray) (⟨#[98]⟩:ByteArray))]))),vz,vb false,vs z0,vi 0]) 0 ⟨op_store_take _ _ _ _ _ _ _ _ sz46 rfl rfl rfl (zl rfl) rfl rfl⟩ ?_
  refine yee [131,0,3] ?_
  refine yxx hn 0 ?_
  refine yk [3] [] ?_
  refine yt (29,.agg [vb true,vs z0,vs z0,.fl (.own 43) 3 (flatten (map T_Path.enc ([(T_Path.mk false (⟨#[97]⟩:ByteArray) (⟨#[98]⟩:ByteArray))]))),vz,vb false,vs z0,vi 0]) 0 ⟨op_loadA_take _ _ _ _ underlying46 rfl sz46 rfl rfl⟩ ?_
  refine yk [29] [] ?_
  refine yt (30,.hid (ownJ 46 8 (flatten (map oe46 ([(T_Mail.mk ((T_Path.mk true z0 z0)) ([(T_Path.mk false (⟨#[97]⟩:ByteArray) (⟨#[98]⟩:ByteArray))]) [] false z0 0)]))))) 0 ⟨LOp.subT (sub_agg (subs_cons (sub_refl _) (subs_cons (sub_refl _) (subs_cons (sub_refl _) (subs_cons (sub_refl _) (subs_cons (sub_nil 5 1) (subs_cons (sub_refl _) (subs_cons (sub_refl _) (subs_cons (sub_refl _) (subs_nil)))))))))) rfl (op_build1_own _ _ _ 8 (.agg #[.bool false,.string ByteArray.empty,.string ByteArray.empty,.slice none 0 0,.slice none 0 0,.bool false,.string ByteArray.empty,.int .i64 0]) _ (flatten (map oe46 ([(T_Mail.mk ((T_Path.mk true z0 z0)) ([(T_Path.mk false (⟨#[97]⟩:ByteArray) (⟨#[98]⟩:ByteArray))]) [] false z0 0)]))) underlying22 sz46 zr46 rfl rfl rfl (by decide) (by decide) rfl)⟩ ?_
  refine yk [30] [] ?_
  refine yt (31,.agg [vi 0,vi 1,.hid (ownJ 46 8 (flatten (map oe46 ([(T_Mail.mk ((T_Path.mk true z0 z0)) ([(T_Path.mk false (⟨#[97]⟩:ByteArray) (⟨#[98]⟩:ByteArray))]) [] false z0 0)]))))]) 0 ⟨op_build _ _ _ _ [1,1,1] _ _ underlying24 zr24 (fs24 _ underlying24) (.copy _ (.take _ _ Src.nil)) rfl rfl rfl⟩ ?_
  refine yS (.box 24 [vi 0,vi 0,vz]) 0 ⟨oA (op_alloc _ _ zr24)⟩ ?_
  refine yk [31,4] [] ?_
  refine yt (4,.box 24 [vi 0,vi 1,.hid (ownJ 46 8 (flatten (map oe46 ([(T_Mail.mk ((T_Path.mk true z0 z0)) ([(T_Path.mk false (⟨#[97]⟩:ByteArray) (⟨#[98]⟩:ByteArray))]) [] false z0 0)]))))]) 0 ⟨op_store_take _ _ _ _ _ _ _ _ sz24 rfl rfl rfl (zl rfl) rfl rfl⟩ ?_
  refine yee [131,0,4] ?_
  refine ht_seq ?_
  refine ht_joinS h (fun (s101:(List T_Mail))=>[(131,.glob (GL mx)),(0,vi v3),(4,.box 24 [vi 0,vi 1,.hid (ownJ 46 8 (flatten (map oe46 s101)))])]) ?_ ?_
  ·rintro s101 h
   refine pt_then (ht_seq ?_)
   obtain ⟨v188, hv188, h⟩:=zn h
   refine yx hn 1 ?_
   refine yS (.tup [.mkr 5 (map (int .u8) v188.1),vi v188.2]) 0 ⟨op_callLd _ _ 14 _ _ rfl call14 (lend_agg rfl (.p rfl (.p rfl (.o rfl rfl (oe_ais oe46_i _) .nil))) lend_nil) (ok_wherryref11_BundleBytes (T_Bundle.mk 0 1 s101) _ hv188) rfl rfl⟩ ?_
   refine ym 0 ?_
   refine yx_ 1 ?_
   refine ya 1 ?_
   refine yee [131,0,4,12,13] ?_
   refine ht_seq ?_
   refine yyy hn 2 [131,0,4,12,79] ?_
   refine ht_cond _ rfl (fun hb189 => ?_) (fun hb189 => ?_)
   ·have h:=cond_t hb189 h
    refine yyy hn 1 [131,2] ?_
    refine ht_ret ?_
    refine pt_pick [1] (by kernel_rfl) (es':=[(_,_)]) rfl ?_
    refine pt_r_then ?_
    obtain rfl:=zi h
    exact pt_ret hio rfl (.tmp _ _ .nil) rfl rfl
   ·have h:=cond_f hb189 h
    refine ht_skip ?_
    refine pt_then (ht_seq ?_)
    obtain ⟨v190, hv190, h⟩:=zn h
    obtain ⟨v191, hv191, h⟩:=zn h
    obtain ⟨v192, hv192, h⟩:=zn h
    refine ht_pick [2,0,1,3,4] rfl rfl ?_
    refine ht_openQ 138 2 (fun rb22 rn22 rc22=>[.v (.int .i64 0), .v (.int .i64 1), .v (.slice (some ⟨rb22, 0, none⟩) rn22 rc22)]) (zl rfl) rfl (fun _ _ _=>rfl) (avs_pos (gflat_len oe46_l _) (by decide) (ix_pos hv190)) fun rb22 rn22 rc22 rl22 => ?_
    refine zg hn [_,_,_,_,_,_,(80,.ptr 4 2),(81,.v (.slice (some ⟨rb22,0,none⟩) rn22 rc22)),(82,.v (.pointer (some ⟨rb22,(0 * 8),none⟩))),(83,.v (.pointer (some ⟨rb22,(0 * 8+4),none⟩))),(84,.fl (.own 5) 1 (map (int .u8) v191.Body)),(138,.inv (rowO 46 8 (List.set (flatten (map oe46 s101)) (0 * 8+4) .any) rb22 rn22 rc22)),(85,.fl (.own 5) 1 (map (int .u8) v192)),(14,.fl (.own 5) 1 (map (int .u8) v192))] [0,1,2,3,4,5] [0,11,2,3,4,13] [zq [0] 6 80,zq [6,0] 7 81,zq [7] 8 82,zq [8] 9 83,⟨[9],[1],[11,10],[(.slot 84)]⟩,zq [10] 12 85,⟨[],[12],[13],[(.slot 14)]⟩] [(_,_),(_,_),(_,_),(_,_),(_,_),(_,_)] rfl ⟨zp rfl (oF underlying24 rfl sz22),zp rfl (oL underlying22 rfl),zp rfl (op_ix_val _ _ _ _ _ rb22 rn22 rc22 0 _ underlying22 sz46 rfl rfl rfl (avs_lt rl22 (gflat_len oe46_l _) (by decide) (ix_pos hv190))),zp rfl (op_fieldAddr_v _ _ _ _ rb22 (0 * 8) _ underlying46 rfl sz25 rfl rfl),zp rfl (op_load_tk _ _ _ 138 rb22 rn22 rc22 _ underlying25 rfl rfl (gflat_cell (j:=4) oe46_l hv191 rfl) rfl),zp rfl (op_call _ _ 12 _ _ rfl call12 rfl (ok_wherrykeep_Twin v191.Body _ hv192) rfl rfl),zp rfl (op_assign_take _ _ _ _ rfl),zz⟩ ?_
    refine pt_closeQ 2 [.v (.int .i64 0), .v (.int .i64 1), .hid (ownJ 46 8 (List.set (flatten (map oe46 s101)) (0 * 8+4) .any))] (zl rfl) rfl rfl ?_
    refine pt_then ?_
    refine yyy hn 1 [4,131,0,12,14,15] ?_
    refine ht_seq ?_
    refine yyy hn 1 [4,131,0,12,14,15,16] ?_
    refine ht_sub (fs:=[(4,.box 24 [vi 0,vi 1,.hid (ownJ 46 8 (List.set (flatten (map oe46 s101)) (0 * 8+4) .any))]),(131,.glob (GL mx)),(0,vi v3),(12,.mkr 5 (map (int .u8) v188.1)),(14,.fl (.own 5) 1 (map (int .u8) v192)),(15,.fl (.own 5) 1 (map (int .u8) [])),(16,vi 0)]) (.same _ (.same _ (.same _ (.same _ (.same _ (.sub _ (sub_nil 5 1) rfl (.same _ .nil))))))) ?_
    refine ht_loopS h (fun ((s201,s202):(List Int)×Int)=>[(4,.box 24 [vi 0,vi 1,.hid (ownJ 46 8 (List.set (flatten (map oe46 s101)) (0 * 8+4) .any))]),(131,.glob (GL mx)),(0,vi v3),(12,.mkr 5 (map (int .u8) v188.1)),(14,.fl (.own 5) 1 (map (int .u8) v192)),(15,.fl (.own 5) 1 (map (int .u8) s201)),(16,vi s202)]) (fun (s204:(List Int))=>[(4,.box 24 [vi 0,vi 1,.hid (ownJ 46 8 (List.set (flatten (map oe46 s101)) (0 * 8+4) .any))]),(131,.glob (GL mx)),(14,.fl (.own 5) 1 (map (int .u8) v192)),(15,.fl (.own 5) 1 (map (int .u8) s204))]) ?_ ?_
    ·rintro s204 h
     refine pt_then (ht_seq ?_)
     obtain ⟨v212, hv212, h⟩:=zn h
     obtain ⟨v213, hv213, h⟩:=zn h
     obtain ⟨v214, hv214, h⟩:=zn h
     refine ht_pick [0,1,2,3] rfl rfl ?_
     refine ht_openQ 138 2 (fun rb28 rn28 rc28=>[.v (.int .i64 0), .v (.int .i64 1), .v (.slice (some ⟨rb28, 0, none⟩) rn28 rc28)]) (zl rfl) rfl (fun _ _ _=>rfl) (avs_pos (oe_lenH oe46_l _) (by decide) (ix_pos hv213)) fun rb28 rn28 rc28 rl28 => ?_
     refine ht_anyR (by kernel_rfl) hn (El:=(_::_::_::_::_::(98,.ptr 4 2)::(99,.v (.slice (some ⟨rb28,0,none⟩) rn28 rc28))::(100,.fl (.own 5) 1 (map (int .u8) s204))::(101,.fl (.own 5) 1 (map (int .u8) v192))::(102,.fl (.own 5) 1 (map (int .u8) v212))::(100,.any)::(103,.v (.pointer (some ⟨rb28,(0 * 8),none⟩)))::(104,.v (.pointer (some ⟨rb28,(0 * 8+4),none⟩)))::(138,.inv (rowO 46 8 (flatten (map oe46 ((s101.set 0 ((T_Mail.mk (T_Path.mk v214.From.Null v214.From.Local v214.From.Domain) v214.To v212 v214.Quiet v214.Helo v214.At)))))) rb28 rn28 rc28))::(102,.any)::[])) (init:=[0,1,2,3,4]) (fin:=[0,13,2]) (sps:=[zq [0] 5 98,zq [5,0] 6 99,⟨[],[4],[7],[(.slot 100)]⟩,⟨[],[3],[8],[(.slot 101)]⟩,⟨[8],[7],[10,9],[(.slot 102)]⟩,zq [6] 11 103,zq [11] 12 104,⟨[12],[1,9],[13,14],[]⟩]) (es':=[(_,_),(138,.inv (rowO 46 8 (flatten (map oe46 ((s101.set 0 ((T_Mail.mk (T_Path.mk v214.From.Null v214.From.Local v214.From.Domain) v214.To v212 v214.Quiet v214.Helo v214.At)))))) rb28 rn28 rc28)),(_,_)]) (by kernel_rfl) rfl rfl ⟨zp rfl (oF underlying24 rfl sz22),zp rfl (oL underlying22 rfl),zp rfl (op_move_take _ _ _ _ rfl),zp rfl (op_move_take _ _ _ _ rfl),zp rfl (op_app _ _ _ _ _ el25 rfl rfl (map_len _) (map_len _) hv212 ((List.map_append).symm.trans (congrArg (map _) (app_eq hv212)))),zp rfl (op_ix_val _ _ _ _ _ rb28 rn28 rc28 0 _ underlying22 sz46 rfl rfl rfl (avs_lt rl28 (oe_lenH oe46_l _) (by decide) (ix_pos hv213))),zp rfl (op_fieldAddr_v _ _ _ _ rb28 (0 * 8) _ underlying46 rfl sz25 rfl rfl),zp rfl (op_store_pt _ _ 138 102 rb28 rn28 rc28 _ sz25 rfl (by rw [oe_lenH oe46_l]; have:=(List.getElem?_eq_some_iff.1 hv214).1; omega) (oe_setH (q:=4) oe46_l hv214 (y:=(T_Mail.mk (T_Path.mk v214.From.Null v214.From.Local v214.From.Domain) v214.To v212 v214.Quiet v214.Helo v214.At)) rfl (by decide))),zz⟩ ?_
     refine pt_closeQ 2 [.v (.int .i64 0), .v (.int .i64 1), .hid (ownJ 46 8 (flatten (map oe46 ((s101.set 0 ((T_Mail.mk (T_Path.mk v214.From.Null v214.From.Local v214.From.Domain) v214.To v212 v214.Quiet v214.Helo v214.At)))))))] (zl rfl) rfl rfl ?_
     refine pt_then (ht_seq ?_)
     obtain ⟨v215, hv215, h⟩:=zn h
     refine yx hn 1 ?_
     refine yS (.tup [.mkr 5 (map (int .u8) v215.1),vi v215.2]) 0 ⟨op_callGL _ _ 131 13 _ _ rfl call13 (lend_agg rfl (.p rfl (.p rfl (.o rfl rfl (oe_ais oe46_i _) .nil))) lend_nil) rfl (fun _ h=>h) (ok_bundle_Bytes mx ((T_Bundle.mk 0 1 ((s101.set 0 ((T_Mail.mk (T_Path.mk v214.From.Null v214.From.Local v214.From.Domain) v214.To v212 v214.Quiet v214.Helo v214.At)))))) _ hv215) rfl rfl⟩ ?_
     refine ym 0 ?_
     refine yx_ 1 ?_
     refine ya 1 ?_
     refine yee [4,131,17,18] ?_
     refine ht_seq ?_
     obtain ⟨v216, hv216, h⟩:=zn h
     refine yx hn 0 ?_
     refine yk [4] [] ?_
     refine yt (111,.agg [vi 0,vi 1,.hid (ownJ 46 8 (flatten (map oe46 ((s101.set 0 ((T_Mail.mk (T_Path.mk v214.From.Null v214.From.Local v214.From.Domain) v214.To v212 v214.Quiet v214.Helo v214.At)))))))]) 0 ⟨op_loadA_take _ _ _ _ underlying24 rfl sz24 rfl rfl⟩ ?_
     refine yS (.tup [.mkr 5 (map (int .u8) v216.1),vi v216.2]) 0 ⟨op_callLd _ _ 14 _ _ rfl call14 (lend_agg rfl (.p rfl (.p rfl (.q (oe_ais oe46_i _) .nil))) lend_nil) (ok_wherryref11_BundleBytes ((T_Bundle.mk 0 1 ((s101.set 0 ((T_Mail.mk (T_Path.mk v214.From.Null v214.From.Local v214.From.Domain) v214.To v212 v214.Quiet v214.Helo v214.At)))))) _ hv216) rfl rfl⟩ ?_
     refine ym 0 ?_
     refine yx_ 1 ?_
     refine ya 1 ?_
     refine yee [131,17,18,19,20] ?_
     refine ht_seq ?_
     refine ht_joinS h (fun (s219:Bool)=>[(131,.glob (GL mx)),(2,vb s219)]) ?_ ?_
     ·rintro s219 h
      refine pt_then (ht_ret ?_)
      refine pt_pick [1] (by kernel_rfl) (es':=[(_,_)]) rfl ?_
      obtain rfl:=zi h
      exact pt_ret hio rfl (.tmp _ _ .nil) rfl rfl
     ·intro u220 h hl221 hr222
      refine cond_some h (fun hg31_3 h => ?_) (fun hg31_3 h => ?_)
      ·obtain ⟨v217, hv217, h⟩:=zn h
       refine cond_some h (fun hg31_8 h => ?_) (fun hg31_8 h => ?_)
       ·refine cond_some h (fun hg31_13 h => ?_) (fun hg31_13 h => ?_)
        ·obtain ⟨v218, hv218, h⟩:=zn h
         refine yx hn 4 ?_
         refine yd hg31_3 1 ?_
         refine ym 0 ?_
         refine ys 2 ⟨lk call21 (ok_wherrykeep_Bytes _ _ _ hv217)⟩ ?_
         refine yd hg31_8 0 ?_
         refine yw [119] 0 ?_
         refine ym 0 ?_
         refine yS (vi (v215.1.length:Int)) 3 ⟨op_len_mk _ _ _ underlying25 rfl (List.length_map _)⟩ ?_
         refine yd hg31_13 0 ?_
         refine ys 2 ⟨lg call25 (ok_wherrylaw17_wakes _ _ hv218) 131⟩ ?_
         refine ye [131,2] ?_
         exact hl221 _ (zi h).symm
        ·refine yx hn 4 ?_
         refine yd hg31_3 1 ?_
         refine ym 0 ?_
         refine ys 2 ⟨lk call21 (ok_wherrykeep_Bytes _ _ _ hv217)⟩ ?_
         refine yd hg31_8 0 ?_
         refine yw [119] 0 ?_
         refine ym 0 ?_
         refine yS (vi (v215.1.length:Int)) 3 ⟨op_len_mk _ _ _ underlying25 rfl (List.length_map _)⟩ ?_
         refine yd hg31_13 3 ?_
         refine ye [131,2] ?_
         exact hl221 _ (zi h).symm
       ·refine yx hn 4 ?_
        refine yd hg31_3 1 ?_
        refine ym 0 ?_
        refine ys 2 ⟨lk call21 (ok_wherrykeep_Bytes _ _ _ hv217)⟩ ?_
        refine yd hg31_8 8 ?_
        refine ye [131,2] ?_
        exact hl221 _ (zi h).symm
      ·refine yx hn 4 ?_
       refine yd hg31_3 13 ?_
       refine ye [131,2] ?_
       exact hl221 _ (zi h).symm
    ·rintro u205 hl206 hr207 ⟨s201, s202⟩ rr210 h ho208
     refine ht_seq ?_
     refine ht_seq ?_
     obtain ⟨v193, hv193, h⟩:=zn h
     obtain ⟨v194, hv194, h⟩:=zn h
     refine yx hn 2 ?_
     refine yS (vi (v188.1.length:Int)) 0 ⟨op_len_mk _ _ _ underlying25 rfl (List.length_map _)⟩ ?_
     refine ys 1 ⟨lb hv193⟩ ?_
     refine ys 1 ⟨lb hv194⟩ ?_
     refine yee [4,131,0,12,14,15,16,92] ?_
     refine ht_cond _ rfl (fun hb211 => ?_) (fun hb211 => ?_)
     ·have h:=cond_t hb211 h
      refine ht_skip ?_
      refine pt_then (ht_seq ?_)
      refine ht_block ?_
      obtain ⟨v196, hv196, h⟩:=zn h
      refine yx hn 0 ?_
      refine ym 0 ?_
      refine yS (.fl (.own 5) 1 (map (int .u8) [120])) 0 ⟨op_buildSlice _ _ 1 (.int .u8 0) (map (int .u8) [120]) [(0,.int .u8 120)] underlying25 sz5 zr5 (fun _ V w o a hv hes=>by simp only [List.map_toArray,List.map_cons,List.map_nil]; try rfl) (litfill (by simp [Instr.fill,Value.cells]; rfl) (by simp [List.range,List.range.loop] <;> rfl)) (by simp [Value.oneCell']) rfl (by decide) (by decide) (by decide)⟩ ?_
      refine yp el25 hv196 0 ?_
      refine ya 0 ?_
      refine ye [4,131,0,12,14,16,15] ?_
      refine pt_inb ?_
      refine pt_then ?_
      obtain ⟨v197, hv197, h⟩:=zn h
      refine yx hn 1 ?_
      refine ys 0 ⟨lb hv197⟩ ?_
      refine yw [16] 1 ?_
      refine ye [4,131,0,12,14,15,16] ?_
      exact pt_next _ (zi h).symm rfl
     ·have h:=cond_f hb211 h
      refine ht_exit ?_
      refine pt_x_then ?_
      refine pt_x_then ?_
      refine pt_x_in ?_
      refine pt_pick [0,1,4,5] (by kernel_rfl) (es':=[(_,_),(_,_),(_,_),(_,_)]) rfl ?_
      exact hl206 _ (ho208 _ (zi h).symm).symm
  ·intro u102 h hl103 hr104
   refine yyy hn 1 [131,0,4,5] ?_
   refine ht_loopS h (fun ((s143,s144):(List T_Mail)×Int)=>[(131,.glob (GL mx)),(0,vi v3),(4,.box 24 [vi 0,vi 1,.hid (ownJ 46 8 (flatten (map oe46 s143)))]),(5,vi s144)]) (fun (s163:(List T_Mail))=>[(131,.glob (GL mx)),(0,vi v3),(4,.box 24 [vi 0,vi 1,.hid (ownJ 46 8 (flatten (map oe46 s163)))])]) ?_ ?_
   ·rintro s163 h
    exact hl103 _ (zi h).symm
   ·rintro u164 hl165 hr166 ⟨s143, s144⟩ rr169 h ho167
    refine ht_seq ?_
    refine yyy hn 2 [131,0,4,5,33] ?_
    refine ht_cond _ rfl (fun hb170 => ?_) (fun hb170 => ?_)
    ·have h:=cond_t hb170 h
     refine ht_skip ?_
     refine pt_then (ht_seq ?_)
     refine ht_block ?_
     refine ht_seq ?_
     obtain ⟨v5, hv5, h⟩:=zn h
     refine yx hn 1 ?_
     refine yS (.tup [.mkr 5 (map (int .u8) v5.1),vi v5.2]) 0 ⟨op_callLd _ _ 14 _ _ rfl call14 (lend_agg rfl (.p rfl (.p rfl (.o rfl rfl (oe_ais oe46_i _) .nil))) lend_nil) (ok_wherryref11_BundleBytes (T_Bundle.mk 0 1 s143) _ hv5) rfl rfl⟩ ?_
     refine ym 0 ?_
     refine yx_ 1 ?_
     refine ya 1 ?_
     refine yee [131,0,4,5,6,7] ?_
     refine ht_seq ?_
     refine yyy hn 2 [131,0,4,5,6,42] ?_
     refine ht_cond _ rfl (fun hb171 => ?_) (fun hb171 => ?_)
     ·have h:=cond_t hb171 h
      refine yyy hn 1 [131,2] ?_
      refine ht_ret ?_
      refine pt_pick [1] (by kernel_rfl) (es':=[(_,_)]) rfl ?_
      refine pt_r_then ?_
      refine pt_r_in ?_
      refine pt_r_then ?_
      refine pt_r_then ?_
      refine pt_r_in ?_
      refine pt_r_then ?_
      have h:=hr166 _ (ho167 _ (zi h).symm).symm
      have h:=hr104 _ (zi h).symm
      obtain rfl:=zi h
      exact pt_ret hio rfl (.tmp _ _ .nil) rfl rfl
     ·have h:=cond_f hb171 h
      refine ht_skip ?_
      refine pt_then (ht_seq ?_)
      obtain ⟨v7, hv7, h⟩:=zn h
      refine yx hn 0 ?_
      refine ym 0 ?_
      refine yS (vi (v5.1.length:Int)) 0 ⟨op_len_mk _ _ _ underlying25 rfl (List.length_map _)⟩ ?_
      refine ys 1 ⟨lb hv7⟩ ?_
      refine yee [131,0,4,5,8] ?_
      refine ht_seq ?_
      refine yyy hn 2 [131,0,4,5,8,47] ?_
      refine ht_cond _ rfl (fun hb172 => ?_) (fun hb172 => ?_)
      ·have h:=cond_t hb172 h
       refine ht_exit ?_
       refine pt_x_then ?_
       refine pt_x_out (by decide) ?_
       refine pt_x_then ?_
       refine pt_x_then ?_
       refine pt_x_in ?_
       refine pt_pick [0,1,2] (by kernel_rfl) (es':=[(_,_),(_,_),(_,_)]) rfl ?_
       exact hl165 _ (ho167 _ (zi h).symm).symm
      ·have h:=cond_f hb172 h
       refine ht_skip ?_
       refine pt_then (ht_seq ?_)
       obtain ⟨v9, hv9, h⟩:=zn h
       obtain ⟨v10, hv10, h⟩:=zn h
       refine yx hn 1 ?_
       refine ys 0 ⟨lb hv9⟩ ?_
       refine yS (vi v10) 1 ⟨(Option.some.inj hv10) ▸ op_min _ _ _ _ rfl rfl⟩ ?_
       refine yee [131,0,4,5,9] ?_
       refine yyy hn 1 [131,0,4,5,9,10] ?_
       refine ht_seq ?_
       refine yyy hn 1 [131,0,4,5,9,10,11] ?_
       refine ht_sub (fs:=[(131,.glob (GL mx)),(0,vi v3),(4,.box 24 [vi 0,vi 1,.hid (ownJ 46 8 (flatten (map oe46 s143)))]),(5,vi s144),(9,vi v10),(10,.fl (.own 5) 1 (map (int .u8) [])),(11,vi 0)]) (.same _ (.same _ (.same _ (.same _ (.same _ (.sub _ (sub_nil 5 1) rfl (.same _ .nil))))))) ?_
       refine ht_loopS h (fun ((s177,s178):(List Int)×Int)=>[(131,.glob (GL mx)),(0,vi v3),(4,.box 24 [vi 0,vi 1,.hid (ownJ 46 8 (flatten (map oe46 s143)))]),(5,vi s144),(9,vi v10),(10,.fl (.own 5) 1 (map (int .u8) s177)),(11,vi s178)]) (fun (s180:(List Int))=>[(131,.glob (GL mx)),(0,vi v3),(4,.box 24 [vi 0,vi 1,.hid (ownJ 46 8 (flatten (map oe46 s143)))]),(5,vi s144),(10,.fl (.own 5) 1 (map (int .u8) s180))]) ?_ ?_
       ·rintro s180 h
        refine pt_then ?_
        obtain ⟨v29, hv29, h⟩:=zn h
        obtain ⟨v30, hv30, h⟩:=zn h
        obtain ⟨v31, hv31, h⟩:=zn h
        obtain ⟨v32, hv32, h⟩:=zn h
        obtain ⟨v33, hv33, h⟩:=zn h
        obtain ⟨v34, hv34, h⟩:=zn h
        refine ht_pick [2,0,1,3,4] rfl rfl ?_
        refine ht_openQ 138 2 (fun rb18 rn18 rc18=>[.v (.int .i64 0), .v (.int .i64 1), .v (.slice (some ⟨rb18, 0, none⟩) rn18 rc18)]) (zl rfl) rfl (fun _ _ _=>rfl) (avs_pos (gflat_len oe46_l _) (by decide) (ix_pos hv29)) fun rb18 rn18 rc18 rl18 => ?_
        refine ht_anyR (by kernel_rfl) hn (El:=(_::_::_::_::_::_::(60,.ptr 4 2)::(61,.v (.slice (some ⟨rb18,0,none⟩) rn18 rc18))::(62,.ptr 4 2)::(63,.v (.slice (some ⟨rb18,0,none⟩) rn18 rc18))::(64,.v (.pointer (some ⟨rb18,(0 * 8),none⟩)))::(65,.v (.pointer (some ⟨rb18,(0 * 8+4),none⟩)))::(66,.fl (.own 5) 1 (map (int .u8) v30.Body))::(138,.inv (rowO 46 8 (List.set (flatten (map oe46 s143)) (0 * 8+4) .any) rb18 rn18 rc18))::(67,.fl (.own 5) 1 (map (int .u8) s180))::(68,.fl (.own 5) 1 (map (int .u8) v31))::(66,.any)::(69,.fl (.own 5) 1 (map (int .u8) [13,10]))::(70,.fl (.own 5) 1 (map (int .u8) v32))::(68,.any)::(71,.v (.pointer (some ⟨rb18,(0 * 8),none⟩)))::(72,.v (.pointer (some ⟨rb18,(0 * 8+4),none⟩)))::(138,.inv (rowO 46 8 (flatten (map oe46 ((s143.set 0 ((T_Mail.mk (T_Path.mk v34.From.Null v34.From.Local v34.From.Domain) v34.To v32 v34.Quiet v34.Helo v34.At)))))) rb18 rn18 rc18))::(70,.any)::[])) (init:=[0,1,2,3,4,5]) (fin:=[0,22,2,3,4]) (sps:=[zq [0] 6 60,zq [6,0] 7 61,zq [0] 8 62,zq [8,0] 9 63,zq [9] 10 64,zq [10] 11 65,⟨[11],[1],[13,12],[(.slot 66)]⟩,⟨[],[5],[14],[(.slot 67)]⟩,⟨[14],[12],[16,15],[(.slot 68)]⟩,zq [] 17 69,⟨[17],[15],[19,18],[(.slot 70)]⟩,zq [7] 20 71,zq [20] 21 72,⟨[21],[13,18],[22,23],[]⟩]) (es':=[(_,_),(138,.inv (rowO 46 8 (flatten (map oe46 ((s143.set 0 ((T_Mail.mk (T_Path.mk v34.From.Null v34.From.Local v34.From.Domain) v34.To v32 v34.Quiet v34.Helo v34.At)))))) rb18 rn18 rc18)),(_,_),(_,_),(_,_)]) (by kernel_rfl) rfl rfl ⟨zp rfl (oF underlying24 rfl sz22),zp rfl (oL underlying22 rfl),zp rfl (oF underlying24 rfl sz22),zp rfl (oL underlying22 rfl),zp rfl (op_ix_val _ _ _ _ _ rb18 rn18 rc18 0 _ underlying22 sz46 rfl rfl rfl (avs_lt rl18 (gflat_len oe46_l _) (by decide) (ix_pos hv29))),zp rfl (op_fieldAddr_v _ _ _ _ rb18 (0 * 8) _ underlying46 rfl sz25 rfl rfl),zp rfl (op_load_tk _ _ _ 138 rb18 rn18 rc18 _ underlying25 rfl rfl (gflat_cell (j:=4) oe46_l hv30 rfl) rfl),zp rfl (op_move_take _ _ _ _ rfl),zp rfl (op_app _ _ _ _ _ el25 rfl rfl (map_len _) (map_len _) hv31 ((List.map_append).symm.trans (congrArg (map _) (app_eq hv31)))),zp rfl (op_buildSlice _ _ 1 (.int .u8 0) (map (int .u8) [13,10]) [(0,.int .u8 13),(1,.int .u8 10)] underlying25 sz5 zr5 (fun _ V w o a hv hes=>by simp only [List.map_toArray,List.map_cons,List.map_nil]; try rfl) (litfill (by simp [Instr.fill,Value.cells]; rfl) (by simp [List.range,List.range.loop] <;> rfl)) (by simp [Value.oneCell']) rfl (by decide) (by decide) (by decide)),zp rfl (op_app _ _ _ _ _ el25 rfl rfl (map_len _) (map_len _) hv32 ((List.map_append).symm.trans (congrArg (map _) (app_eq hv32)))),zp rfl (op_ix_val _ _ _ _ _ rb18 rn18 rc18 0 _ underlying22 sz46 rfl rfl rfl (avs_lt rl18 (gflat_len oe46_l _) (by decide) (ix_pos hv33))),zp rfl (op_fieldAddr_v _ _ _ _ rb18 (0 * 8) _ underlying46 rfl sz25 rfl rfl),zp rfl (op_store_pt _ _ 138 70 rb18 rn18 rc18 _ sz25 rfl (by rw [oe_lenH oe46_l]; have:=(List.getElem?_eq_some_iff.1 hv34).1; omega) (oe_setH (q:=4) oe46_l hv34 (y:=(T_Mail.mk (T_Path.mk v34.From.Null v34.From.Local v34.From.Domain) v34.To v32 v34.Quiet v34.Helo v34.At)) rfl (by decide))),zz⟩ ?_
        refine pt_closeQ 2 [.v (.int .i64 0), .v (.int .i64 1), .hid (ownJ 46 8 (flatten (map oe46 ((s143.set 0 ((T_Mail.mk (T_Path.mk v34.From.Null v34.From.Local v34.From.Domain) v34.To v32 v34.Quiet v34.Helo v34.At)))))))] (zl rfl) rfl rfl ?_
        refine pt_inb ?_
        refine pt_then ?_
        obtain ⟨v35, hv35, h⟩:=zn h
        refine yx hn 1 ?_
        refine ys 0 ⟨lb hv35⟩ ?_
        refine yw [5] 1 ?_
        refine ye [4,131,0,5] ?_
        refine pt_pick [1,2,0,3] (by kernel_rfl) (es':=[(_,_),(_,_),(_,_),(_,_)]) rfl ?_
        exact pt_next _ (zi h).symm rfl
       ·rintro u181 hl182 hr183 ⟨s177, s178⟩ rr186 h ho184
        refine ht_seq ?_
        refine ht_seq ?_
        obtain ⟨v11, hv11, h⟩:=zn h
        refine yx hn 2 ?_
        refine ys 1 ⟨lb hv11⟩ ?_
        refine yee [131,0,4,5,9,10,11,54] ?_
        refine ht_cond _ rfl (fun hb187 => ?_) (fun hb187 => ?_)
        ·have h:=cond_t hb187 h
         refine ht_skip ?_
         refine pt_then (ht_seq ?_)
         refine ht_block ?_
         obtain ⟨v13, hv13, h⟩:=zn h
         refine yx hn 0 ?_
         refine ym 0 ?_
         refine yS (.fl (.own 5) 1 (map (int .u8) [120])) 0 ⟨op_buildSlice _ _ 1 (.int .u8 0) (map (int .u8) [120]) [(0,.int .u8 120)] underlying25 sz5 zr5 (fun _ V w o a hv hes=>by simp only [List.map_toArray,List.map_cons,List.map_nil]; try rfl) (litfill (by simp [Instr.fill,Value.cells]; rfl) (by simp [List.range,List.range.loop] <;> rfl)) (by simp [Value.oneCell']) rfl (by decide) (by decide) (by decide)⟩ ?_
         refine yp el25 hv13 0 ?_
         refine ya 0 ?_
         refine ye [131,0,4,5,9,11,10] ?_
         refine pt_inb ?_
         refine pt_then ?_
         obtain ⟨v14, hv14, h⟩:=zn h
         refine yx hn 1 ?_
         refine ys 0 ⟨lb hv14⟩ ?_
         refine yw [11] 1 ?_
         refine ye [131,0,4,5,9,10,11] ?_
         exact pt_next _ (zi h).symm rfl
        ·have h:=cond_f hb187 h
         refine ht_exit ?_
         refine pt_x_then ?_
         refine pt_x_then ?_
         refine pt_x_in ?_
         refine pt_pick [0,1,2,3,5] (by kernel_rfl) (es':=[(_,_),(_,_),(_,_),(_,_),(_,_)]) rfl ?_
         exact hl182 _ (ho184 _ (zi h).symm).symm
    ·have h:=cond_f hb170 h
     refine ht_exit ?_
     refine pt_x_then ?_
     refine pt_x_then ?_
     refine pt_x_in ?_
     refine pt_pick [0,1,2] (by kernel_rfl) (es':=[(_,_),(_,_),(_,_)]) rfl ?_
     exact hl165 _ (ho167 _ (zi h).symm).symm

end Go.Proofs.YtglabbpbianmnaaGreatDoor
