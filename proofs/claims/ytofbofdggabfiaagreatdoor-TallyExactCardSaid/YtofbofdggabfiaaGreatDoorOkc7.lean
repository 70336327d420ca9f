/-
  The model's runs are what is told in Lean.
-/
import Derived.Test.YtofbofdggabfiaaGreatDoorProg
import Derived.KernelRfl
import Derived.Test.YtofbofdggabfiaaGreatDoorShelf
import Derived.Test.YtofbofdggabfiaaGreatDoorB3
import Derived.Test.YtofbofdggabfiaaGreatDoorC1
import Derived.Test.YtofbofdggabfiaaGreatDoorOkc6
set_option linter.unusedVariables false
set_option linter.unusedSimpArgs false
set_option maxHeartbeats 1000000
namespace Go.Proofs.YtofbofdggabfiaaGreatDoor
open Go.Abs Go.Abs.Sh Tryz
open List (map flatten)
open Value (int)
theorem ok_wherryref18_Fold (l:(List T_Rec)) (r:(T_Spool×Int)) (h:Sh.wherryref18_Fold l=some r):FnOK Tryz.prog 11 [.fr .shr true 15 (flatten (map T_Rec.ienc l))] (.tup [.agg [.fr (.own 74) false 11 (flatten (map T_Item.ienc r.1.Items)), .v (.int .i64 r.1.Packs), .fl (.own 3) 1 (map (int .i64) r.1.Sent), .fl (.own 5) 1 (map (int .u8) r.1.Part), .v (.int .i64 r.1.Of), .fl (.own 3) 1 (map (int .i64) r.1.Done)], .v (.int .i64 r.2)]):=by
  unfold Sh.wherryref18_Fold at h
  refine yO 32 func11 fun g0 hn hio => ?_
  refine yxx hn 0 ?_
  refine yS (.box 44 [vz,vi 0,vz,vz,vi 0,vz]) 1 ⟨oA (op_alloc _ _ zr44)⟩ ?_
  refine yee [0,2] ?_
  refine ht_seq ?_
  obtain ⟨v1, hv1, h⟩:=zn h
  refine yx hn 0 ?_
  refine ys 0 ⟨lk call29 (ok_wherryref18_Nothing _ hv1)⟩ ?_
  refine yS (.box 44 [vz,vi 0,vz,vz,vi 0,vz]) 0 ⟨oA (op_alloc _ _ zr44)⟩ ?_
  refine yk [8,4] [] ?_
  refine yt (4,.box 44 [.fr (.own 74) false 11 (flatten (map T_Item.ienc v1.Items)),vi v1.Packs,.fl (.own 3) 1 (map (int .i64) v1.Sent),.fl (.own 5) 1 (map (int .u8) v1.Part),vi v1.Of,.fl (.own 3) 1 (map (int .i64) v1.Done)]) 0 ⟨op_store_take _ _ _ _ _ _ _ _ sz44 rfl rfl rfl (zl rfl) rfl rfl⟩ ?_
  refine yee [0,2,4] ?_
  refine ht_seq ?_
  refine yyy hn 1 [0,2,4,5] ?_
  refine ht_loopS h (fun ((s17,s18,s19,s20,s21,s22,s23):(List T_Item)×Int×(List Int)×(List Int)×Int×(List Int)×Int)=>[(0,.fr .shr true 15 (flatten (map T_Rec.ienc l))),(2,.box 44 [vz,vi 0,vz,vz,vi 0,vz]),(4,.box 44 [.fr (.own 74) false 11 (flatten (map T_Item.ienc s17)),vi s18,.fl (.own 3) 1 (map (int .i64) s19),.fl (.own 5) 1 (map (int .u8) s20),vi s21,.fl (.own 3) 1 (map (int .i64) s22)]),(5,vi s23)]) (fun ((s26,s27,s28,s29,s30,s31):(List T_Item)×Int×(List Int)×(List Int)×Int×(List Int))=>[(0,.fr .shr true 15 (flatten (map T_Rec.ienc l))),(2,.box 44 [vz,vi 0,vz,vz,vi 0,vz]),(4,.box 44 [.fr (.own 74) false 11 (flatten (map T_Item.ienc s26)),vi s27,.fl (.own 3) 1 (map (int .i64) s28),.fl (.own 5) 1 (map (int .u8) s29),vi s30,.fl (.own 3) 1 (map (int .i64) s31)])]) ?_ ?_
  ·rintro ⟨s26, s27, s28, s29, s30, s31⟩ h
   refine pt_then ?_
   refine yxx hn 0 ?_
   refine yk [4] [] ?_
   refine yt (29,.agg [.fr (.own 74) false 11 (flatten (map T_Item.ienc s26)),vi s27,.fl (.own 3) 1 (map (int .i64) s28),.fl (.own 5) 1 (map (int .u8) s29),vi s30,.fl (.own 3) 1 (map (int .i64) s31)]) 2 ⟨op_loadA_take _ _ _ _ underlying44 rfl sz44 rfl rfl⟩ ?_
   refine yk [29,2] [] ?_
   refine yt (2,.box 44 [.fr (.own 74) false 11 (flatten (map T_Item.ienc s26)),vi s27,.fl (.own 3) 1 (map (int .i64) s28),.fl (.own 5) 1 (map (int .u8) s29),vi s30,.fl (.own 3) 1 (map (int .i64) s31)]) 1 ⟨op_store_take _ _ _ _ _ _ _ _ sz44 rfl rfl rfl (zl rfl) rfl rfl⟩ ?_
   refine yee [2,3] ?_
   refine ht_ret ?_
   obtain rfl:=zi h
   exact pt_ret hio rfl (.cellA _ _ _ _ underlying44 rfl sz44 (.tmp _ _ .nil)) rfl rfl
  ·rintro u32 hl33 hr34 ⟨s17, s18, s19, s20, s21, s22, s23⟩ rr37 h ho35
   refine ht_seq ?_
   refine yyy hn 4 [0,2,4,5,12] ?_
   refine ht_cond _ rfl (fun hb38 => ?_) (fun hb38 => ?_)
   ·have h:=cond_t hb38 h
    refine ht_skip ?_
    refine pt_then (ht_seq ?_)
    refine ht_block ?_
    refine ht_seq ?_
    obtain ⟨v3, hv3, h⟩:=zn h
    obtain ⟨v4, hv4, h⟩:=zn h
    obtain ⟨v5, hv5, h⟩:=zn h
    refine ht_anyR (by kernel_rfl) hn (El:=(_::_::_::_::_::(16,.agg [.same (.cell 4 0),vi s18,.same (.cell 4 2),.same (.cell 4 3),vi s21,.same (.cell 4 5)])::(17,.fr .shr true 15 (flatten (map T_Rec.ienc l)))::(18,vi s23)::(19,.eref (.slot 17) (v3 * 15))::(20,.agg (T_Rec.c v4 []))::(21,.tup [.agg [.fr (.own 74) false 11 (flatten (map T_Item.ienc v5.1.Items)),vi v5.1.Packs,.fl (.own 3) 1 (map (int .i64) v5.1.Sent),.fl (.own 5) 1 (map (int .u8) v5.1.Part),vi v5.1.Of,.fl (.own 3) 1 (map (int .i64) v5.1.Done)],vi v5.2])::(15,.tup [.agg [.fr (.own 74) false 11 (flatten (map T_Item.ienc v5.1.Items)),vi v5.1.Packs,.fl (.own 3) 1 (map (int .i64) v5.1.Sent),.fl (.own 5) 1 (map (int .u8) v5.1.Part),vi v5.1.Of,.fl (.own 3) 1 (map (int .i64) v5.1.Done)],.any])::(15,.tup [.any,vi v5.2])::(22,.agg [.fr (.own 74) false 11 (flatten (map T_Item.ienc v5.1.Items)),vi v5.1.Packs,.fl (.own 3) 1 (map (int .i64) v5.1.Sent),.fl (.own 5) 1 (map (int .u8) v5.1.Part),vi v5.1.Of,.fl (.own 3) 1 (map (int .i64) v5.1.Done)])::(15,.tup [.any,.any])::(23,vi v5.2)::(6,.box 44 [vz,vi 0,vz,vz,vi 0,vz])::(6,.box 44 [.fr (.own 74) false 11 (flatten (map T_Item.ienc v5.1.Items)),vi v5.1.Packs,.fl (.own 3) 1 (map (int .i64) v5.1.Sent),.fl (.own 5) 1 (map (int .u8) v5.1.Part),vi v5.1.Of,.fl (.own 3) 1 (map (int .i64) v5.1.Done)])::(7,vi v5.2)::[])) (init:=[0,1,2,3,4]) (fin:=[0,1,2,3,17,18]) (sps:=[zq [2] 5 16,zq [0] 6 17,zq [3] 7 18,zq [6,7] 8 19,zq [8,6] 9 20,zq [5,2,9] 10 21,⟨[],[10],[11,12],[(.slot 15)]⟩,⟨[],[11],[14,13],[(.slot 22)]⟩,zq [12] 15 23,zq [] 16 6,⟨[],[13,16],[17],[.cell 6 0,.cell 6 1,.cell 6 2,.cell 6 3,.cell 6 4,.cell 6 5]⟩,zq [15] 18 7]) (es':=[(_,_),(_,_),(_,_),(_,_),(6,.box 44 [.fr (.own 74) false 11 (flatten (map T_Item.ienc v5.1.Items)),vi v5.1.Packs,.fl (.own 3) 1 (map (int .i64) v5.1.Sent),.fl (.own 5) 1 (map (int .u8) v5.1.Part),vi v5.1.Of,.fl (.own 3) 1 (map (int .i64) v5.1.Done)]),(7,vi v5.2)]) (by kernel_rfl) rfl rfl ⟨zp rfl (op_loadA _ _ _ _ _ _ _ underlying44 rfl sz44 rfl rfl (zl rfl) rfl rfl),z1 rfl,z1 rfl,zp rfl (op_ix_fr _ _ _ _ _ _ _ _ underlying26 sz57 (by decide) rfl rfl rfl (ix_ok hv3).1 (gflat_lt T_Rec.ilen (ix_ok hv3).2) rfl),zp rfl (op_loadA_fr _ _ _ _ _ _ _ _ underlying57 rfl sz57 rfl rfl (gflat_get T_Rec.ilen hv4) (.cons (.v _) (.cons (.v _) (.cons (.v _) (.cons (.v _) (.cons (.fl _ _ rfl) (.cons (.fl _ _ rfl) (.cons (.v _) (.cons (.v _) (.cons (.v _) (.cons (.v _) (.cons (.fl _ _ rfl) (.cons (.v _) (.cons (.v _) (.cons (.v _) (.cons (.fl _ _ rfl) (.nil)))))))))))))))) rfl (by decide)),zp rfl (op_call _ _ 30 _ _ rfl call30 rfl (ok_wherryref18_Add (T_Spool.mk s17 s18 s19 s20 s21 s22) ((T_Rec.mk v4.Kind ((T_Mail.mk (T_Path.mk v4.Mail.From.Null v4.Mail.From.Local v4.Mail.From.Domain) v4.Mail.To v4.Mail.Body v4.Mail.Quiet v4.Mail.Helo v4.Mail.At)) v4.Id v4.Ids v4.Origin v4.Number v4.Offset v4.Data)) _ hv5) rfl rfl),zp rfl (LOp.split (A:=[]) 15 0 _ _ _ (op_move_take _ _ _ _ rfl) (zl rfl) rfl rfl),zp rfl (op_extract_take _ _ _ _ _ rfl (zl rfl) rfl rfl (by decide) rfl),zp rfl (oE rfl),zp rfl (op_alloc _ _ zr44),zp rfl (op_store_take _ _ _ _ _ _ _ _ sz44 rfl rfl rfl (zl rfl) rfl rfl),z2 rfl,zz⟩ ?_
    refine pt_then (ht_seq ?_)
    refine yyy hn 2 [0,2,4,5,6,25] ?_
    refine ht_cond _ rfl (fun hb39 => ?_) (fun hb39 => ?_)
    ·have h:=cond_t hb39 h
     refine yxx hn 0 ?_
     refine yk [4] [] ?_
     refine yt (26,.agg [.fr (.own 74) false 11 (flatten (map T_Item.ienc s17)),vi s18,.fl (.own 3) 1 (map (int .i64) s19),.fl (.own 5) 1 (map (int .u8) s20),vi s21,.fl (.own 3) 1 (map (int .i64) s22)]) 1 ⟨op_loadA_take _ _ _ _ underlying44 rfl sz44 rfl rfl⟩ ?_
     refine yk [26,2] [] ?_
     refine yt (2,.box 44 [.fr (.own 74) false 11 (flatten (map T_Item.ienc s17)),vi s18,.fl (.own 3) 1 (map (int .i64) s19),.fl (.own 5) 1 (map (int .u8) s20),vi s21,.fl (.own 3) 1 (map (int .i64) s22)]) 1 ⟨op_store_take _ _ _ _ _ _ _ _ sz44 rfl rfl rfl (zl rfl) rfl rfl⟩ ?_
     refine yee [2,3] ?_
     refine ht_ret ?_
     refine pt_r_then ?_
     refine pt_r_in ?_
     refine pt_r_then ?_
     refine pt_r_then ?_
     refine pt_r_in ?_
     refine pt_r_then ?_
     have h:=hr34 _ (ho35 _ (zi h).symm).symm
     obtain rfl:=zi h
     exact pt_ret hio rfl (.cellA _ _ _ _ underlying44 rfl sz44 (.tmp _ _ .nil)) rfl rfl
    ·have h:=cond_f hb39 h
     refine ht_skip ?_
     refine pt_then ?_
     refine yx hn 0 ?_
     refine yk [6] [] ?_
     refine yt (28,.agg [.fr (.own 74) false 11 (flatten (map T_Item.ienc v5.1.Items)),vi v5.1.Packs,.fl (.own 3) 1 (map (int .i64) v5.1.Sent),.fl (.own 5) 1 (map (int .u8) v5.1.Part),vi v5.1.Of,.fl (.own 3) 1 (map (int .i64) v5.1.Done)]) 0 ⟨op_loadA_take _ _ _ _ underlying44 rfl sz44 rfl rfl⟩ ?_
     refine yk [28,4] [] ?_
     refine yt (4,.box 44 [.fr (.own 74) false 11 (flatten (map T_Item.ienc v5.1.Items)),vi v5.1.Packs,.fl (.own 3) 1 (map (int .i64) v5.1.Sent),.fl (.own 5) 1 (map (int .u8) v5.1.Part),vi v5.1.Of,.fl (.own 3) 1 (map (int .i64) v5.1.Done)]) 0 ⟨op_store_take _ _ _ _ _ _ _ _ sz44 rfl rfl rfl (zl rfl) rfl rfl⟩ ?_
     refine ye [0,2,4,5] ?_
     refine pt_inb ?_
     refine pt_then ?_
     obtain ⟨v7, hv7, h⟩:=zn h
     refine yx hn 1 ?_
     refine ys 0 ⟨lb hv7⟩ ?_
     refine yw [5] 1 ?_
     refine ye [0,2,4,5] ?_
     exact pt_next _ (zi h).symm rfl
   ·have h:=cond_f hb38 h
    refine ht_exit ?_
    refine pt_x_then ?_
    refine pt_x_then ?_
    refine pt_x_in ?_
    refine pt_pick [0,1,2] (by kernel_rfl) (es':=[(_,_),(_,_),(_,_)]) rfl ?_
    exact hl33 _ (ho35 _ (zi h).symm).symm
theorem ok_tally_Count (l:(List T_Event)) (r:Int) (h:Sh.tally_Count l=some r):FnOK Tryz.prog 12 [.fr .shr true 9 (flatten (map T_Event.ienc l))] (.v (.int .i64 r)):=by
  unfold Sh.tally_Count at h
  refine yO 30 func12 fun g0 hn hio => ?_
  refine yyy hn 1 [0] ?_
  refine yxx hn 0 ?_
  refine yS (.hid (setT Tryz.prog 71 T_tally_event.enc [])) 0 ⟨op_makeSet _ _ T_tally_event.enc⟩ ?_
  refine ya 0 ?_
  refine yee [0,3] ?_
  refine ht_seq ?_
  refine yyy hn 3 [3,7,8,9] ?_
  refine ht_loopS h (fun ((s10,s11):(List T_tally_event)×Int)=>[(3,.hid (setT Tryz.prog 71 T_tally_event.enc s10)),(7,.fr .shr true 9 (flatten (map T_Event.ienc l))),(8,vi (l.length:Int)),(9,vi s11)]) (fun (s13:(List T_tally_event))=>[(3,.hid (setT Tryz.prog 71 T_tally_event.enc s13))]) ?_ ?_
  ·rintro s13 h
   refine pt_then ?_
   refine yxx hn 0 ?_
   refine ym 0 ?_
   refine yS (vi (s13.length:Int)) 1 ⟨op_len_setT _ _ 28 underlying68 rfl⟩ ?_
   refine yee [2] ?_
   refine ht_ret ?_
   obtain rfl:=zi h
   exact pt_ret hio rfl (.tmp _ _ .nil) rfl rfl
  ·rintro u14 hl15 hr16 ⟨s10, s11⟩ rr19 h ho17
   refine yyy hn 1 [3,7,8,9,10] ?_
   refine ht_seq ?_
   refine ht_cond _ rfl (fun hb20 => ?_) (fun hb20 => ?_)
   ·have h:=cond_t hb20 h
    refine ht_skip ?_
    refine pt_then (ht_seq ?_)
    refine ht_block ?_
    refine ht_seq ?_
    obtain ⟨v2, hv2, h⟩:=zn h
    obtain ⟨v3, hv3, h⟩:=zn h
    refine yx hn 0 ?_
    refine ys 0 ⟨lI hv2⟩ ?_
    refine yS (.agg (T_Event.c v3 [])) 0 ⟨op_loadA_fr _ _ _ _ _ _ _ _ underlying55 rfl sz55 rfl rfl (gflat_get T_Event.ilen hv3) (.cons (.v _) (.cons (.v _) (.cons (.v _) (.cons (.v _) (.cons (.v _) (.cons (.v _) (.cons (.v _) (.cons (.v _) (.cons (.fl _ _ rfl) (.nil)))))))))) rfl (by decide)⟩ ?_
    refine yS (.box 55 [vi 0,vi 0,vb false,vs z0,vs z0,vb false,vs z0,vs z0,vz]) 1 ⟨oA (op_alloc _ _ zr55)⟩ ?_
    refine yee [3,7,8,9,5] ?_
    obtain ⟨v4, hv4, h⟩:=zn h
    obtain ⟨v5, hv5, h⟩:=zn h
    refine yx hn 0 ?_
    refine yS (.same (.slot 3)) 10 ⟨op_move_name _ _ _ rfl⟩ ?_
    refine ys 0 ⟨lS hv4⟩ ?_
    refine yS (.agg [vi v3.Kind,vi v3.Site,vb v3.From.Null,vs v3.From.Local,vs v3.From.Domain,vb v3.To.Null,vs v3.To.Local,vs v3.To.Domain,vs v4]) 0 ⟨op_build _ _ _ _ [1,1,3,3,1] _ _ underlying71 zr71 (fs71 _ underlying71) (.copy _ (.copy _ (.copy _ (.copy _ (.copy _ Src.nil))))) rfl rfl rfl⟩ ?_
    refine yS (.agg []) 0 ⟨op_build _ _ _ _ [] _ _ underlying69 zr69 (fs69 _ underlying69) Src.nil rfl rfl rfl⟩ ?_
    refine yk [3] [13,25,26] ?_
    refine yt (3,.hid (setT Tryz.prog 71 T_tally_event.enc v5)) 0 ⟨op_setUpdate _ _ _ _ 3 ((T_tally_event.mk v3.Kind v3.Site (T_Path.mk v3.From.Null v3.From.Local v3.From.Domain) (T_Path.mk v3.To.Null v3.To.Local v3.To.Domain) v4)) sf68 rfl rfl rfl hv5⟩ ?_
    refine ye [3,7,8,9] ?_
    refine pt_inb ?_
    refine pt_then ?_
    obtain ⟨v6, hv6, h⟩:=zn h
    refine yx hn 0 ?_
    refine ys 0 ⟨lb hv6⟩ ?_
    refine yw [9] 1 ?_
    refine ye [3,7,8,9] ?_
    exact pt_next _ (zi h).symm rfl
   ·have h:=cond_f hb20 h
    refine ht_exit ?_
    refine pt_x_then ?_
    refine pt_x_then ?_
    refine pt_x_in ?_
    refine pt_pick [0] (by kernel_rfl) (es':=[(_,_)]) rfl ?_
    exact hl15 _ (ho17 _ (zi h).symm).symm
theorem ok_wherrykeep_Event (a:T_Event) (b:T_Event) (r:Bool) (h:Sh.wherrykeep_Event a b=some r):FnOK Tryz.prog 31 [.agg [.v (.int .i64 a.Kind), .v (.int .i64 a.Site), .v (.bool a.From.Null), .v (.string a.From.Local), .v (.string a.From.Domain), .v (.bool a.To.Null), .v (.string a.To.Local), .v (.string a.To.Domain), .fl .shr 1 (map (int .u8) a.Body)], .agg [.v (.int .i64 b.Kind), .v (.int .i64 b.Site), .v (.bool b.From.Null), .v (.string b.From.Local), .v (.string b.From.Domain), .v (.bool b.To.Null), .v (.string b.To.Local), .v (.string b.To.Domain), .fl .shr 1 (map (int .u8) b.Body)]] (.v (.bool r)):=by
  unfold Sh.wherrykeep_Event at h
  refine yO 38 func31 fun g0 hn hio => ?_
  refine yyy hn 3 [2,3] ?_
  refine ht_seq ?_
  refine ht_joinS h (fun (s4:Bool)=>[(4,vb s4)]) ?_ ?_
  ·rintro s4 h
   refine pt_then (ht_ret ?_)
   obtain rfl:=zi h
   exact pt_ret hio rfl (.tmp _ _ .nil) rfl rfl
  ·intro u5 h hl6 hr7
   refine cond_some h (fun hg1_5 h => ?_) (fun hg1_5 h => ?_)
   ·refine cond_some h (fun hg1_12 h => ?_) (fun hg1_12 h => ?_)
    ·obtain ⟨v1, hv1, h⟩:=zn h
     refine cond_some h (fun hg1_19 h => ?_) (fun hg1_19 h => ?_)
     ·obtain ⟨v2, hv2, h⟩:=zn h
      refine cond_some h (fun hg1_26 h => ?_) (fun hg1_26 h => ?_)
      ·obtain ⟨v3, hv3, h⟩:=zn h
       refine yx hn 6 ?_
       refine yd hg1_5 7 ?_
       refine yd hg1_12 4 ?_
       refine ys 2 ⟨lk call26 (ok_wherrykeep_Path _ _ _ hv1)⟩ ?_
       refine yd hg1_19 4 ?_
       refine ys 2 ⟨lk call26 (ok_wherrykeep_Path _ _ _ hv2)⟩ ?_
       refine yd hg1_26 4 ?_
       refine ys 2 ⟨lk call27 (ok_wherrykeep_Bytes _ _ _ hv3)⟩ ?_
       refine ye [4] ?_
       exact hl6 _ (zi h).symm
      ·refine yx hn 6 ?_
       refine yd hg1_5 7 ?_
       refine yd hg1_12 4 ?_
       refine ys 2 ⟨lk call26 (ok_wherrykeep_Path _ _ _ hv1)⟩ ?_
       refine yd hg1_19 4 ?_
       refine ys 2 ⟨lk call26 (ok_wherrykeep_Path _ _ _ hv2)⟩ ?_
       refine yd hg1_26 7 ?_
       refine ye [4] ?_
       exact hl6 _ (zi h).symm
     ·refine yx hn 6 ?_
      refine yd hg1_5 7 ?_
      refine yd hg1_12 4 ?_
      refine ys 2 ⟨lk call26 (ok_wherrykeep_Path _ _ _ hv1)⟩ ?_
      refine yd hg1_19 14 ?_
      refine ye [4] ?_
      exact hl6 _ (zi h).symm
    ·refine yx hn 6 ?_
     refine yd hg1_5 7 ?_
     refine yd hg1_12 21 ?_
     refine ye [4] ?_
     exact hl6 _ (zi h).symm
   ·refine yx hn 6 ?_
    refine yd hg1_5 28 ?_
    refine ye [4] ?_
    exact hl6 _ (zi h).symm
theorem ok_wherryref23_Count (l:(List T_Event)) (r:Int) (h:Sh.wherryref23_Count l=some r):FnOK Tryz.prog 13 [.fr .shr true 9 (flatten (map T_Event.ienc l))] (.v (.int .i64 r)):=by
  unfold Sh.wherryref23_Count at h
  refine yO 35 func13 fun g0 hn hio => ?_
  refine yyy hn 1 [0] ?_
  refine yyy hn 1 [0,3] ?_
  refine ht_seq ?_
  refine yyy hn 1 [0,3,4] ?_
  refine ht_loopS h (fun ((s138,s139):Int×Int)=>[(0,.fr .shr true 9 (flatten (map T_Event.ienc l))),(3,vi s138),(4,vi s139)]) (fun (s201:Int)=>[(3,vi s201)]) ?_ ?_
  ·rintro s201 h
   refine pt_then ?_
   refine yyy hn 2 [2] ?_
   refine ht_ret ?_
   obtain rfl:=zi h
   exact pt_ret hio rfl (.tmp _ _ .nil) rfl rfl
  ·rintro u202 hl203 hr204 ⟨s138, s139⟩ rr207 h ho205
   refine ht_seq ?_
   refine yyy hn 4 [0,3,4,10] ?_
   refine ht_cond _ rfl (fun hb208 => ?_) (fun hb208 => ?_)
   ·have h:=cond_t hb208 h
    refine ht_skip ?_
    refine pt_then (ht_seq ?_)
    refine ht_joinS h (fun (s237:Int)=>[(0,.fr .shr true 9 (flatten (map T_Event.ienc l))),(4,vi s139),(3,vi s237)]) ?_ ?_
    ·rintro s237 h
     refine pt_then ?_
     obtain ⟨v74, hv74, h⟩:=zn h
     refine yx hn 1 ?_
     refine ys 0 ⟨lb hv74⟩ ?_
     refine yw [4] 1 ?_
     refine ye [0,3,4] ?_
     exact pt_next _ (zi h).symm rfl
    ·intro u238 h hl239 hr240
     refine ht_block ?_
     refine yyy hn 1 [0,3,4,5] ?_
     refine ht_seq ?_
     refine yyy hn 1 [0,3,4,5,6] ?_
     refine ht_loopS h (fun ((s249,s250):Bool×Int)=>[(0,.fr .shr true 9 (flatten (map T_Event.ienc l))),(3,vi s138),(4,vi s139),(5,vb s249),(6,vi s250)]) (fun (s256:Bool)=>[(0,.fr .shr true 9 (flatten (map T_Event.ienc l))),(3,vi s138),(4,vi s139),(5,vb s256)]) ?_ ?_
     ·rintro s256 h
      refine pt_then ?_
      refine yyy hn 1 [0,3,4,31] ?_
      refine ht_cond _ rfl (fun hb268 => ?_) (fun hb268 => ?_)
      ·have h:=cond_t hb268 h
       obtain ⟨v41, hv41, h⟩:=zn h
       refine yx hn 1 ?_
       refine ys 0 ⟨lb hv41⟩ ?_
       refine yw [3] 1 ?_
       refine ye [0,4,3] ?_
       refine pt_inb ?_
       exact hl239 _ (zi h).symm
      ·have h:=cond_f hb268 h
       refine ht_skip ?_
       refine pt_inb ?_
       refine pt_pick [0,2,1] (by kernel_rfl) (es':=[(_,_),(_,_),(_,_)]) rfl ?_
       exact hl239 _ (zi h).symm
     ·rintro u257 hl258 hr259 ⟨s249, s250⟩ rr262 h ho260
      refine ht_seq ?_
      refine yyy hn 3 [0,3,4,5,6,15] ?_
      refine ht_cond _ rfl (fun hb263 => ?_) (fun hb263 => ?_)
      ·have h:=cond_t hb263 h
       refine ht_skip ?_
       refine pt_then (ht_seq ?_)
       refine ht_block ?_
       refine ht_joinS h (fun (s264:Bool)=>[(0,.fr .shr true 9 (flatten (map T_Event.ienc l))),(3,vi s138),(4,vi s139),(6,vi s250),(5,vb s264)]) ?_ ?_
       ·rintro s264 h
        refine pt_inb ?_
        refine pt_then ?_
        obtain ⟨v8, hv8, h⟩:=zn h
        refine yx hn 1 ?_
        refine ys 0 ⟨lb hv8⟩ ?_
        refine yw [6] 1 ?_
        refine ye [0,3,4,5,6] ?_
        exact pt_next _ (zi h).symm rfl
       ·intro u265 h hl266 hr267
        refine cond_some h (fun hg9_1 h => ?_) (fun hg9_1 h => ?_)
        ·obtain ⟨v12, hv12, h⟩:=zn h
         obtain ⟨v13, hv13, h⟩:=zn h
         obtain ⟨v14, hv14, h⟩:=zn h
         obtain ⟨v15, hv15, h⟩:=zn h
         obtain ⟨v16, hv16, h⟩:=zn h
         refine wb [[5],[18]] ?_
         refine wd hg9_1 [[19,0],[19,6]] ?_
         refine wN [19,20,21] ?_
         refine wo [] ⟨lI hv12⟩ ?_
         refine wN [19,22,20] ?_
         refine wS (.agg (T_Event.c v13 [])) [[19,0],[19,4]] ⟨op_loadA_fr _ _ _ _ _ _ _ _ underlying55 rfl sz55 rfl rfl (gflat_get T_Event.ilen hv13) (.cons (.v _) (.cons (.v _) (.cons (.v _) (.cons (.v _) (.cons (.v _) (.cons (.v _) (.cons (.v _) (.cons (.v _) (.cons (.fl _ _ rfl) (.nil)))))))))) rfl (by decide)⟩ ?_
         refine wN [19,24,25] ?_
         refine wo [] ⟨lI hv14⟩ ?_
         refine wN [19,26,24] ?_
         refine wS (.agg (T_Event.c v15 [])) [] ⟨op_loadA_fr _ _ _ _ _ _ _ _ underlying55 rfl sz55 rfl rfl (gflat_get T_Event.ilen hv15) (.cons (.v _) (.cons (.v _) (.cons (.v _) (.cons (.v _) (.cons (.v _) (.cons (.v _) (.cons (.v _) (.cons (.v _) (.cons (.fl _ _ rfl) (.nil)))))))))) rfl (by decide)⟩ ?_
         refine wN [19,23,27] ?_
         refine wo [[19,28],[19,29]] ⟨lk call31 (ok_wherrykeep_Event _ _ _ hv16)⟩ ?_
         refine wK [5] [30] ?_
         refine wt [(5,vb (!v16))] [] ⟨LOp.drop [_] (op_assign _ _ _ _ rfl rfl)⟩ ?_
         refine we hn [0,3,4,6,5] ?_
         exact hl266 _ (zi h).symm
        ·refine wb [[5],[18]] ?_
         refine wd hg9_1 [[19],[19],[19],[19],[19],[19],[19],[19],[19],[19],[19]] ?_
         refine wK [5] [30] ?_
         refine wt [(5,vb false)] [] ⟨LOp.drop [_] (op_assign _ _ _ _ rfl rfl)⟩ ?_
         refine we hn [0,3,4,6,5] ?_
         exact hl266 _ (zi h).symm
      ·have h:=cond_f hb263 h
       refine ht_exit ?_
       refine pt_x_then ?_
       refine pt_x_then ?_
       refine pt_x_in ?_
       refine pt_pick [0,1,2,3] (by kernel_rfl) (es':=[(_,_),(_,_),(_,_),(_,_)]) rfl ?_
       exact hl258 _ (ho260 _ (zi h).symm).symm
   ·have h:=cond_f hb208 h
    refine ht_exit ?_
    refine pt_x_then ?_
    refine pt_x_then ?_
    refine pt_x_in ?_
    refine pt_pick [1] (by kernel_rfl) (es':=[(_,_)]) rfl ?_
    exact hl203 _ (ho205 _ (zi h).symm).symm
theorem ok_tally_waits (x:T_Item) (r:Bool) (h:Sh.tally_waits x=some r):FnOK Tryz.prog 32 [.agg [.v (.int .i64 x.Id), .v (.bool x.Mail.From.Null), .v (.string x.Mail.From.Local), .v (.string x.Mail.From.Domain), .fl .shr 3 (flatten (map T_Path.enc x.Mail.To)), .fl .shr 1 (map (int .u8) x.Mail.Body), .v (.bool x.Mail.Quiet), .v (.string x.Mail.Helo), .v (.int .i64 x.Mail.At), .v (.int .i64 x.State), .v (.int .i64 x.Pack)]] (.v (.bool r)):=by
  unfold Sh.tally_waits at h
  refine yO 11 func32 fun g0 hn hio => ?_
  refine yyy hn 2 [1] ?_
  refine ht_seq ?_
  refine ht_joinS h (fun (s1:Bool)=>[(2,vb s1)]) ?_ ?_
  ·rintro s1 h
   refine pt_then (ht_ret ?_)
   obtain rfl:=zi h
   exact pt_ret hio rfl (.tmp _ _ .nil) rfl rfl
  ·intro u2 h hl3 hr4
   refine cond_some h (fun hg1_3 h => ?_) (fun hg1_3 h => ?_)
   ·refine yx hn 4 ?_
    refine yd hg1_3 5 ?_
    refine ye [2] ?_
    exact hl3 _ (zi h).symm
   ·refine yx hn 4 ?_
    refine yd hg1_3 5 ?_
    refine ye [2] ?_
    exact hl3 _ (zi h).symm
theorem ok_tally_Waits (s:T_Spool) (r:Int) (h:Sh.tally_Waits s=some r):FnOK Tryz.prog 14 [.agg [.fr .shr true 11 (flatten (map T_Item.ienc s.Items)), .v (.int .i64 s.Packs), .fl .shr 1 (map (int .i64) s.Sent), .fl .shr 1 (map (int .u8) s.Part), .v (.int .i64 s.Of), .fl .shr 1 (map (int .i64) s.Done)]] (.v (.int .i64 r)):=by
  unfold Sh.tally_Waits at h
  refine yO 19 func14 fun g0 hn hio => ?_
  refine yyy hn 2 [1] ?_
  refine yyy hn 1 [1,3] ?_
  refine ht_seq ?_
  refine yyy hn 4 [3,7,8,9] ?_
  refine ht_loopS h (fun ((s22,s23):Int×Int)=>[(3,vi s22),(7,.fr .shr true 11 (flatten (map T_Item.ienc s.Items))),(8,vi (s.Items.length:Int)),(9,vi s23)]) (fun (s31:Int)=>[(3,vi s31)]) ?_ ?_
  ·rintro s31 h
   refine pt_then ?_
   refine yyy hn 2 [2] ?_
   refine ht_ret ?_
   obtain rfl:=zi h
   exact pt_ret hio rfl (.tmp _ _ .nil) rfl rfl
  ·rintro u32 hl33 hr34 ⟨s22, s23⟩ rr37 h ho35
   refine yyy hn 1 [3,7,8,9,10] ?_
   refine ht_seq ?_
   refine ht_cond _ rfl (fun hb38 => ?_) (fun hb38 => ?_)
   ·have h:=cond_t hb38 h
    refine ht_skip ?_
    refine pt_then (ht_seq ?_)
    refine ht_joinS h (fun (s40:Int)=>[(7,.fr .shr true 11 (flatten (map T_Item.ienc s.Items))),(8,vi (s.Items.length:Int)),(9,vi s23),(3,vi s40)]) ?_ ?_
    ·rintro s40 h
     refine pt_then ?_
     obtain ⟨v12, hv12, h⟩:=zn h
     refine yx hn 0 ?_
     refine ys 0 ⟨lb hv12⟩ ?_
     refine yw [9] 1 ?_
     refine ye [7,8,3,9] ?_
     refine pt_pick [2,0,1,3] (by kernel_rfl) (es':=[(_,_),(_,_),(_,_),(_,_)]) rfl ?_
     exact pt_next _ (zi h).symm rfl
    ·intro u41 h hl42 hr43
     refine ht_block ?_
     refine ht_seq ?_
     obtain ⟨v2, hv2, h⟩:=zn h
     obtain ⟨v3, hv3, h⟩:=zn h
     refine yx hn 0 ?_
     refine ys 0 ⟨lI hv2⟩ ?_
     refine yS (.agg (T_Item.c v3 [])) 0 ⟨op_loadA_fr _ _ _ _ _ _ _ _ underlying74 rfl sz74 rfl rfl (gflat_get T_Item.ilen hv3) (.cons (.v _) (.cons (.v _) (.cons (.v _) (.cons (.v _) (.cons (.fl _ _ rfl) (.cons (.fl _ _ rfl) (.cons (.v _) (.cons (.v _) (.cons (.v _) (.cons (.v _) (.cons (.v _) (.nil)))))))))))) rfl (by decide)⟩ ?_
     refine yS (.box 74 [vi 0,vb false,vs z0,vs z0,vz,vz,vb false,vs z0,vi 0,vi 0,vi 0]) 1 ⟨oA (op_alloc _ _ zr74)⟩ ?_
     refine yee [3,7,8,9,5] ?_
     refine ht_seq ?_
     obtain ⟨v4, hv4, h⟩:=zn h
     refine yx hn 1 ?_
     refine ys 0 ⟨lk call32 (ok_tally_waits _ _ hv4)⟩ ?_
     refine yee [3,7,8,9,14] ?_
     refine ht_cond _ rfl (fun hb44 => ?_) (fun hb44 => ?_)
     ·have h:=cond_t hb44 h
      obtain ⟨v6, hv6, h⟩:=zn h
      refine yx hn 1 ?_
      refine ys 0 ⟨lb hv6⟩ ?_
      refine yw [3] 1 ?_
      refine ye [7,8,9,3] ?_
      refine pt_inb ?_
      exact hl42 _ (zi h).symm
     ·have h:=cond_f hb44 h
      refine ht_skip ?_
      refine pt_inb ?_
      refine pt_pick [1,2,3,0] (by kernel_rfl) (es':=[(_,_),(_,_),(_,_),(_,_)]) rfl ?_
      exact hl42 _ (zi h).symm
   ·have h:=cond_f hb38 h
    refine ht_exit ?_
    refine pt_x_then ?_
    refine pt_x_then ?_
    refine pt_x_in ?_
    refine pt_pick [0] (by kernel_rfl) (es':=[(_,_)]) rfl ?_
    exact hl33 _ (ho35 _ (zi h).symm).symm
theorem ok_wherryref23_Waits (s:T_Spool) (r:Int) (h:Sh.wherryref23_Waits s=some r):FnOK Tryz.prog 15 [.agg [.fr .shr true 11 (flatten (map T_Item.ienc s.Items)), .v (.int .i64 s.Packs), .fl .shr 1 (map (int .i64) s.Sent), .fl .shr 1 (map (int .u8) s.Part), .v (.int .i64 s.Of), .fl .shr 1 (map (int .i64) s.Done)]] (.v (.int .i64 r)):=by
  unfold Sh.wherryref23_Waits at h
  refine yO 31 func15 fun g0 hn hio => ?_
  refine yyy hn 2 [1] ?_
  refine yyy hn 1 [1,3] ?_
  refine ht_seq ?_
  refine yyy hn 1 [1,3,4] ?_
  refine ht_loopS h (fun ((s39,s40):Int×Int)=>[(1,.box 44 (T_Spool.c s [])),(3,vi s39),(4,vi s40)]) (fun (s56:Int)=>[(3,vi s56)]) ?_ ?_
  ·rintro s56 h
   refine pt_then ?_
   refine yyy hn 2 [2] ?_
   refine ht_ret ?_
   obtain rfl:=zi h
   exact pt_ret hio rfl (.tmp _ _ .nil) rfl rfl
  ·rintro u57 hl58 hr59 ⟨s39, s40⟩ rr62 h ho60
   refine ht_seq ?_
   refine yyy hn 5 [1,3,4,9] ?_
   refine ht_cond _ rfl (fun hb63 => ?_) (fun hb63 => ?_)
   ·have h:=cond_t hb63 h
    refine ht_skip ?_
    refine pt_then (ht_seq ?_)
    refine ht_joinS h (fun (s69:Int)=>[(1,.box 44 (T_Spool.c s [])),(4,vi s40),(3,vi s69)]) ?_ ?_
    ·rintro s69 h
     refine pt_then ?_
     obtain ⟨v21, hv21, h⟩:=zn h
     refine yx hn 1 ?_
     refine ys 0 ⟨lb hv21⟩ ?_
     refine yw [4] 1 ?_
     refine ye [1,3,4] ?_
     exact pt_next _ (zi h).symm rfl
    ·intro u70 h hl71 hr72
     refine ht_block ?_
     refine ht_seq ?_
     refine ht_joinS h (fun (s73:Bool)=>[(1,.box 44 (T_Spool.c s [])),(3,vi s39),(4,vi s40),(27,vb s73)]) ?_ ?_
     ·rintro s73 h
      refine pt_then ?_
      refine ht_cond _ rfl (fun hb77 => ?_) (fun hb77 => ?_)
      ·have h:=cond_t hb77 h
       obtain ⟨v11, hv11, h⟩:=zn h
       refine yx hn 1 ?_
       refine ys 0 ⟨lb hv11⟩ ?_
       refine yw [3] 1 ?_
       refine ye [1,4,3] ?_
       refine pt_inb ?_
       exact hl71 _ (zi h).symm
      ·have h:=cond_f hb77 h
       refine ht_skip ?_
       refine pt_inb ?_
       refine pt_pick [0,2,1] (by kernel_rfl) (es':=[(_,_),(_,_),(_,_)]) rfl ?_
       exact hl71 _ (zi h).symm
     ·intro u74 h hl75 hr76
      obtain ⟨v2, hv2, h⟩:=zn h
      obtain ⟨v3, hv3, h⟩:=zn h
      refine cond_some h (fun hg5_7 h => ?_) (fun hg5_7 h => ?_)
      ·refine yx hn 3 ?_
       refine ys 1 ⟨lI hv2⟩ ?_
       refine yS (vi v3.State) 2 ⟨op_load_fr _ _ _ _ _ _ _ underlying3 rfl rfl rfl (gflat_cell T_Item.ilen hv3 rfl) (.v _)⟩ ?_
       refine yd hg5_7 8 ?_
       refine ye [1,3,4,27] ?_
       exact hl75 _ (zi h).symm
      ·obtain ⟨v4, hv4, h⟩:=zn h
       obtain ⟨v5, hv5, h⟩:=zn h
       refine yx hn 3 ?_
       refine ys 1 ⟨lI hv2⟩ ?_
       refine yS (vi v3.State) 2 ⟨op_load_fr _ _ _ _ _ _ _ underlying3 rfl rfl rfl (gflat_cell T_Item.ilen hv3 rfl) (.v _)⟩ ?_
       refine yd hg5_7 3 ?_
       refine ys 1 ⟨lI hv4⟩ ?_
       refine yS (vi v5.State) 2 ⟨op_load_fr _ _ _ _ _ _ _ underlying3 rfl rfl rfl (gflat_cell T_Item.ilen hv5 rfl) (.v _)⟩ ?_
       refine ye [1,3,4,27] ?_
       exact hl75 _ (zi h).symm
   ·have h:=cond_f hb63 h
    refine ht_exit ?_
    refine pt_x_then ?_
    refine pt_x_then ?_
    refine pt_x_in ?_
    refine pt_pick [1] (by kernel_rfl) (es':=[(_,_)]) rfl ?_
    exact hl58 _ (ho60 _ (zi h).symm).symm
theorem ok_path_Fold (s:ByteArray) (r:ByteArray) (h:Sh.path_Fold s=some r):FnOK Tryz.prog 66 [.v (.string s)] (.v (.string r)):=by
  unfold Sh.path_Fold at h
  refine yO 29 func66 fun g0 hn hio => ?_
  refine yyy hn 1 [0] ?_
  refine ht_seq ?_
  obtain ⟨v1, hv1, h⟩:=zn h
  refine yx hn 1 ?_
  refine ys 0 ⟨lU hv1⟩ ?_
  refine ya 0 ?_
  refine yee [3] ?_
  refine ht_seq ?_
  refine yxx hn 1 ?_
  refine yS (vi (v1.length:Int)) 1 ⟨op_len_mk _ _ _ underlying25 rfl (List.length_map _)⟩ ?_
  refine yee [3,8,9,10] ?_
  refine ht_loopS h (fun ((s40,s41):(List Int)×Int)=>[(3,.mkr 5 (map (int .u8) s40)),(8,.same (.slot 3)),(9,vi (v1.length:Int)),(10,vi s41)]) (fun (s57:(List Int))=>[(3,.mkr 5 (map (int .u8) s57))]) ?_ ?_
  ·rintro s57 h
   refine pt_then (ht_seq ?_)
   obtain ⟨v79, hv79, h⟩:=zn h
   refine yx hn 0 ?_
   refine ym 0 ?_
   refine ys 1 ⟨lM hv79⟩ ?_
   refine yee [2] ?_
   refine ht_ret ?_
   obtain rfl:=zi h
   exact pt_ret hio rfl (.tmp _ _ .nil) rfl rfl
  ·rintro u58 hl59 hr60 ⟨s40, s41⟩ rr63 h ho61
   refine yyy hn 1 [3,8,9,10,11] ?_
   refine ht_seq ?_
   refine ht_cond _ rfl (fun hb64 => ?_) (fun hb64 => ?_)
   ·have h:=cond_t hb64 h
    refine ht_skip ?_
    refine pt_then (ht_seq ?_)
    refine ht_joinS h (fun (s70:(List Int))=>[(3,.mkr 5 (map (int .u8) s70)),(8,.same (.slot 3)),(9,vi (v1.length:Int)),(10,vi s41)]) ?_ ?_
    ·rintro s70 h
     refine pt_then ?_
     obtain ⟨v22, hv22, h⟩:=zn h
     refine yx hn 0 ?_
     refine ys 0 ⟨lb hv22⟩ ?_
     refine yw [10] 1 ?_
     refine ye [3,8,9,10] ?_
     exact pt_next _ (zi h).symm rfl
    ·intro u71 h hl72 hr73
     refine ht_block ?_
     refine ht_seq ?_
     obtain ⟨v3, hv3, h⟩:=zn h
     obtain ⟨v4, hv4, h⟩:=zn h
     refine yx hn 1 ?_
     refine yS (.eref (.slot 3) (v3 * 1)) 0 ⟨op_ix_mk _ _ _ _ _ _ _ underlying25 sz5 rfl rfl rfl (ix_ok hv3).1 (mk_lt' (ix_ok hv3).2) rfl⟩ ?_
     refine yS (.v (.int .u8 v4)) 2 ⟨op_load_mk _ _ _ _ _ _ underlying5 rfl rfl rfl (map_get hv4)⟩ ?_
     refine yee [3,8,9,10,4,5] ?_
     refine ht_seq ?_
     refine ht_joinS h (fun (s74:Bool)=>[(3,.mkr 5 (map (int .u8) s40)),(8,.same (.slot 3)),(9,vi (v1.length:Int)),(10,vi s41),(4,vi s41),(5,.v (.int .u8 v4)),(20,vb s74)]) ?_ ?_
     ·rintro s74 h
      refine pt_then ?_
      refine ht_cond _ rfl (fun hb78 => ?_) (fun hb78 => ?_)
      ·have h:=cond_t hb78 h
       obtain ⟨v10, hv10, h⟩:=zn h
       obtain ⟨v11, hv11, h⟩:=zn h
       obtain ⟨v12, hv12, h⟩:=zn h
       refine yx hn 3 ?_
       refine ys 0 ⟨lb hv10⟩ ?_
       refine yS (.eref (.slot 3) (v11 * 1)) 0 ⟨op_ix_mk _ _ _ _ _ _ _ underlying25 sz5 rfl rfl rfl (ix_ok hv11).1 (mk_lt' (ix_ok hv11).2) rfl⟩ ?_
       refine yk [3] [25,24] ?_
       refine yt (3,.mkr 5 (map (int .u8) v12)) 0 ⟨op_store_mk _ _ _ _ _ _ _ sz5 rfl rfl rfl (mk_lt (ix_ok hv11).2) (mk_set (f:=int .u8) (Option.some.inj hv12))⟩ ?_
       refine ye [3,8,9,10] ?_
       refine pt_inb ?_
       exact hl72 _ (zi h).symm
      ·have h:=cond_f hb78 h
       refine ht_skip ?_
       refine pt_inb ?_
       refine pt_pick [0,1,2,3] (by kernel_rfl) (es':=[(_,_),(_,_),(_,_),(_,_)]) rfl ?_
       exact hl72 _ (zi h).symm
     ·intro u75 h hl76 hr77
      refine cond_some h (fun hg5_2 h => ?_) (fun hg5_2 h => ?_)
      ·refine yx hn 3 ?_
       refine yd hg5_2 3 ?_
       refine ye [3,8,9,10,4,5,20] ?_
       exact hl76 _ (zi h).symm
      ·refine yx hn 3 ?_
       refine yd hg5_2 3 ?_
       refine ye [3,8,9,10,4,5,20] ?_
       exact hl76 _ (zi h).symm
   ·have h:=cond_f hb64 h
    refine ht_exit ?_
    refine pt_x_then ?_
    refine pt_x_then ?_
    refine pt_x_in ?_
    refine pt_pick [0] (by kernel_rfl) (es':=[(_,_)]) rfl ?_
    exact hl59 _ (ho61 _ (zi h).symm).symm
theorem ok_path_At (mx:Int) (p:T_Path) (domain:ByteArray) (r:Bool) (h:Sh.path_At p domain=some r):FnG Tryz.prog (GL mx) 48 [.agg [.v (.bool p.Null), .v (.string p.Local), .v (.string p.Domain)], .v (.string domain)] (.v (.bool r)):=by
  unfold Sh.path_At at h
  refine yG 21 func48 fun g0 hn hio => ?_
  refine yyy hn 2 [1,21,2] ?_
  refine ht_seq ?_
  refine ht_joinS h (fun (s4:Bool)=>[(21,.glob (GL mx)),(4,vb s4)]) ?_ ?_
  ·rintro s4 h
   refine pt_then (ht_ret ?_)
   refine pt_pick [1] (by kernel_rfl) (es':=[(_,_)]) rfl ?_
   obtain rfl:=zi h
   exact pt_ret hio rfl (.tmp _ _ .nil) rfl rfl
  ·intro u5 h hl6 hr7
   obtain ⟨v1, hv1, h⟩:=zn h
   refine cond_some h (fun hg1_3 h => ?_) (fun hg1_3 h => ?_)
   ·refine cond_some h (fun hg1_8 h => ?_) (fun hg1_8 h => ?_)
    ·obtain ⟨v2, hv2, h⟩:=zn h
     obtain ⟨v3, hv3, h⟩:=zn h
     refine yx hn 1 ?_
     refine ys 2 ⟨lg call65 (ok_path_Check _ _ _ hv1) 21⟩ ?_
     refine yd hg1_3 5 ?_
     refine yd hg1_8 2 ?_
     refine ys 1 ⟨lk call66 (ok_path_Fold _ _ hv2)⟩ ?_
     refine ys 3 ⟨lk call66 (ok_path_Fold _ _ hv3)⟩ ?_
     refine ye [21,4] ?_
     exact hl6 _ (zi h).symm
    ·refine yx hn 1 ?_
     refine ys 2 ⟨lg call65 (ok_path_Check _ _ _ hv1) 21⟩ ?_
     refine yd hg1_3 5 ?_
     refine yd hg1_8 8 ?_
     refine ye [21,4] ?_
     exact hl6 _ (zi h).symm
   ·refine yx hn 1 ?_
    refine ys 2 ⟨lg call65 (ok_path_Check _ _ _ hv1) 21⟩ ?_
    refine yd hg1_3 13 ?_
    refine ye [21,4] ?_
    exact hl6 _ (zi h).symm
theorem ok_envelope_At (mx:Int) (m:T_Mail) (domain:ByteArray) (r:(List T_Path)) (h:Sh.envelope_At m domain=some r):FnG Tryz.prog (GL mx) 33 [.agg [.v (.bool m.From.Null), .v (.string m.From.Local), .v (.string m.From.Domain), .fl .shr 3 (flatten (map T_Path.enc m.To)), .fl .shr 1 (map (int .u8) m.Body), .v (.bool m.Quiet), .v (.string m.Helo), .v (.int .i64 m.At)], .v (.string domain)] (.fl (.own 24) 3 (flatten (map T_Path.enc r))):=by
  unfold Sh.envelope_At at h
  refine yG 24 func33 fun g0 hn hio => ?_
  refine yyy hn 2 [1,24,2] ?_
  refine yyy hn 1 [1,24,2,5] ?_
  refine ht_seq ?_
  refine yyy hn 4 [1,24,5,9,10,11] ?_
  refine ht_sub (fs:=[(1,vs domain),(24,.glob (GL mx)),(5,.fl (.own 24) 3 (flatten (map T_Path.enc []))),(9,.fl .shr 3 (flatten (map T_Path.enc m.To))),(10,vi (m.To.length:Int)),(11,vi 0)]) (.same _ (.same _ (.sub _ (sub_nil 24 3) rfl (.same _ (.same _ (.same _ .nil)))))) ?_
  refine ht_loopS h (fun ((s22,s23):(List T_Path)×Int)=>[(1,vs domain),(24,.glob (GL mx)),(5,.fl (.own 24) 3 (flatten (map T_Path.enc s22))),(9,.fl .shr 3 (flatten (map T_Path.enc m.To))),(10,vi (m.To.length:Int)),(11,vi s23)]) (fun (s31:(List T_Path))=>[(24,.glob (GL mx)),(5,.fl (.own 24) 3 (flatten (map T_Path.enc s31)))]) ?_ ?_
  ·rintro s31 h
   refine pt_then ?_
   refine yxx hn 0 ?_
   refine ym 0 ?_
   refine ya 0 ?_
   refine yee [24,4] ?_
   refine ht_ret ?_
   refine pt_pick [1] (by kernel_rfl) (es':=[(_,_)]) rfl ?_
   obtain rfl:=zi h
   exact pt_ret hio rfl (.tmp _ _ .nil) rfl rfl
  ·rintro u32 hl33 hr34 ⟨s22, s23⟩ rr37 h ho35
   refine yyy hn 1 [1,24,5,9,10,11,12] ?_
   refine ht_seq ?_
   refine ht_cond _ rfl (fun hb38 => ?_) (fun hb38 => ?_)
   ·have h:=cond_t hb38 h
    refine ht_skip ?_
    refine pt_then (ht_seq ?_)
    refine ht_joinS h (fun (s40:(List T_Path))=>[(1,vs domain),(24,.glob (GL mx)),(9,.fl .shr 3 (flatten (map T_Path.enc m.To))),(10,vi (m.To.length:Int)),(11,vi s23),(5,.fl (.own 24) 3 (flatten (map T_Path.enc s40)))]) ?_ ?_
    ·rintro s40 h
     refine pt_then ?_
     obtain ⟨v12, hv12, h⟩:=zn h
     refine yx hn 0 ?_
     refine ys 0 ⟨lb hv12⟩ ?_
     refine yw [11] 1 ?_
     refine ye [1,24,9,10,5,11] ?_
     refine pt_pick [0,1,4,2,3,5] (by kernel_rfl) (es':=[(_,_),(_,_),(_,_),(_,_),(_,_),(_,_)]) rfl ?_
     exact pt_next _ (zi h).symm rfl
    ·intro u41 h hl42 hr43
     refine ht_block ?_
     refine ht_seq ?_
     obtain ⟨v2, hv2, h⟩:=zn h
     obtain ⟨v3, hv3, h⟩:=zn h
     refine yx hn 0 ?_
     refine ys 0 ⟨lj hv2⟩ ?_
     refine yS (.agg [vb v3.Null,vs v3.Local,vs v3.Domain]) 0 ⟨op_load_eA _ _ _ _ _ _ _ underlying24 rfl sz24 rfl rfl (flat_get T_Path.len hv3) rfl (by decide)⟩ ?_
     refine yS (.box 24 [vb false,vs z0,vs z0]) 1 ⟨oA (op_alloc _ _ zr24)⟩ ?_
     refine yee [1,24,5,9,10,11,7] ?_
     refine ht_seq ?_
     obtain ⟨v4, hv4, h⟩:=zn h
     refine yx hn 2 ?_
     refine ys 0 ⟨lg call48 (ok_path_At _ _ _ _ hv4) 24⟩ ?_
     refine yee [1,24,5,9,10,11,7,17] ?_
     refine ht_cond _ rfl (fun hb44 => ?_) (fun hb44 => ?_)
     ·have h:=cond_t hb44 h
      obtain ⟨v6, hv6, h⟩:=zn h
      refine yx hn 0 ?_
      refine ym 1 ?_
      refine yS (.fl (.own 24) 3 (flatten (map T_Path.enc [v3]))) 0 ⟨op_buildSlice _ _ 3 (.agg #[.bool false,.string ByteArray.empty,.string ByteArray.empty]) (flatten (map T_Path.enc [v3])) [(0,.agg #[.bool v3.Null,.string v3.Local,.string v3.Domain])] underlying30 sz24 zr24 (fun _ V w o a hv hes=>by have e0:=agg_v (ys:=[.bool v3.Null,.string v3.Local,.string v3.Domain]) hv hes (x := .tmp 19) rfl; simp only [List.map_toArray,List.map_cons,List.map_nil,e0]; try rfl) (litfill (by simp [Instr.fill,Value.cells]; rfl) (by simp [List.range,List.range.loop,T_Path.enc] <;> rfl)) (by simp [Value.oneCell',T_Path.enc]) rfl (by decide) (by decide) (by decide)⟩ ?_
      refine yP' el30 hv6 0 ?_
      refine ya 0 ?_
      refine ye [1,24,9,10,11,5] ?_
      refine pt_inb ?_
      exact hl42 _ (zi h).symm
     ·have h:=cond_f hb44 h
      refine ht_skip ?_
      refine pt_inb ?_
      refine pt_pick [0,1,3,4,5,2] (by kernel_rfl) (es':=[(_,_),(_,_),(_,_),(_,_),(_,_),(_,_)]) rfl ?_
      exact hl42 _ (zi h).symm
   ·have h:=cond_f hb38 h
    refine ht_exit ?_
    refine pt_x_then ?_
    refine pt_x_then ?_
    refine pt_x_in ?_
    refine pt_pick [1,2] (by kernel_rfl) (es':=[(_,_),(_,_)]) rfl ?_
    exact hl33 _ (ho35 _ (zi h).symm).symm
theorem ok_tally_Far (mx:Int) (c:T_Config) (i:Int) (m:T_Mail) (r:(List T_Path)) (h:Sh.tally_Far c i m=some r):FnG Tryz.prog (GL mx) 17 [.agg [.v (.string ((c.Domains.getD 0 (⟨#[]⟩:ByteArray)))), .v (.string ((c.Domains.getD 1 (⟨#[]⟩:ByteArray)))), .v (.int .i64 c.Expiry), .v (.string c.User), .v (.string c.Secret), .v (.int .i64 c.Log), .v (.bool c.Held)], .v (.int .i64 i), .agg [.v (.bool m.From.Null), .v (.string m.From.Local), .v (.string m.From.Domain), .fl .shr 3 (flatten (map T_Path.enc m.To)), .fl .shr 1 (map (int .u8) m.Body), .v (.bool m.Quiet), .v (.string m.Helo), .v (.int .i64 m.At)]] (.fl (.own 24) 3 (flatten (map T_Path.enc r))):=by
  unfold Sh.tally_Far at h
  refine yG 20 func17 fun g0 hn hio => ?_
  refine yyy hn 3 [1,20,3,5] ?_
  refine ht_seq ?_
  refine ht_seq ?_
  refine ht_joinS h (fun (s1:Bool)=>[(1,vi i),(20,.glob (GL mx)),(3,.box 29 (T_Config.c c [])),(5,.box 32 (T_Mail.c m [])),(12,vb s1)]) ?_ ?_
  ·rintro s1 h
   refine pt_then ?_
   refine ht_cond _ rfl (fun hb5 => ?_) (fun hb5 => ?_)
   ·have h:=cond_t hb5 h
    refine yyy hn 1 [20,6] ?_
    refine ht_ret ?_
    refine pt_pick [1] (by kernel_rfl) (es':=[(_,_)]) rfl ?_
    refine pt_sub (fs:=[(6,.fl (.own 24) 3 (flatten (map T_Path.enc [])))]) (.sub _ (sub_nil 24 3) rfl .nil) ?_
    refine pt_r_then ?_
    obtain rfl:=zi h
    exact pt_ret hio rfl (.tmp _ _ .nil) rfl rfl
   ·have h:=cond_f hb5 h
    refine ht_skip ?_
    refine pt_then (ht_seq ?_)
    obtain ⟨v6, hv6, h⟩:=zn h
    obtain ⟨v7, hv7, h⟩:=zn h
    obtain ⟨v8, hv8, h⟩:=zn h
    obtain ⟨v9, hv9, h⟩:=zn h
    refine wb [[5],[1]] ?_
    refine wN [14] ?_
    refine wo [[3]] ⟨lb hv6⟩ ?_
    refine wN [16,3,15] ?_
    refine wS (.ptr 3 (0+v7 * 1)) [] ⟨op_ix_dyn _ _ _ _ 2 3 0 _ underlying27 sz9 rfl rfl (ix_ok hv7).1 (ix_ok hv7).2 (by decide)⟩ ?_
    refine wN [17,3] ?_
    refine wS (vs v8) [] ⟨op_load_dyn _ _ _ 3 0 v7 2 ([(c.Domains.getD 0 z0),(c.Domains.getD 1 z0)]:List ByteArray) _ underlying9 rfl rfl rfl rfl hv8⟩ ?_
    refine wN [13,18,20] ?_
    refine wo [] ⟨lg call33 (ok_envelope_At _ _ _ _ hv9) 20⟩ ?_
    refine wK [19] [] ?_
    refine wt [(6,.fl (.own 24) 3 (flatten (map T_Path.enc v9)))] [] ⟨op_assign_take _ _ _ _ rfl⟩ ?_
    refine wee hn [20,6] ?_
    refine ht_ret ?_
    refine pt_pick [1] (by kernel_rfl) (es':=[(_,_)]) rfl ?_
    obtain rfl:=zi h
    exact pt_ret hio rfl (.tmp _ _ .nil) rfl rfl
  ·intro u2 h hl3 hr4
   refine cond_some h (fun hg1_2 h => ?_) (fun hg1_2 h => ?_)
   ·refine yx hn 3 ?_
    refine yd hg1_2 3 ?_
    refine ye [1,20,3,5,12] ?_
    exact hl3 _ (zi h).symm
   ·refine yx hn 3 ?_
    refine yd hg1_2 3 ?_
    refine ye [1,20,3,5,12] ?_
    exact hl3 _ (zi h).symm
theorem ok_wherryref23_in (n:Int) (lo:Int) (hi:Int) (r:Bool) (h:Sh.wherryref23_in n lo hi=some r):FnOK Tryz.prog 34 [.v (.int .i64 n), .v (.int .i64 lo), .v (.int .i64 hi)] (.v (.bool r)):=by
  unfold Sh.wherryref23_in at h
  refine yO 15 func34 fun g0 hn hio => ?_
  refine yyy hn 1 [0,1,2] ?_
  refine ht_seq ?_
  refine ht_joinS h (fun (s1:Bool)=>[(6,vb s1)]) ?_ ?_
  ·rintro s1 h
   refine pt_then (ht_ret ?_)
   obtain rfl:=zi h
   exact pt_ret hio rfl (.tmp _ _ .nil) rfl rfl
  ·intro u2 h hl3 hr4
   refine cond_some h (fun hg1_3 h => ?_) (fun hg1_3 h => ?_)
   ·refine yx hn 4 ?_
    refine yd hg1_3 5 ?_
    refine ye [6] ?_
    exact hl3 _ (zi h).symm
   ·refine yx hn 4 ?_
    refine yd hg1_3 5 ?_
    refine ye [6] ?_
    exact hl3 _ (zi h).symm
theorem ok_wherryref11_At (p:T_Path) (domain:ByteArray) (r:Bool) (h:Sh.wherryref11_At p domain=some r):FnOK Tryz.prog 49 [.agg [.v (.bool p.Null), .v (.string p.Local), .v (.string p.Domain)], .v (.string domain)] (.v (.bool r)):=by
  unfold Sh.wherryref11_At at h
  refine yO 20 func49 fun g0 hn hio => ?_
  refine yyy hn 2 [1,2] ?_
  refine ht_seq ?_
  refine ht_joinS h (fun (s4:Bool)=>[(4,vb s4)]) ?_ ?_
  ·rintro s4 h
   refine pt_then (ht_ret ?_)
   obtain rfl:=zi h
   exact pt_ret hio rfl (.tmp _ _ .nil) rfl rfl
  ·intro u5 h hl6 hr7
   obtain ⟨v1, hv1, h⟩:=zn h
   refine cond_some h (fun hg1_2 h => ?_) (fun hg1_2 h => ?_)
   ·refine cond_some h (fun hg1_7 h => ?_) (fun hg1_7 h => ?_)
    ·obtain ⟨v2, hv2, h⟩:=zn h
     obtain ⟨v3, hv3, h⟩:=zn h
     refine yx hn 1 ?_
     refine ys 1 ⟨lk call57 (ok_wherryref11_Path _ _ hv1)⟩ ?_
     refine yd hg1_2 5 ?_
     refine yd hg1_7 2 ?_
     refine ys 1 ⟨lk call55 (ok_wherryref11_Fold _ _ hv2)⟩ ?_
     refine ys 3 ⟨lk call55 (ok_wherryref11_Fold _ _ hv3)⟩ ?_
     refine ye [4] ?_
     exact hl6 _ (zi h).symm
    ·refine yx hn 1 ?_
     refine ys 1 ⟨lk call57 (ok_wherryref11_Path _ _ hv1)⟩ ?_
     refine yd hg1_2 5 ?_
     refine yd hg1_7 8 ?_
     refine ye [4] ?_
     exact hl6 _ (zi h).symm
   ·refine yx hn 1 ?_
    refine ys 1 ⟨lk call57 (ok_wherryref11_Path _ _ hv1)⟩ ?_
    refine yd hg1_2 13 ?_
    refine ye [4] ?_
    exact hl6 _ (zi h).symm
theorem ok_wherryref23_Way (m:T_Mail) (domain:ByteArray) (r:(List T_Path)) (h:Sh.wherryref23_Way m domain=some r):FnOK Tryz.prog 35 [.agg [.v (.bool m.From.Null), .v (.string m.From.Local), .v (.string m.From.Domain), .fl .shr 3 (flatten (map T_Path.enc m.To)), .fl .shr 1 (map (int .u8) m.Body), .v (.bool m.Quiet), .v (.string m.Helo), .v (.int .i64 m.At)], .v (.string domain)] (.fl (.own 24) 3 (flatten (map T_Path.enc r))):=by
  unfold Sh.wherryref23_Way at h
  refine yO 30 func35 fun g0 hn hio => ?_
  refine yyy hn 2 [1,2] ?_
  refine yyy hn 1 [1,2,5] ?_
  refine ht_seq ?_
  refine yyy hn 1 [1,2,5,6] ?_
  refine ht_sub (fs:=[(1,vs domain),(2,.box 32 (T_Mail.c m [])),(5,.fl (.own 24) 3 (flatten (map T_Path.enc []))),(6,vi 0)]) (.same _ (.same _ (.sub _ (sub_nil 24 3) rfl (.same _ .nil)))) ?_
  refine ht_loopS h (fun ((s24,s25):(List T_Path)×Int)=>[(1,vs domain),(2,.box 32 (T_Mail.c m [])),(5,.fl (.own 24) 3 (flatten (map T_Path.enc s24))),(6,vi s25)]) (fun (s33:(List T_Path))=>[(5,.fl (.own 24) 3 (flatten (map T_Path.enc s33)))]) ?_ ?_
  ·rintro s33 h
   refine pt_then ?_
   refine yxx hn 0 ?_
   refine ym 0 ?_
   refine ya 0 ?_
   refine yee [4] ?_
   refine ht_ret ?_
   obtain rfl:=zi h
   exact pt_ret hio rfl (.tmp _ _ .nil) rfl rfl
  ·rintro u34 hl35 hr36 ⟨s24, s25⟩ rr39 h ho37
   refine ht_seq ?_
   refine yyy hn 5 [1,2,5,6,11] ?_
   refine ht_cond _ rfl (fun hb40 => ?_) (fun hb40 => ?_)
   ·have h:=cond_t hb40 h
    refine ht_skip ?_
    refine pt_then (ht_seq ?_)
    refine ht_joinS h (fun (s42:(List T_Path))=>[(1,vs domain),(2,.box 32 (T_Mail.c m [])),(6,vi s25),(5,.fl (.own 24) 3 (flatten (map T_Path.enc s42)))]) ?_ ?_
    ·rintro s42 h
     refine pt_then ?_
     obtain ⟨v14, hv14, h⟩:=zn h
     refine yx hn 1 ?_
     refine ys 0 ⟨lb hv14⟩ ?_
     refine yw [6] 1 ?_
     refine ye [1,2,5,6] ?_
     exact pt_next _ (zi h).symm rfl
    ·intro u43 h hl44 hr45
     refine ht_block ?_
     refine ht_seq ?_
     obtain ⟨v2, hv2, h⟩:=zn h
     obtain ⟨v3, hv3, h⟩:=zn h
     obtain ⟨v4, hv4, h⟩:=zn h
     refine yx hn 3 ?_
     refine ys 0 ⟨lj hv2⟩ ?_
     refine yS (.agg [vb v3.Null,vs v3.Local,vs v3.Domain]) 1 ⟨op_load_eA _ _ _ _ _ _ _ underlying24 rfl sz24 rfl rfl (flat_get T_Path.len hv3) rfl (by decide)⟩ ?_
     refine ys 0 ⟨lk call49 (ok_wherryref11_At _ _ _ hv4)⟩ ?_
     refine yee [1,2,5,6,20] ?_
     refine ht_cond _ rfl (fun hb46 => ?_) (fun hb46 => ?_)
     ·have h:=cond_t hb46 h
      obtain ⟨v6, hv6, h⟩:=zn h
      obtain ⟨v7, hv7, h⟩:=zn h
      obtain ⟨v8, hv8, h⟩:=zn h
      refine yx hn 0 ?_
      refine ym 3 ?_
      refine ys 0 ⟨lj hv6⟩ ?_
      refine yS (.agg [vb v7.Null,vs v7.Local,vs v7.Domain]) 0 ⟨op_load_eA _ _ _ _ _ _ _ underlying24 rfl sz24 rfl rfl (flat_get T_Path.len hv7) rfl (by decide)⟩ ?_
      refine yS (.fl (.own 24) 3 (flatten (map T_Path.enc [v7]))) 0 ⟨op_buildSlice _ _ 3 (.agg #[.bool false,.string ByteArray.empty,.string ByteArray.empty]) (flatten (map T_Path.enc [v7])) [(0,.agg #[.bool v7.Null,.string v7.Local,.string v7.Domain])] underlying30 sz24 zr24 (fun _ V w o a hv hes=>by have e0:=agg_v (ys:=[.bool v7.Null,.string v7.Local,.string v7.Domain]) hv hes (x := .tmp 26) rfl; simp only [List.map_toArray,List.map_cons,List.map_nil,e0]; try rfl) (litfill (by simp [Instr.fill,Value.cells]; rfl) (by simp [List.range,List.range.loop,T_Path.enc] <;> rfl)) (by simp [Value.oneCell',T_Path.enc]) rfl (by decide) (by decide) (by decide)⟩ ?_
      refine yP' el30 hv8 0 ?_
      refine ya 0 ?_
      refine ye [1,2,6,5] ?_
      refine pt_inb ?_
      exact hl44 _ (zi h).symm
     ·have h:=cond_f hb46 h
      refine ht_skip ?_
      refine pt_inb ?_
      refine pt_pick [0,1,3,2] (by kernel_rfl) (es':=[(_,_),(_,_),(_,_),(_,_)]) rfl ?_
      exact hl44 _ (zi h).symm
   ·have h:=cond_f hb40 h
    refine ht_exit ?_
    refine pt_x_then ?_
    refine pt_x_then ?_
    refine pt_x_in ?_
    refine pt_pick [2] (by kernel_rfl) (es':=[(_,_)]) rfl ?_
    exact hl35 _ (ho37 _ (zi h).symm).symm
theorem ok_wherryref23_FarOf (c:T_Config) (i:Int) (m:T_Mail) (r:(List T_Path)) (h:Sh.wherryref23_FarOf c i m=some r):FnOK Tryz.prog 18 [.agg [.v (.string ((c.Domains.getD 0 (⟨#[]⟩:ByteArray)))), .v (.string ((c.Domains.getD 1 (⟨#[]⟩:ByteArray)))), .v (.int .i64 c.Expiry), .v (.string c.User), .v (.string c.Secret), .v (.int .i64 c.Log), .v (.bool c.Held)], .v (.int .i64 i), .agg [.v (.bool m.From.Null), .v (.string m.From.Local), .v (.string m.From.Domain), .fl .shr 3 (flatten (map T_Path.enc m.To)), .fl .shr 1 (map (int .u8) m.Body), .v (.bool m.Quiet), .v (.string m.Helo), .v (.int .i64 m.At)]] (.fl (.own 24) 3 (flatten (map T_Path.enc r))):=by
  unfold Sh.wherryref23_FarOf at h
  refine yO 17 func18 fun g0 hn hio => ?_
  refine yyy hn 3 [1,3,5] ?_
  refine ht_seq ?_
  refine ht_seq ?_
  obtain ⟨v1, hv1, h⟩:=zn h
  refine yx hn 1 ?_
  refine ys 1 ⟨lk call34 (ok_wherryref23_in _ _ _ _ hv1)⟩ ?_
  refine yee [1,3,5,9] ?_
  refine ht_cond _ rfl (fun hb2 => ?_) (fun hb2 => ?_)
  ·have h:=cond_t hb2 h
   refine yyy hn 1 [6] ?_
   refine ht_ret ?_
   refine pt_sub (fs:=[(6,.fl (.own 24) 3 (flatten (map T_Path.enc [])))]) (.sub _ (sub_nil 24 3) rfl .nil) ?_
   refine pt_r_then ?_
   obtain rfl:=zi h
   exact pt_ret hio rfl (.tmp _ _ .nil) rfl rfl
  ·have h:=cond_f hb2 h
   refine ht_skip ?_
   refine pt_then (ht_seq ?_)
   obtain ⟨v3, hv3, h⟩:=zn h
   obtain ⟨v4, hv4, h⟩:=zn h
   obtain ⟨v5, hv5, h⟩:=zn h
   obtain ⟨v6, hv6, h⟩:=zn h
   refine wb [[5],[1]] ?_
   refine wN [11] ?_
   refine wo [[3]] ⟨lb hv3⟩ ?_
   refine wN [13,3,12] ?_
   refine wS (.ptr 3 (0+v4 * 1)) [] ⟨op_ix_dyn _ _ _ _ 2 3 0 _ underlying27 sz9 rfl rfl (ix_ok hv4).1 (ix_ok hv4).2 (by decide)⟩ ?_
   refine wN [14,3] ?_
   refine wS (vs v5) [] ⟨op_load_dyn _ _ _ 3 0 v4 2 ([(c.Domains.getD 0 z0),(c.Domains.getD 1 z0)]:List ByteArray) _ underlying9 rfl rfl rfl rfl hv5⟩ ?_
   refine wN [10,15] ?_
   refine wo [] ⟨lk call35 (ok_wherryref23_Way _ _ _ hv6)⟩ ?_
   refine wK [16] [] ?_
   refine wt [(6,.fl (.own 24) 3 (flatten (map T_Path.enc v6)))] [] ⟨op_assign_take _ _ _ _ rfl⟩ ?_
   refine wee hn [6] ?_
   refine ht_ret ?_
   obtain rfl:=zi h
   exact pt_ret hio rfl (.tmp _ _ .nil) rfl rfl
theorem ok_tally_Bound (s:T_Spool) (r:Int) (h:Sh.tally_Bound s=some r):FnOK Tryz.prog 19 [.agg [.fr .shr true 11 (flatten (map T_Item.ienc s.Items)), .v (.int .i64 s.Packs), .fl .shr 1 (map (int .i64) s.Sent), .fl .shr 1 (map (int .u8) s.Part), .v (.int .i64 s.Of), .fl .shr 1 (map (int .i64) s.Done)]] (.v (.int .i64 r)):=by
  unfold Sh.tally_Bound at h
  refine yO 36 func19 fun g0 hn hio => ?_
  refine yyy hn 2 [1] ?_
  refine yyy hn 1 [1,3] ?_
  refine ht_seq ?_
  refine yyy hn 4 [3,8,9,10] ?_
  refine ht_loopS h (fun ((s29,s30):Int×Int)=>[(3,vi s29),(8,.fr .shr true 11 (flatten (map T_Item.ienc s.Items))),(9,vi (s.Items.length:Int)),(10,vi s30)]) (fun (s38:Int)=>[(3,vi s38)]) ?_ ?_
  ·rintro s38 h
   refine pt_then ?_
   refine yyy hn 2 [2] ?_
   refine ht_ret ?_
   obtain rfl:=zi h
   exact pt_ret hio rfl (.tmp _ _ .nil) rfl rfl
  ·rintro u39 hl40 hr41 ⟨s29, s30⟩ rr44 h ho42
   refine yyy hn 1 [3,8,9,10,11] ?_
   refine ht_seq ?_
   refine ht_cond _ rfl (fun hb45 => ?_) (fun hb45 => ?_)
   ·have h:=cond_t hb45 h
    refine ht_skip ?_
    refine pt_then (ht_seq ?_)
    refine ht_joinS h (fun (s47:Int)=>[(8,.fr .shr true 11 (flatten (map T_Item.ienc s.Items))),(9,vi (s.Items.length:Int)),(10,vi s30),(3,vi s47)]) ?_ ?_
    ·rintro s47 h
     refine pt_then ?_
     obtain ⟨v19, hv19, h⟩:=zn h
     refine yx hn 0 ?_
     refine ys 0 ⟨lb hv19⟩ ?_
     refine yw [10] 1 ?_
     refine ye [8,9,3,10] ?_
     refine pt_pick [2,0,1,3] (by kernel_rfl) (es':=[(_,_),(_,_),(_,_),(_,_)]) rfl ?_
     exact pt_next _ (zi h).symm rfl
    ·intro u48 h hl49 hr50
     refine ht_block ?_
     refine ht_seq ?_
     obtain ⟨v2, hv2, h⟩:=zn h
     obtain ⟨v3, hv3, h⟩:=zn h
     refine yx hn 0 ?_
     refine ys 0 ⟨lI hv2⟩ ?_
     refine yS (.agg (T_Item.c v3 [])) 0 ⟨op_loadA_fr _ _ _ _ _ _ _ _ underlying74 rfl sz74 rfl rfl (gflat_get T_Item.ilen hv3) (.cons (.v _) (.cons (.v _) (.cons (.v _) (.cons (.v _) (.cons (.fl _ _ rfl) (.cons (.fl _ _ rfl) (.cons (.v _) (.cons (.v _) (.cons (.v _) (.cons (.v _) (.cons (.v _) (.nil)))))))))))) rfl (by decide)⟩ ?_
     refine yS (.box 74 [vi 0,vb false,vs z0,vs z0,vz,vz,vb false,vs z0,vi 0,vi 0,vi 0]) 1 ⟨oA (op_alloc _ _ zr74)⟩ ?_
     refine yee [3,8,9,10,5] ?_
     refine ht_seq ?_
     obtain ⟨v4, hv4, h⟩:=zn h
     refine yx hn 1 ?_
     refine ys 0 ⟨lk call32 (ok_tally_waits _ _ hv4)⟩ ?_
     refine yee [3,8,9,10,5,15] ?_
     refine ht_cond _ rfl (fun hb51 => ?_) (fun hb51 => ?_)
     ·have h:=cond_t hb51 h
      refine ht_seq ?_
      obtain ⟨v6, hv6, h⟩:=zn h
      obtain ⟨v7, hv7, h⟩:=zn h
      obtain ⟨v8, hv8, h⟩:=zn h
      refine yx hn 4 ?_
      refine ys 0 ⟨lb hv6⟩ ?_
      refine ys 0 ⟨lb hv7⟩ ?_
      refine ys 1 ⟨lB (quo_ok hv8)⟩ ?_
      refine yee [3,8,9,10,5,6] ?_
      obtain ⟨v9, hv9, h⟩:=zn h
      obtain ⟨v10, hv10, h⟩:=zn h
      obtain ⟨v11, hv11, h⟩:=zn h
      obtain ⟨v12, hv12, h⟩:=zn h
      obtain ⟨v13, hv13, h⟩:=zn h
      refine yx hn 2 ?_
      refine ys 0 ⟨lb hv9⟩ ?_
      refine ys 4 ⟨lb hv10⟩ ?_
      refine ys 0 ⟨lb hv11⟩ ?_
      refine ys 0 ⟨lb hv12⟩ ?_
      refine ys 0 ⟨lb hv13⟩ ?_
      refine yw [3] 1 ?_
      refine ye [8,9,10,3] ?_
      refine pt_inb ?_
      exact hl49 _ (zi h).symm
     ·have h:=cond_f hb51 h
      refine ht_skip ?_
      refine pt_inb ?_
      refine pt_pick [1,2,3,0] (by kernel_rfl) (es':=[(_,_),(_,_),(_,_),(_,_)]) rfl ?_
      exact hl49 _ (zi h).symm
   ·have h:=cond_f hb45 h
    refine ht_exit ?_
    refine pt_x_then ?_
    refine pt_x_then ?_
    refine pt_x_in ?_
    refine pt_pick [0] (by kernel_rfl) (es':=[(_,_)]) rfl ?_
    exact hl40 _ (ho42 _ (zi h).symm).symm
end Go.Proofs.YtofbofdggabfiaaGreatDoor
