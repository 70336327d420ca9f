/-
  The model's runs are what is told in Lean.
-/
import Derived.Test.YtglabbpbianmnaaGreatDoorProg
import Derived.KernelRfl
import Derived.Test.YtglabbpbianmnaaGreatDoorShelf
import Derived.Test.YtglabbpbianmnaaGreatDoorIdx
import Derived.Test.YtglabbpbianmnaaGreatDoorC1
import Derived.Test.YtglabbpbianmnaaGreatDoorOkc1
set_option linter.unusedVariables false
set_option linter.unusedSimpArgs false
set_option maxHeartbeats 1000000
namespace Go.Proofs.YtglabbpbianmnaaGreatDoor
open Go.Abs Go.Abs.Sh Tryz
open List (map flatten)
open Value (int)
theorem ok_wherryref11_commands (b:T_Bundle) (r:(List Int)) (h:Sh.wherryref11_commands b=some r):FnOK Tryz.prog 33 [.agg [.v (.int .i64 b.Origin), .v (.int .i64 b.Number), .fr .shr true 8 (flatten (map T_Mail.ienc b.Mails))]] (.fl (.own 5) 1 (map (int .u8) r)):=by
  unfold Sh.wherryref11_commands at h
  refine yO 51 func33 fun g0 hn hio => ?_
  refine yyy hn 2 [1] ?_
  refine yyy hn 1 [1,3] ?_
  refine ht_seq ?_
  refine yyy hn 1 [1,3,4] ?_
  refine ht_sub (fs:=[(1,.box 24 [vi b.Origin,vi b.Number,.fr .shr true 8 (flatten (map T_Mail.ienc b.Mails))]),(3,.fl (.own 5) 1 (map (int .u8) [])),(4,vi 0)]) (.same _ (.sub _ (sub_nil 5 1) rfl (.same _ .nil))) ?_
  refine ht_loopS h (fun ((s52,s53):(List Int)×Int)=>[(1,.box 24 [vi b.Origin,vi b.Number,.fr .shr true 8 (flatten (map T_Mail.ienc b.Mails))]),(3,.fl (.own 5) 1 (map (int .u8) s52)),(4,vi s53)]) (fun (s70:(List Int))=>[(3,.fl (.own 5) 1 (map (int .u8) s70))]) ?_ ?_
  ·rintro s70 h
   refine pt_then (ht_seq ?_)
   obtain ⟨v93, hv93, h⟩:=zn h
   refine yx hn 0 ?_
   refine ym 0 ?_
   refine yk [49] [] ?_
   refine ytt (49,.any) (50,.fl (.own 5) 1 (map (int .u8) v93)) 0 ⟨op_apps _ _ _ _ _ el25 zr5 underlying9 rfl rfl rfl hv93 rfl⟩ ?_
   refine ya 0 ?_
   refine yee [2] ?_
   refine ht_ret ?_
   obtain rfl:=zi h
   exact pt_ret hio rfl (.tmp _ _ .nil) rfl rfl
  ·rintro u71 hl72 hr73 ⟨s52, s53⟩ rr76 h ho74
   refine ht_seq ?_
   refine yyy hn 5 [1,3,4,11] ?_
   refine ht_cond _ rfl (fun hb77 => ?_) (fun hb77 => ?_)
   ·have h:=cond_t hb77 h
    refine ht_skip ?_
    refine pt_then (ht_seq ?_)
    refine ht_block ?_
    refine ht_seq ?_
    obtain ⟨v2, hv2, h⟩:=zn h
    obtain ⟨v3, hv3, h⟩:=zn h
    refine yx hn 3 ?_
    refine ys 0 ⟨lI hv2⟩ ?_
    refine yS (.agg (T_Mail.c v3 [])) 0 ⟨op_loadA_fr _ _ _ _ _ _ _ _ underlying46 rfl sz46 rfl rfl (gflat_get T_Mail.ilen hv3) (.cons (.v _) (.cons (.v _) (.cons (.v _) (.cons (.fl _ _ rfl) (.cons (.fl _ _ rfl) (.cons (.v _) (.cons (.v _) (.cons (.v _) (.nil))))))))) rfl (by decide)⟩ ?_
    refine yS (.box 46 [vb false,vs z0,vs z0,vz,vz,vb false,vs z0,vi 0]) 1 ⟨oA (op_alloc _ _ zr46)⟩ ?_
    refine yee [1,3,4,5] ?_
    refine ht_seq ?_
    obtain ⟨v4, hv4, h⟩:=zn h
    obtain ⟨v5, hv5, h⟩:=zn h
    obtain ⟨v6, hv6, h⟩:=zn h
    obtain ⟨v7, hv7, h⟩:=zn h
    refine yx hn 0 ?_
    refine ym 2 ?_
    refine ys 0 ⟨lk call54 (ok_wherryref11_Text _ _ hv4)⟩ ?_
    refine ys 0 ⟨lB (cat_ok hv5)⟩ ?_
    refine ys 0 ⟨lB (cat_ok hv6)⟩ ?_
    refine yk [19] [24] ?_
    refine ytt (19,.any) (25,.fl (.own 5) 1 (map (int .u8) v7)) 0 ⟨op_apps _ _ _ _ _ el25 zr5 underlying9 rfl rfl rfl hv7 rfl⟩ ?_
    refine ya 0 ?_
    refine yee [1,4,5,3] ?_
    refine ht_seq ?_
    refine yyy hn 1 [1,4,5,3,6] ?_
    refine ht_loopS h (fun ((s82,s83):(List Int)×Int)=>[(1,.box 24 [vi b.Origin,vi b.Number,.fr .shr true 8 (flatten (map T_Mail.ienc b.Mails))]),(4,vi s53),(5,.box 46 (T_Mail.c v3 [])),(3,.fl (.own 5) 1 (map (int .u8) s82)),(6,vi s83)]) (fun (s85:(List Int))=>[(1,.box 24 [vi b.Origin,vi b.Number,.fr .shr true 8 (flatten (map T_Mail.ienc b.Mails))]),(4,vi s53),(5,.box 46 (T_Mail.c v3 [])),(3,.fl (.own 5) 1 (map (int .u8) s85))]) ?_ ?_
    ·rintro s85 h
     refine pt_then ?_
     obtain ⟨v30, hv30, h⟩:=zn h
     obtain ⟨v31, hv31, h⟩:=zn h
     obtain ⟨v32, hv32, h⟩:=zn h
     refine wb [] ?_
     refine wK [3] [] ?_
     refine wt [(43,.fl (.own 5) 1 (map (int .u8) s85))] [] ⟨op_move_take _ _ _ _ rfl⟩ ?_
     refine wK [43] [] ?_
     refine wt [(43,.any),(44,.fl (.own 5) 1 (map (int .u8) v30))] [[5],[45,5]] ⟨op_apps _ _ _ _ _ el25 zr5 underlying9 rfl rfl rfl hv30 rfl⟩ ?_
     refine wN [46] ?_
     refine wo [] ⟨lk call55 (ok_wherryref11_Stuff _ _ hv31)⟩ ?_
     refine wK [44] [47] ?_
     refine wt [(44,.any),(48,.fl (.own 5) 1 (map (int .u8) v32))] [] ⟨op_app _ _ _ _ _ el25 rfl rfl (map_len _) (map_len _) hv32 ((List.map_append).symm.trans (congrArg (map _) (app_eq hv32)))⟩ ?_
     refine wK [48] [] ?_
     refine wt [(3,.fl (.own 5) 1 (map (int .u8) v32))] [] ⟨op_assign_take _ _ _ _ rfl⟩ ?_
     refine we hn [1,4,3] ?_
     refine pt_inb ?_
     refine pt_then ?_
     obtain ⟨v33, hv33, h⟩:=zn h
     refine yx hn 1 ?_
     refine ys 0 ⟨lb hv33⟩ ?_
     refine yw [4] 1 ?_
     refine ye [1,3,4] ?_
     exact pt_next _ (zi h).symm rfl
    ·rintro u86 hl87 hr88 ⟨s82, s83⟩ rr91 h ho89
     refine ht_seq ?_
     refine yyy hn 5 [1,4,5,3,6,30] ?_
     refine ht_cond _ rfl (fun hb92 => ?_) (fun hb92 => ?_)
     ·have h:=cond_t hb92 h
      refine ht_skip ?_
      refine pt_then (ht_seq ?_)
      refine ht_block ?_
      obtain ⟨v9, hv9, h⟩:=zn h
      obtain ⟨v10, hv10, h⟩:=zn h
      obtain ⟨v11, hv11, h⟩:=zn h
      obtain ⟨v12, hv12, h⟩:=zn h
      obtain ⟨v13, hv13, h⟩:=zn h
      obtain ⟨v14, hv14, h⟩:=zn h
      refine yx hn 0 ?_
      refine ym 3 ?_
      refine ys 0 ⟨lj hv9⟩ ?_
      refine yS (.agg [vb v10.Null,vs v10.Local,vs v10.Domain]) 0 ⟨op_load_eA _ _ _ _ _ _ _ underlying43 rfl sz43 rfl rfl (flat_get T_Path.len hv10) rfl (by decide)⟩ ?_
      refine ys 0 ⟨lk call54 (ok_wherryref11_Text _ _ hv11)⟩ ?_
      refine ys 0 ⟨lB (cat_ok hv12)⟩ ?_
      refine ys 0 ⟨lB (cat_ok hv13)⟩ ?_
      refine yk [33] [41] ?_
      refine ytt (33,.any) (42,.fl (.own 5) 1 (map (int .u8) v14)) 0 ⟨op_apps _ _ _ _ _ el25 zr5 underlying9 rfl rfl rfl hv14 rfl⟩ ?_
      refine ya 0 ?_
      refine ye [1,4,5,6,3] ?_
      refine pt_inb ?_
      refine pt_then ?_
      obtain ⟨v15, hv15, h⟩:=zn h
      refine yx hn 1 ?_
      refine ys 0 ⟨lb hv15⟩ ?_
      refine yw [6] 1 ?_
      refine ye [1,4,5,3,6] ?_
      exact pt_next _ (zi h).symm rfl
     ·have h:=cond_f hb92 h
      refine ht_exit ?_
      refine pt_x_then ?_
      refine pt_x_then ?_
      refine pt_x_in ?_
      refine pt_pick [0,1,2,3] (by kernel_rfl) (es':=[(_,_),(_,_),(_,_),(_,_)]) rfl ?_
      exact hl87 _ (ho89 _ (zi h).symm).symm
   ·have h:=cond_f hb77 h
    refine ht_exit ?_
    refine pt_x_then ?_
    refine pt_x_then ?_
    refine pt_x_in ?_
    refine pt_pick [1] (by kernel_rfl) (es':=[(_,_)]) rfl ?_
    exact hl72 _ (ho74 _ (zi h).symm).symm
theorem ok_wherryref11_Digits (n:Int) (r:ByteArray) (h:Sh.wherryref11_Digits n=some r):FnOK Tryz.prog 27 [.v (.int .i64 n)] (.v (.string r)):=by
  unfold Sh.wherryref11_Digits at h
  refine yO 22 func27 fun g0 hn hio => ?_
  refine yyy hn 1 [0] ?_
  refine yyy hn 1 [0,3] ?_
  refine ht_seq ?_
  refine ht_loopS h (fun ((s11,s12):Int×ByteArray)=>[(0,vi s11),(3,vs s12)]) (fun ((s14,s15):Int×ByteArray)=>[(0,vi s14),(3,vs s15)]) ?_ ?_
  ·rintro ⟨s14, s15⟩ h
   refine pt_then (ht_seq ?_)
   obtain ⟨v23, hv23, h⟩:=zn h
   obtain ⟨v24, hv24, h⟩:=zn h
   obtain ⟨v25, hv25, h⟩:=zn h
   refine yx hn 2 ?_
   refine ys 0 ⟨lb hv23⟩ ?_
   refine yS (vs v24) 1 ⟨op_substr _ _ _ s14 v23 _ underlying9 rfl ⟨_,rfl⟩ ⟨_,rfl⟩ hv24⟩ ?_
   refine ys 1 ⟨lB (cat_ok hv25)⟩ ?_
   refine yee [2] ?_
   refine ht_ret ?_
   obtain rfl:=zi h
   exact pt_ret hio rfl (.tmp _ _ .nil) rfl rfl
  ·rintro u16 hl17 hr18 ⟨s11, s12⟩ rr21 h ho19
   refine ht_seq ?_
   refine yyy hn 2 [0,3,5] ?_
   refine ht_cond _ rfl (fun hb22 => ?_) (fun hb22 => ?_)
   ·have h:=cond_t hb22 h
    refine ht_skip ?_
    refine pt_then ?_
    refine ht_block ?_
    refine ht_seq ?_
    obtain ⟨v2, hv2, h⟩:=zn h
    obtain ⟨v3, hv3, h⟩:=zn h
    obtain ⟨v4, hv4, h⟩:=zn h
    obtain ⟨v5, hv5, h⟩:=zn h
    obtain ⟨v6, hv6, h⟩:=zn h
    refine yx hn 1 ?_
    refine ys 1 ⟨lB (rem_ok hv2)⟩ ?_
    refine ys 0 ⟨lB (rem_ok hv3)⟩ ?_
    refine ys 0 ⟨lb hv4⟩ ?_
    refine yS (vs v5) 1 ⟨op_substr _ _ _ v2 v4 _ underlying9 rfl ⟨_,rfl⟩ ⟨_,rfl⟩ hv5⟩ ?_
    refine ys 0 ⟨lB (cat_ok hv6)⟩ ?_
    refine yw [3] 1 ?_
    refine yee [0,3] ?_
    obtain ⟨v7, hv7, h⟩:=zn h
    refine yx hn 1 ?_
    refine ys 0 ⟨lB (quo_ok hv7)⟩ ?_
    refine yw [0] 1 ?_
    refine ye [3,0] ?_
    refine pt_inb ?_
    refine pt_pick [1,0] (by kernel_rfl) (es':=[(_,_),(_,_)]) rfl ?_
    exact pt_next _ (zi h).symm rfl
   ·have h:=cond_f hb22 h
    refine ht_exit ?_
    refine pt_x_then ?_
    refine pt_x_then ?_
    refine pt_x_in ?_
    refine pt_pick [0,1] (by kernel_rfl) (es':=[(_,_),(_,_)]) rfl ?_
    exact hl17 _ (ho19 _ (zi h).symm).symm
theorem ok_wherryref08_Carry (b:(List Int)) (width:Int) (divisor:Int) (r:Int) (h:Sh.wherryref08_Carry b width divisor=some r):FnOK Tryz.prog 48 [.fl .shr 1 (map (int .u8) b), .v (.int .i64 width), .v (.int .i64 divisor)] (.v (.int .i64 r)):=by
  unfold Sh.wherryref08_Carry at h
  refine yO 49 func48 fun g0 hn hio => ?_
  refine yyy hn 1 [0,1,2] ?_
  refine ht_seq ?_
  obtain ⟨v1, hv1, h⟩:=zn h
  obtain ⟨v2, hv2, h⟩:=zn h
  obtain ⟨v3, hv3, h⟩:=zn h
  refine yx hn 1 ?_
  refine ys 0 ⟨lv hv1⟩ ?_
  refine ys 0 ⟨lB (shl_ok hv2)⟩ ?_
  refine ys 1 ⟨lb hv3⟩ ?_
  refine yee [0,1,2,7] ?_
  refine ht_seq ?_
  refine yyy hn 1 [0,1,2,7,8] ?_
  refine ht_loopS h (fun ((s97,s98):Int×Int)=>[(0,fb b),(1,vi width),(2,vi divisor),(7,vi s97),(8,vi s98)]) (fun (s139:Int)=>[(1,vi width),(7,vi s139)]) ?_ ?_
  ·rintro s139 h
   refine pt_then (ht_seq ?_)
   obtain ⟨v186, hv186, h⟩:=zn h
   obtain ⟨v187, hv187, h⟩:=zn h
   obtain ⟨v188, hv188, h⟩:=zn h
   obtain ⟨v189, hv189, h⟩:=zn h
   refine yx hn 2 ?_
   refine ys 0 ⟨lv hv186⟩ ?_
   refine ys 0 ⟨lB (shl_ok hv187)⟩ ?_
   refine ys 0 ⟨lb hv188⟩ ?_
   refine ys 1 ⟨lb hv189⟩ ?_
   refine yee [6] ?_
   refine ht_ret ?_
   obtain rfl:=zi h
   exact pt_ret hio rfl (.tmp _ _ .nil) rfl rfl
  ·rintro u140 hl141 hr142 ⟨s97, s98⟩ rr145 h ho143
   refine ht_seq ?_
   refine yyy hn 4 [0,1,2,7,8,18] ?_
   refine ht_cond _ rfl (fun hb146 => ?_) (fun hb146 => ?_)
   ·have h:=cond_t hb146 h
    refine ht_skip ?_
    refine pt_then (ht_seq ?_)
    refine ht_block ?_
    refine yyy hn 1 [0,1,2,7,8,9] ?_
    refine ht_loopS h (fun ((s163,s164):Int×Int)=>[(0,fb b),(1,vi width),(2,vi divisor),(7,vi s163),(8,vi s98),(9,vi s164)]) (fun (s172:Int)=>[(0,fb b),(1,vi width),(2,vi divisor),(7,vi s172),(8,vi s98)]) ?_ ?_
    ·rintro s172 h
     refine pt_inb ?_
     refine pt_then ?_
     obtain ⟨v54, hv54, h⟩:=zn h
     refine yx hn 1 ?_
     refine ys 0 ⟨lb hv54⟩ ?_
     refine yw [8] 1 ?_
     refine ye [0,1,2,7,8] ?_
     exact pt_next _ (zi h).symm rfl
    ·rintro u173 hl174 hr175 ⟨s163, s164⟩ rr178 h ho176
     refine ht_seq ?_
     refine yyy hn 2 [0,1,2,7,8,9,22] ?_
     refine ht_cond _ rfl (fun hb179 => ?_) (fun hb179 => ?_)
     ·have h:=cond_t hb179 h
      refine ht_skip ?_
      refine pt_then (ht_seq ?_)
      refine ht_joinS h (fun (s181:Int)=>[(0,fb b),(1,vi width),(2,vi divisor),(8,vi s98),(9,vi s164),(7,vi s181)]) ?_ ?_
      ·rintro s181 h
       refine pt_then ?_
       obtain ⟨v21, hv21, h⟩:=zn h
       refine yx hn 1 ?_
       refine ys 0 ⟨lb hv21⟩ ?_
       refine yw [9] 1 ?_
       refine ye [0,1,2,8,7,9] ?_
       refine pt_pick [0,1,2,4,3,5] (by kernel_rfl) (es':=[(_,_),(_,_),(_,_),(_,_),(_,_),(_,_)]) rfl ?_
       exact pt_next _ (zi h).symm rfl
      ·intro u182 h hl183 hr184
       refine ht_block ?_
       refine ht_seq ?_
       obtain ⟨v6, hv6, h⟩:=zn h
       refine yx hn 1 ?_
       refine ys 1 ⟨lb hv6⟩ ?_
       refine yee [0,1,2,7,8,9,10] ?_
       refine ht_seq ?_
       obtain ⟨v7, hv7, h⟩:=zn h
       refine yx hn 1 ?_
       refine ys 0 ⟨lB (shr_ok hv7)⟩ ?_
       refine yw [7] 1 ?_
       refine yee [0,1,2,8,9,10,7] ?_
       refine ht_seq ?_
       obtain ⟨v8, hv8, h⟩:=zn h
       obtain ⟨v9, hv9, h⟩:=zn h
       obtain ⟨v10, hv10, h⟩:=zn h
       obtain ⟨v11, hv11, h⟩:=zn h
       obtain ⟨v12, hv12, h⟩:=zn h
       obtain ⟨v13, hv13, h⟩:=zn h
       refine yx hn 3 ?_
       refine ys 0 ⟨li hv8⟩ ?_
       refine ys 1 ⟨ll hv9⟩ ?_
       refine ys 0 ⟨lv hv10⟩ ?_
       refine ys 0 ⟨lB (shr_ok hv11)⟩ ?_
       refine ys 0 ⟨lv hv12⟩ ?_
       refine ys 1 ⟨lb hv13⟩ ?_
       refine yee [0,1,2,8,9,7,39] ?_
       refine ht_cond _ rfl (fun hb185 => ?_) (fun hb185 => ?_)
       ·have h:=cond_t hb185 h
        obtain ⟨v15, hv15, h⟩:=zn h
        refine yx hn 2 ?_
        refine ys 0 ⟨lb hv15⟩ ?_
        refine yw [7] 1 ?_
        refine ye [0,1,2,8,9,7] ?_
        refine pt_inb ?_
        exact hl183 _ (zi h).symm
       ·have h:=cond_f hb185 h
        refine ht_skip ?_
        refine pt_inb ?_
        refine pt_pick [0,1,2,3,4,5] (by kernel_rfl) (es':=[(_,_),(_,_),(_,_),(_,_),(_,_),(_,_)]) rfl ?_
        exact hl183 _ (zi h).symm
     ·have h:=cond_f hb179 h
      refine ht_exit ?_
      refine pt_x_then ?_
      refine pt_x_then ?_
      refine pt_x_in ?_
      refine pt_pick [0,1,2,3,4] (by kernel_rfl) (es':=[(_,_),(_,_),(_,_),(_,_),(_,_)]) rfl ?_
      exact hl174 _ (ho176 _ (zi h).symm).symm
   ·have h:=cond_f hb146 h
    refine ht_exit ?_
    refine pt_x_then ?_
    refine pt_x_then ?_
    refine pt_x_in ?_
    refine pt_pick [1,3] (by kernel_rfl) (es':=[(_,_),(_,_)]) rfl ?_
    exact hl141 _ (ho143 _ (zi h).symm).symm
theorem ok_wherryref08_Long (b:(List Int)) (r:Int) (h:Sh.wherryref08_Long b=some r):FnOK Tryz.prog 28 [.fl .shr 1 (map (int .u8) b)] (.v (.int .i64 r)):=by
  unfold Sh.wherryref08_Long at h
  refine yO 5 func28 fun g0 hn hio => ?_
  refine yyy hn 1 [0] ?_
  refine ht_seq ?_
  obtain ⟨v1, hv1, h⟩:=zn h
  refine yx hn 1 ?_
  refine ys 1 ⟨lk call48 (ok_wherryref08_Carry _ _ _ _ hv1)⟩ ?_
  refine yee [2] ?_
  refine ht_ret ?_
  obtain rfl:=zi h
  exact pt_ret hio rfl (.tmp _ _ .nil) rfl rfl
theorem ok_wherryref11_BundleBytes (b:T_Bundle) (r:((List Int)×Int)) (h:Sh.wherryref11_BundleBytes b=some r):FnOK Tryz.prog 14 [.agg [.v (.int .i64 b.Origin), .v (.int .i64 b.Number), .fr .shr true 8 (flatten (map T_Mail.ienc b.Mails))]] (.tup [.mkr 5 (map (int .u8) r.1), .v (.int .i64 r.2)]):=by
  unfold Sh.wherryref11_BundleBytes at h
  refine yO 45 func14 fun g0 hn hio => ?_
  refine yyy hn 3 [1] ?_
  refine ht_seq ?_
  refine ht_seq ?_
  obtain ⟨v1, hv1, h⟩:=zn h
  refine yx hn 1 ?_
  refine ys 1 ⟨lk call20 (ok_wherryref11_Bundle _ _ hv1)⟩ ?_
  refine yee [1,8] ?_
  refine ht_cond _ rfl (fun hb24 => ?_) (fun hb24 => ?_)
  ·have h:=cond_t hb24 h
   refine yyy hn 2 [2,3] ?_
   refine ht_ret ?_
   refine pt_sub (fs:=[(2,.mkr 5 (map (int .u8) [])),(3,vi 5)]) (.sub _ (sub_nil_mk 5) rfl (.same _ .nil)) ?_
   refine pt_r_then ?_
   obtain rfl:=zi h
   exact pt_ret hio rfl (.tmp _ _ (.tmp _ _ .nil)) rfl rfl
  ·have h:=cond_f hb24 h
   refine ht_skip ?_
   refine pt_then (ht_seq ?_)
   obtain ⟨v3, hv3, h⟩:=zn h
   refine yx hn 1 ?_
   refine ys 0 ⟨lk call33 (ok_wherryref11_commands _ _ hv3)⟩ ?_
   refine ya 0 ?_
   refine yee [1,4] ?_
   refine ht_seq ?_
   obtain ⟨v4, hv4, h⟩:=zn h
   obtain ⟨v5, hv5, h⟩:=zn h
   obtain ⟨v6, hv6, h⟩:=zn h
   obtain ⟨v7, hv7, h⟩:=zn h
   obtain ⟨v8, hv8, h⟩:=zn h
   obtain ⟨v9, hv9, h⟩:=zn h
   obtain ⟨v10, hv10, h⟩:=zn h
   obtain ⟨v11, hv11, h⟩:=zn h
   obtain ⟨v12, hv12, h⟩:=zn h
   obtain ⟨v13, hv13, h⟩:=zn h
   obtain ⟨v14, hv14, h⟩:=zn h
   obtain ⟨v15, hv15, h⟩:=zn h
   obtain ⟨v16, hv16, h⟩:=zn h
   obtain ⟨v17, hv17, h⟩:=zn h
   obtain ⟨v18, hv18, h⟩:=zn h
   obtain ⟨v19, hv19, h⟩:=zn h
   obtain ⟨v20, hv20, h⟩:=zn h
   refine wb [[1],[11,1]] ?_
   refine wN [12] ?_
   refine wo [] ⟨lk call27 (ok_wherryref11_Digits _ _ hv4)⟩ ?_
   refine wN [13] ?_
   refine wo [] ⟨lB (cat_ok hv5)⟩ ?_
   refine wN [14] ?_
   refine wo [[1],[16,1]] ⟨lB (cat_ok hv6)⟩ ?_
   refine wN [17] ?_
   refine wo [] ⟨lk call27 (ok_wherryref11_Digits _ _ hv7)⟩ ?_
   refine wN [15,18] ?_
   refine wo [] ⟨lB (cat_ok hv8)⟩ ?_
   refine wN [19] ?_
   refine wo [[1],[21,1],[22]] ⟨lB (cat_ok hv9)⟩ ?_
   refine wN [23] ?_
   refine wo [] ⟨lk call27 (ok_wherryref11_Digits _ _ hv10)⟩ ?_
   refine wN [20,24] ?_
   refine wo [] ⟨lB (cat_ok hv11)⟩ ?_
   refine wN [25] ?_
   refine wo [[4],[27,4]] ⟨lB (cat_ok hv12)⟩ ?_
   refine wN [28] ?_
   refine wo [] ⟨lk call27 (ok_wherryref11_Digits _ _ hv13)⟩ ?_
   refine wN [26,29] ?_
   refine wo [] ⟨lB (cat_ok hv14)⟩ ?_
   refine wN [30] ?_
   refine wo [[4]] ⟨lB (cat_ok hv15)⟩ ?_
   refine wN [32,4] ?_
   refine wo [] ⟨lk call28 (ok_wherryref08_Long _ _ hv16)⟩ ?_
   refine wN [33] ?_
   refine wo [] ⟨lk call27 (ok_wherryref11_Digits _ _ hv17)⟩ ?_
   refine wN [31,34] ?_
   refine wo [] ⟨lB (cat_ok hv18)⟩ ?_
   refine wN [35] ?_
   refine wo [] ⟨lB (cat_ok hv19)⟩ ?_
   refine wN [36] ?_
   refine wo [] ⟨lU hv20⟩ ?_
   refine wK [37] [] ?_
   refine wt [(5,.mkr 5 (map (int .u8) v20))] [] ⟨op_assign_take _ _ _ _ rfl⟩ ?_
   refine wee hn [4,5] ?_
   refine ht_seq ?_
   obtain ⟨v22, hv22, h⟩:=zn h
   refine yx hn 0 ?_
   refine ym 0 ?_
   refine ym 0 ?_
   refine yk [38] [39] ?_
   refine ytt (38,.any) (40,.mkr 5 (map (int .u8) v22)) 0 ⟨op_app_mk _ _ _ _ _ el25 rfl rfl rfl rfl hv22 rfl⟩ ?_
   refine ya 0 ?_
   refine yee [5] ?_
   refine ht_seq ?_
   refine yxx hn 1 ?_
   refine yS (vi (v22.length:Int)) 1 ⟨op_len_mk _ _ _ underlying25 rfl (List.length_map _)⟩ ?_
   refine yee [5,43] ?_
   refine ht_cond _ rfl (fun hb25 => ?_) (fun hb25 => ?_)
   ·have h:=cond_t hb25 h
    refine yyy hn 2 [2,3] ?_
    refine ht_ret ?_
    refine pt_sub (fs:=[(2,.mkr 5 (map (int .u8) [])),(3,vi 2)]) (.sub _ (sub_nil_mk 5) rfl (.same _ .nil)) ?_
    refine pt_r_then ?_
    obtain rfl:=zi h
    exact pt_ret hio rfl (.tmp _ _ (.tmp _ _ .nil)) rfl rfl
   ·have h:=cond_f hb25 h
    refine ht_skip ?_
    refine pt_then ?_
    refine yxx hn 0 ?_
    refine ym 0 ?_
    refine ya 1 ?_
    refine yee [2,3] ?_
    refine ht_ret ?_
    obtain rfl:=zi h
    exact pt_ret hio rfl (.tmp _ _ (.tmp _ _ .nil)) rfl rfl
theorem ok_bytes_Index (mx:Int) (s sep:List Int) (r:Int) (h:Sh.bytes_Index s sep=some r):FnG Tryz.prog (GL mx) 56 [.fl .shr 1 (map (int .u8) s), .fl .shr 1 (map (int .u8) sep)] (.v (.int .i64 r)) :=
  lib_bytes_Index (gl_mem0 mx) Tryz.bytes_Index_at Tryz.bytes_Index_longer s sep r h
theorem ok_bytes_Cut_sh (mx:Int) (s:(List Int)) (sep:(List Int)) (r:((List Int)×(List Int)×Bool)) (h:Sh.bytes_Cut_sh s sep=some r):FnG Tryz.prog (GL mx) 34 [.fl .shr 1 (map (int .u8) s), .fl .shr 1 (map (int .u8) sep)] (.tup [.fl .shr 1 (map (int .u8) r.1), .fl .shr 1 (map (int .u8) r.2.1), .v (.bool r.2.2)]):=by
  unfold Sh.bytes_Cut_sh at h
  refine yG 23 func34 fun g0 hn hio => ?_
  refine yyy hn 3 [0,1,23] ?_
  refine ht_seq ?_
  refine ht_seq ?_
  obtain ⟨v1, hv1, h⟩:=zn h
  refine yx hn 2 ?_
  refine ys 1 ⟨lg call56 (ok_bytes_Index _ _ _ _ hv1) 23⟩ ?_
  refine yee [0,1,23,7] ?_
  refine yyy hn 2 [0,1,23,7,12] ?_
  refine ht_cond _ rfl (fun hb2 => ?_) (fun hb2 => ?_)
  ·have h:=cond_t hb2 h
   refine ht_seq ?_
   obtain ⟨v3, hv3, h⟩:=zn h
   obtain ⟨v4, hv4, h⟩:=zn h
   obtain ⟨v5, hv5, h⟩:=zn h
   refine wb [[0],[7]] ?_
   refine wN [13,14] ?_
   refine wS (fb v3) [[0],[7],[1],[18]] ⟨op_sl _ _ _ 0 v1 _ underlying25 sz5 rfl rfl rfl ⟨_,rfl⟩ hv3⟩ ?_
   refine wN [17,19] ?_
   refine wo [] ⟨lb hv4⟩ ?_
   refine wN [16,20] ?_
   refine wS (fb v5) [[15],[21],[]] ⟨op_sl _ _ _ v4 (s.length:Int) _ underlying25 sz5 rfl rfl ⟨_,rfl⟩ rfl hv5⟩ ?_
   refine wee hn [23,4,5,6] ?_
   refine ht_ret ?_
   refine pt_pick [1,2,3] (by kernel_rfl) (es':=[(_,_),(_,_),(_,_)]) rfl ?_
   refine pt_r_then ?_
   obtain rfl:=zi h
   exact pt_ret hio rfl (.tmp _ _ (.tmp _ _ (.tmp _ _ .nil))) rfl rfl
  ·have h:=cond_f hb2 h
   refine ht_skip ?_
   refine pt_then ?_
   refine yyy hn 4 [23,4,5,6] ?_
   refine ht_ret ?_
   refine pt_pick [1,2,3] (by kernel_rfl) (es':=[(_,_),(_,_),(_,_)]) rfl ?_
   refine pt_sub (fs:=[(4,fb s),(5,fb []),(6,vb false)]) (.same _ (.sub _ (sub_nil_shr 1) rfl (.same _ .nil))) ?_
   obtain rfl:=zi h
   exact pt_ret hio rfl (.tmp _ _ (.tmp _ _ (.tmp _ _ .nil))) rfl rfl
theorem ok_strings_Count (s sub:ByteArray) (r:Int) (h:Sh.strings_Count s sub=some r):FnOK Tryz.prog 97 [.v (.string s), .v (.string sub)] (.v (.int .i64 r)):=lib_strings_Count Tryz.strings_Count_one s sub r h
theorem ok_strings_Index (s sub:ByteArray) (r:Int) (h:Sh.strings_Index s sub=some r):FnOK Tryz.prog 98 [.v (.string s), .v (.string sub)] (.v (.int .i64 r)):=lib_strings_Index Tryz.strings_Index_one s sub r h
theorem ok_strings_genSplit (s:ByteArray) (sep:ByteArray) (sepSave:Int) (n:Int) (r:(List ByteArray)) (h:Sh.strings_genSplit s sep sepSave n=some r):FnOK Tryz.prog 77 [.v (.string s), .v (.string sep), .v (.int .i64 sepSave), .v (.int .i64 n)] (.fl .ro 1 (map Value.string r)):=by
  unfold Sh.strings_genSplit at h
  refine yO 66 func77 fun g0 hn hio => ?_
  refine yyy hn 1 [0,1,2,3] ?_
  refine ht_seq ?_
  refine yyy hn 2 [0,1,2,3,13] ?_
  refine ht_cond _ rfl (fun hb50 => ?_) (fun hb50 => ?_)
  ·have h:=cond_t hb50 h
   refine yyy hn 1 [8] ?_
   refine ht_ret ?_
   refine pt_sub (fs:=[(8,.fl (.own 9) 1 (map Value.string []))]) (.sub _ (sub_nil 9 1) rfl .nil) ?_
   refine pt_frz 0 hio (es':=[(8, .fl .ro 1 (map Value.string []))]) rfl ?_
   refine pt_r_then ?_
   obtain rfl:=zi h
   exact pt_ret hio rfl (.tmp _ _ .nil) rfl rfl
  ·have h:=cond_f hb50 h
   refine ht_skip ?_
   refine pt_then (ht_seq ?_)
   refine yyy hn 2 [0,1,2,3,15] ?_
   refine ht_cond _ rfl (fun hb51 => ?_) (fun hb51 => ?_)
   ·have h:=cond_t hb51 h
    cases h
   ·have h:=cond_f hb51 h
    refine ht_skip ?_
    refine pt_then (ht_seq ?_)
    refine ht_joinS h (fun (s53:Int)=>[(0,vs s),(1,vs sep),(2,vi sepSave),(3,vi s53)]) ?_ ?_
    ·rintro s53 h
     refine pt_then (ht_seq ?_)
     obtain ⟨v11, hv11, h⟩:=zn h
     obtain ⟨v12, hv12, h⟩:=zn h
     refine yx hn 3 ?_
     refine ys 0 ⟨lb hv11⟩ ?_
     refine yS (vi v12) 0 ⟨(Option.some.inj hv12) ▸ op_min _ _ _ _ rfl rfl⟩ ?_
     refine yw [3] 1 ?_
     refine yee [0,1,2,3] ?_
     refine ht_seq ?_
     obtain ⟨v13, hv13, h⟩:=zn h
     refine yx hn 1 ?_
     refine yS (.fl (.own 9) 1 (map Value.string v13)) 0 ⟨op_mk (f:=Value.string) _ _ _ _ el57 (by decide) zr9 rfl rfl rfl hv13⟩ ?_
     refine ya 0 ?_
     refine yee [0,1,2,3,9] ?_
     refine ht_seq ?_
     obtain ⟨v14, hv14, h⟩:=zn h
     refine yx hn 1 ?_
     refine ys 0 ⟨lb hv14⟩ ?_
     refine yw [3] 1 ?_
     refine yee [0,1,2,9,3] ?_
     refine yyy hn 1 [0,1,2,9,3,10] ?_
     refine ht_seq ?_
     refine ht_loopS h (fun ((s65,s66,s67):ByteArray×(List ByteArray)×Int)=>[(0,vs s65),(1,vs sep),(2,vi sepSave),(9,.fl (.own 9) 1 (map Value.string s66)),(3,vi v14),(10,vi s67)]) (fun ((s70,s71,s72):ByteArray×(List ByteArray)×Int)=>[(0,vs s70),(9,.fl (.own 9) 1 (map Value.string s71)),(10,vi s72)]) ?_ ?_
     ·rintro ⟨s70, s71, s72⟩ h
      refine pt_then (ht_seq ?_)
      obtain ⟨v46, hv46, h⟩:=zn h
      obtain ⟨v47, hv47, h⟩:=zn h
      refine yx hn 3 ?_
      refine ys 0 ⟨li hv46⟩ ?_
      refine yk [9] [61,60] ?_
      refine yt (9,.fl (.own 9) 1 (map Value.string v47)) 0 ⟨op_store_e _ _ _ _ _ _ _ _ sz9 rfl rfl rfl (by decide) (map_lt (ix_ok hv46).2) ((map_set (f:=Value.string) _ (ix_ok hv46).2).trans (congrArg (map _) (Option.some.inj hv47)))⟩ ?_
      refine yee [9,10] ?_
      refine ht_seq ?_
      refine ht_frz 0 hio (es':=[(9, .fl .ro 1 (map Value.string v47)), (10, .v (.int .i64 s72))]) rfl ?_
      obtain ⟨v48, hv48, h⟩:=zn h
      obtain ⟨v49, hv49, h⟩:=zn h
      refine yx hn 2 ?_
      refine ys 0 ⟨lb hv48⟩ ?_
      refine yS (.fl .ro 1 (map Value.string v49)) 1 ⟨op_sl _ _ _ 0 v48 _ underlying57 sz9 rfl rfl rfl ⟨_,rfl⟩ hv49⟩ ?_
      refine yee [8] ?_
      refine ht_ret ?_
      obtain rfl:=zi h
      exact pt_ret hio rfl (.tmp _ _ .nil) rfl rfl
     ·rintro u73 hl74 hr75 ⟨s65, s66, s67⟩ rr78 h ho76
      refine ht_seq ?_
      refine yyy hn 3 [0,1,2,9,3,10,36] ?_
      refine ht_cond _ rfl (fun hb79 => ?_) (fun hb79 => ?_)
      ·have h:=cond_t hb79 h
       refine ht_skip ?_
       refine pt_then ?_
       refine ht_block ?_
       refine ht_seq ?_
       obtain ⟨v16, hv16, h⟩:=zn h
       refine yx hn 2 ?_
       refine ys 1 ⟨lk call98 (ok_strings_Index _ _ _ hv16)⟩ ?_
       refine yee [0,1,2,9,3,10,11] ?_
       refine ht_seq ?_
       refine yyy hn 2 [0,1,2,9,3,10,11,41] ?_
       refine ht_cond _ rfl (fun hb80 => ?_) (fun hb80 => ?_)
       ·have h:=cond_t hb80 h
        refine ht_exit ?_
        refine pt_x_then ?_
        refine pt_x_out (by decide) ?_
        refine pt_x_then ?_
        refine pt_x_in ?_
        refine pt_pick [0,3,5] (by kernel_rfl) (es':=[(_,_),(_,_),(_,_)]) rfl ?_
        exact hl74 _ (ho76 _ (zi h).symm).symm
       ·have h:=cond_f hb80 h
        refine ht_skip ?_
        refine pt_then (ht_seq ?_)
        obtain ⟨v18, hv18, h⟩:=zn h
        obtain ⟨v19, hv19, h⟩:=zn h
        obtain ⟨v20, hv20, h⟩:=zn h
        obtain ⟨v21, hv21, h⟩:=zn h
        refine yx hn 5 ?_
        refine ys 0 ⟨lb hv18⟩ ?_
        refine yS (vs v19) 0 ⟨op_substr _ _ _ 0 v18 _ underlying9 rfl rfl ⟨_,rfl⟩ hv19⟩ ?_
        refine ys 0 ⟨li hv20⟩ ?_
        refine yk [9] [49,48] ?_
        refine yt (9,.fl (.own 9) 1 (map Value.string v21)) 0 ⟨op_store_e _ _ _ _ _ _ _ _ sz9 rfl rfl rfl (by decide) (map_lt (ix_ok hv20).2) ((map_set (f:=Value.string) _ (ix_ok hv20).2).trans (congrArg (map _) (Option.some.inj hv21)))⟩ ?_
        refine yee [0,1,2,9,3,10,11] ?_
        refine ht_seq ?_
        obtain ⟨v22, hv22, h⟩:=zn h
        obtain ⟨v23, hv23, h⟩:=zn h
        refine yx hn 4 ?_
        refine ys 0 ⟨lb hv22⟩ ?_
        refine yS (vs v23) 0 ⟨op_substr _ _ _ v22 (s65.size:Int) _ underlying9 rfl ⟨_,rfl⟩ rfl hv23⟩ ?_
        refine yw [0] 1 ?_
        refine yee [1,2,9,3,10,0] ?_
        obtain ⟨v24, hv24, h⟩:=zn h
        refine yx hn 1 ?_
        refine ys 0 ⟨lb hv24⟩ ?_
        refine yw [10] 1 ?_
        refine ye [1,2,9,3,0,10] ?_
        refine pt_inb ?_
        refine pt_pick [4,0,1,2,3,5] (by kernel_rfl) (es':=[(_,_),(_,_),(_,_),(_,_),(_,_),(_,_)]) rfl ?_
        exact pt_next _ (zi h).symm rfl
      ·have h:=cond_f hb79 h
       refine ht_exit ?_
       refine pt_x_then ?_
       refine pt_x_then ?_
       refine pt_x_in ?_
       refine pt_pick [0,3,5] (by kernel_rfl) (es':=[(_,_),(_,_),(_,_)]) rfl ?_
       exact hl74 _ (ho76 _ (zi h).symm).symm
    ·intro u54 h hl55 hr56
     refine yyy hn 2 [0,1,2,3,20] ?_
     refine ht_cond _ rfl (fun hb57 => ?_) (fun hb57 => ?_)
     ·have h:=cond_t hb57 h
      obtain ⟨v4, hv4, h⟩:=zn h
      obtain ⟨v5, hv5, h⟩:=zn h
      refine yx hn 2 ?_
      refine ys 0 ⟨lk call97 (ok_strings_Count _ _ _ hv4)⟩ ?_
      refine ys 0 ⟨lb hv5⟩ ?_
      refine yw [3] 1 ?_
      refine ye [0,1,2,3] ?_
      exact hl55 _ (zi h).symm
     ·have h:=cond_f hb57 h
      refine ht_skip ?_
      refine pt_pick [0,1,2,3] (by kernel_rfl) (es':=[(_,_),(_,_),(_,_),(_,_)]) rfl ?_
      exact hl55 _ (zi h).symm
theorem ok_strings_Split (s:ByteArray) (sep:ByteArray) (r:(List ByteArray)) (h:Sh.strings_Split s sep=some r):FnOK Tryz.prog 57 [.v (.string s), .v (.string sep)] (.fl .ro 1 (map Value.string r)):=by
  unfold Sh.strings_Split at h
  refine yO 8 func57 fun g0 hn hio => ?_
  refine yyy hn 1 [0,1] ?_
  refine ht_seq ?_
  obtain ⟨v1, hv1, h⟩:=zn h
  refine yx hn 2 ?_
  refine ys 1 ⟨lk call77 (ok_strings_genSplit _ _ _ _ _ hv1)⟩ ?_
  refine yee [4] ?_
  refine ht_ret ?_
  obtain rfl:=zi h
  exact pt_ret hio rfl (.tmp _ _ .nil) rfl rfl
theorem ok_strconv_Atoi (s:ByteArray) (r:Int×Unit) (h:Sh.strconv_Atoi s=some r):FnOK Tryz.prog 78 [.v (.string s)] (.tup [.v (.int .i64 r.1), .v .nilIface]):=lib_strconv_Atoi (fun s n w h1 h2=>Tryz.strconv_Atoi s n h1 h2 w) s r h
theorem ok_number_Parse (s:ByteArray) (digits:Int) (r:(Int×Bool)) (h:Sh.number_Parse s digits=some r):FnOK Tryz.prog 58 [.v (.string s), .v (.int .i64 digits)] (.tup [.v (.int .i64 r.1), .v (.bool r.2)]):=by
  unfold Sh.number_Parse at h
  refine yO 51 func58 fun g0 hn hio => ?_
  refine yyy hn 2 [0,1] ?_
  refine ht_seq ?_
  refine ht_seq ?_
  refine ht_joinS h (fun (s3:Bool)=>[(0,vs s),(26,vb s3)]) ?_ ?_
  ·rintro s3 h
   refine pt_then ?_
   refine ht_cond _ rfl (fun hb7 => ?_) (fun hb7 => ?_)
   ·have h:=cond_t hb7 h
    refine yyy hn 2 [4,5] ?_
    refine ht_ret ?_
    refine pt_r_then ?_
    obtain rfl:=zi h
    exact pt_ret hio rfl (.tmp _ _ (.tmp _ _ .nil)) rfl rfl
   ·have h:=cond_f hb7 h
    refine ht_skip ?_
    refine pt_then (ht_seq ?_)
    refine yyy hn 3 [0,28,29] ?_
    refine ht_loopS h (fun (s24:Int)=>[(0,vs s),(28,vi (s.size:Int)),(29,vi s24)]) (fun (():Unit)=>[(0,vs s)]) ?_ ?_
    ·rintro ⟨⟩ h
     refine pt_then (ht_seq ?_)
     obtain ⟨v43, hv43, h⟩:=zn h
     refine yx hn 1 ?_
     refine ys 0 ⟨lk call78 (ok_strconv_Atoi _ _ hv43)⟩ ?_
     refine ym 4 ?_
     refine yee [7,8] ?_
     refine ht_seq ?_
     refine wb [[7],[8]] ?_
     refine wN [49] ?_
     refine wS (vb true) [[48],[50]] ⟨op_ifnil _ _ false underlying116 rfl⟩ ?_
     refine wee hn [4,5] ?_
     refine ht_ret ?_
     obtain rfl:=zi h
     exact pt_ret hio rfl (.tmp _ _ (.tmp _ _ .nil)) rfl rfl
    ·rintro u31 hl32 hr33 s24 rr36 h ho34
     refine yyy hn 1 [0,28,29,30] ?_
     refine ht_seq ?_
     refine ht_cond _ rfl (fun hb37 => ?_) (fun hb37 => ?_)
     ·have h:=cond_t hb37 h
      refine ht_skip ?_
      refine pt_then (ht_seq ?_)
      refine ht_block ?_
      refine yyy hn 2 [0,28,29,6] ?_
      refine ht_seq ?_
      refine ht_joinS h (fun (s38:Bool)=>[(0,vs s),(28,vi (s.size:Int)),(29,vi s24),(41,vb s38)]) ?_ ?_
      ·rintro s38 h
       refine pt_then ?_
       refine ht_cond _ rfl (fun hb42 => ?_) (fun hb42 => ?_)
       ·have h:=cond_t hb42 h
        refine yyy hn 2 [4,5] ?_
        refine ht_ret ?_
        refine pt_r_in ?_
        refine pt_r_then ?_
        refine pt_r_then ?_
        refine pt_r_in ?_
        refine pt_r_then ?_
        have h:=hr33 _ (ho34 _ (zi h).symm).symm
        obtain rfl:=zi h
        exact pt_ret hio rfl (.tmp _ _ (.tmp _ _ .nil)) rfl rfl
       ·have h:=cond_f hb42 h
        refine ht_skip ?_
        refine pt_inb ?_
        refine pt_then ?_
        obtain ⟨v16, hv16, h⟩:=zn h
        refine yx hn 0 ?_
        refine ys 0 ⟨lb hv16⟩ ?_
        refine yw [29] 1 ?_
        refine ye [0,28,29] ?_
        exact pt_next _ (zi h).symm rfl
      ·intro u39 h hl40 hr41
       obtain ⟨v9, hv9, h⟩:=zn h
       refine cond_some h (fun hg6_4 h => ?_) (fun hg6_4 h => ?_)
       ·refine yx hn 2 ?_
        refine ys 2 ⟨lh hv9⟩ ?_
        refine yd hg6_4 5 ?_
        refine ye [0,28,29,41] ?_
        exact hl40 _ (zi h).symm
       ·obtain ⟨v10, hv10, h⟩:=zn h
        refine yx hn 2 ?_
        refine ys 2 ⟨lh hv9⟩ ?_
        refine yd hg6_4 2 ?_
        refine ys 2 ⟨lh hv10⟩ ?_
        refine ye [0,28,29,41] ?_
        exact hl40 _ (zi h).symm
     ·have h:=cond_f hb37 h
      refine ht_exit ?_
      refine pt_x_then ?_
      refine pt_x_then ?_
      refine pt_x_in ?_
      refine pt_pick [0] (by kernel_rfl) (es':=[(_,_)]) rfl ?_
      exact hl32 _ (ho34 _ (zi h).symm).symm
  ·intro u4 h hl5 hr6
   refine cond_some h (fun hg1_2 h => ?_) (fun hg1_2 h => ?_)
   ·refine yx hn 3 ?_
    refine yd hg1_2 15 ?_
    refine ye [0,26] ?_
    exact hl5 _ (zi h).symm
   ·obtain ⟨v1, hv1, h⟩:=zn h
    refine cond_some h (fun hg1_9 h => ?_) (fun hg1_9 h => ?_)
    ·refine yx hn 3 ?_
     refine yd hg1_2 3 ?_
     refine yS (vi v1) 3 ⟨(Option.some.inj hv1) ▸ op_min _ _ _ _ rfl rfl⟩ ?_
     refine yd hg1_9 8 ?_
     refine ye [0,26] ?_
     exact hl5 _ (zi h).symm
    ·obtain ⟨v2, hv2, h⟩:=zn h
     refine cond_some h (fun hg1_13 h => ?_) (fun hg1_13 h => ?_)
     ·refine yx hn 3 ?_
      refine yd hg1_2 3 ?_
      refine yS (vi v1) 3 ⟨(Option.some.inj hv1) ▸ op_min _ _ _ _ rfl rfl⟩ ?_
      refine yd hg1_9 1 ?_
      refine ys 2 ⟨lh hv2⟩ ?_
      refine yd hg1_13 4 ?_
      refine ye [0,26] ?_
      exact hl5 _ (zi h).symm
     ·refine yx hn 3 ?_
      refine yd hg1_2 3 ?_
      refine yS (vi v1) 3 ⟨(Option.some.inj hv1) ▸ op_min _ _ _ _ rfl rfl⟩ ?_
      refine yd hg1_9 1 ?_
      refine ys 2 ⟨lh hv2⟩ ?_
      refine yd hg1_13 4 ?_
      refine ye [0,26] ?_
      exact hl5 _ (zi h).symm
theorem ok_bundle_parseHeader (line:ByteArray) (r:(T_bundle_header×Bool)) (h:Sh.bundle_parseHeader line=some r):FnOK Tryz.prog 35 [.v (.string line)] (.tup [.agg [.v (.int .i64 r.1.origin), .v (.int .i64 r.1.number), .v (.int .i64 r.1.size), .v (.int .i64 r.1.sum)], .v (.bool r.2)]):=by
  unfold Sh.bundle_parseHeader at h
  refine yO 56 func35 fun g0 hn hio => ?_
  refine yxx hn 0 ?_
  refine yS (.box 66 [vi 0,vi 0,vi 0,vi 0]) 1 ⟨oA (op_alloc _ _ zr66)⟩ ?_
  refine yee [0,2] ?_
  refine ht_seq ?_
  obtain ⟨v1, hv1, h⟩:=zn h
  refine yx hn 1 ?_
  refine ys 1 ⟨lk call57 (ok_strings_Split _ _ _ hv1)⟩ ?_
  refine yee [2,4] ?_
  refine ht_seq ?_
  refine ht_seq ?_
  refine ht_joinS h (fun (s4:Bool)=>[(2,.box 66 [vi 0,vi 0,vi 0,vi 0]),(4,.fl .ro 1 (map Value.string v1)),(21,vb s4)]) ?_ ?_
  ·rintro s4 h
   refine pt_then ?_
   refine ht_cond _ rfl (fun hb8 => ?_) (fun hb8 => ?_)
   ·have h:=cond_t hb8 h
    refine yxx hn 0 ?_
    refine yS (.agg [vi 0,vi 0,vi 0,vi 0]) 0 ⟨op_build _ _ _ _ [1,1,1,1] _ _ underlying66 zr66 (fs66 _ underlying66) Src.nil rfl rfl rfl⟩ ?_
    refine yk [22,2] [] ?_
    refine yt (2,.box 66 [vi 0,vi 0,vi 0,vi 0]) 1 ⟨op_store_self _ _ _ 22 2 4 sz66 rfl rfl rfl rfl rfl (.eq _ (.eq _ (.eq _ (.eq _ (.nil _))))) rfl⟩ ?_
    refine yee [2,3] ?_
    refine ht_ret ?_
    refine pt_r_then ?_
    obtain rfl:=zi h
    exact pt_ret hio rfl (.cellA _ _ _ _ underlying66 rfl sz66 (.tmp _ _ .nil)) rfl rfl
   ·have h:=cond_f hb8 h
    refine ht_skip ?_
    refine pt_then ?_
    refine yxx hn 0 ?_
    refine yS (.arr 90 (map (int .i64) ((List.replicate 5 (0:Int))))) 0 ⟨oA (op_alloc_arr _ za90)⟩ ?_
    refine yee [2,4,5] ?_
    refine ht_seq ?_
    refine ht_seq ?_
    obtain ⟨v9, hv9, h⟩:=zn h
    refine yx hn 1 ?_
    refine yS (.fl .ro 1 (map Value.string v9)) 2 ⟨op_sl _ _ _ 1 (v1.length:Int) _ underlying57 sz9 rfl rfl ⟨_,rfl⟩ rfl hv9⟩ ?_
    refine yee [2,5,24,25,26] ?_
    refine ht_loopS h (fun ((s22,s23):(List Int)×Int)=>[(2,.box 66 [vi 0,vi 0,vi 0,vi 0]),(5,.arr 90 (map (int .i64) s22)),(24,.fl .ro 1 (map Value.string v9)),(25,vi (v9.length:Int)),(26,vi s23)]) (fun (s26:(List Int))=>[(2,.box 66 [vi 0,vi 0,vi 0,vi 0]),(5,.arr 90 (map (int .i64) s26))]) ?_ ?_
    ·rintro s26 h
     refine pt_then (ht_seq ?_)
     obtain ⟨v35, hv35, h⟩:=zn h
     obtain ⟨v36, hv36, h⟩:=zn h
     obtain ⟨v37, hv37, h⟩:=zn h
     obtain ⟨v38, hv38, h⟩:=zn h
     obtain ⟨v39, hv39, h⟩:=zn h
     obtain ⟨v40, hv40, h⟩:=zn h
     obtain ⟨v41, hv41, h⟩:=zn h
     obtain ⟨v42, hv42, h⟩:=zn h
     refine yx hn 0 ?_
     refine yS (.ptr 5 v35) 0 ⟨op_ix_arr _ _ _ _ 5 5 _ underlying90 sz3 rfl rfl (ix_ok hv35).1 (ix_ok hv35).2 (by decide)⟩ ?_
     refine yS (vi v36) 0 ⟨op_load_arr _ _ _ _ _ _ underlying3 rfl rfl rfl (map_get1 hv36)⟩ ?_
     refine yS (.ptr 5 v37) 0 ⟨op_ix_arr _ _ _ _ 5 5 _ underlying90 sz3 rfl rfl (ix_ok hv37).1 (ix_ok hv37).2 (by decide)⟩ ?_
     refine yS (vi v38) 0 ⟨op_load_arr _ _ _ _ _ _ underlying3 rfl rfl rfl (map_get1 hv38)⟩ ?_
     refine yS (.ptr 5 v39) 0 ⟨op_ix_arr _ _ _ _ 5 5 _ underlying90 sz3 rfl rfl (ix_ok hv39).1 (ix_ok hv39).2 (by decide)⟩ ?_
     refine yS (vi v40) 0 ⟨op_load_arr _ _ _ _ _ _ underlying3 rfl rfl rfl (map_get1 hv40)⟩ ?_
     refine yS (.ptr 5 v41) 0 ⟨op_ix_arr _ _ _ _ 5 5 _ underlying90 sz3 rfl rfl (ix_ok hv41).1 (ix_ok hv41).2 (by decide)⟩ ?_
     refine yS (vi v42) 0 ⟨op_load_arr _ _ _ _ _ _ underlying3 rfl rfl rfl (map_get1 hv42)⟩ ?_
     refine yS (.agg [vi v36,vi v38,vi v40,vi v42]) 0 ⟨op_build _ _ _ _ [1,1,1,1] _ _ underlying66 zr66 (fs66 _ underlying66) (.copy _ (.copy _ (.copy _ (.copy _ Src.nil)))) rfl rfl rfl⟩ ?_
     refine yS (.box 66 [vi 0,vi 0,vi 0,vi 0]) 1 ⟨oA (op_alloc _ _ zr66)⟩ ?_
     refine yee [2,10] ?_
     refine ht_seq ?_
     refine wb [[10],[10],[53,10],[54]] ?_
     refine wK [2] [52] ?_
     refine wt [(2,.box 66 [vi v36,vi v38,vi v40,vi v42])] [[55]] ⟨op_store _ _ _ _ _ _ _ _ sz66 rfl rfl rfl rfl (zl rfl) rfl rfl⟩ ?_
     refine wee hn [2,3] ?_
     refine ht_ret ?_
     obtain rfl:=zi h
     exact pt_ret hio rfl (.cellA _ _ _ _ underlying66 rfl sz66 (.tmp _ _ .nil)) rfl rfl
    ·rintro u27 hl28 hr29 ⟨s22, s23⟩ rr32 h ho30
     refine yyy hn 1 [2,5,24,25,26,27] ?_
     refine ht_seq ?_
     refine ht_cond _ rfl (fun hb33 => ?_) (fun hb33 => ?_)
     ·have h:=cond_t hb33 h
      refine ht_skip ?_
      refine pt_then (ht_seq ?_)
      refine ht_block ?_
      refine ht_seq ?_
      obtain ⟨v11, hv11, h⟩:=zn h
      obtain ⟨v12, hv12, h⟩:=zn h
      refine yx hn 1 ?_
      refine ys 0 ⟨li hv11⟩ ?_
      refine ys 2 ⟨ll hv12⟩ ?_
      refine yee [2,5,24,25,26,6,7] ?_
      refine ht_seq ?_
      obtain ⟨v13, hv13, h⟩:=zn h
      refine yx hn 1 ?_
      refine ys 0 ⟨lk call58 (ok_number_Parse _ _ _ hv13)⟩ ?_
      refine ym 4 ?_
      refine yee [2,5,24,25,26,6,8,9] ?_
      refine ht_seq ?_
      refine yyy hn 2 [2,5,24,25,26,6,8,37] ?_
      refine ht_cond _ rfl (fun hb34 => ?_) (fun hb34 => ?_)
      ·have h:=cond_t hb34 h
       refine yxx hn 0 ?_
       refine yS (.agg [vi 0,vi 0,vi 0,vi 0]) 0 ⟨op_build _ _ _ _ [1,1,1,1] _ _ underlying66 zr66 (fs66 _ underlying66) Src.nil rfl rfl rfl⟩ ?_
       refine yk [38,2] [] ?_
       refine yt (2,.box 66 [vi 0,vi 0,vi 0,vi 0]) 1 ⟨op_store_self _ _ _ 38 2 4 sz66 rfl rfl rfl rfl rfl (.eq _ (.eq _ (.eq _ (.eq _ (.nil _))))) rfl⟩ ?_
       refine yee [2,3] ?_
       refine ht_ret ?_
       refine pt_r_then ?_
       refine pt_r_in ?_
       refine pt_r_then ?_
       refine pt_r_then ?_
       refine pt_r_in ?_
       refine pt_r_then ?_
       have h:=hr29 _ (ho30 _ (zi h).symm).symm
       obtain rfl:=zi h
       exact pt_ret hio rfl (.cellA _ _ _ _ underlying66 rfl sz66 (.tmp _ _ .nil)) rfl rfl
      ·have h:=cond_f hb34 h
       refine ht_skip ?_
       refine pt_then ?_
       obtain ⟨v15, hv15, h⟩:=zn h
       obtain ⟨v16, hv16, h⟩:=zn h
       refine yx hn 2 ?_
       refine yS (.ptr 5 v15) 0 ⟨op_ix_arr _ _ _ _ 5 5 _ underlying90 sz3 rfl rfl (ix_ok hv15).1 (ix_ok hv15).2 (by decide)⟩ ?_
       refine yk [5] [41,40] ?_
       refine yt (5,.arr 90 (map (int .i64) v16)) 0 ⟨op_store_arr _ _ _ _ _ _ sz3 rfl rfl rfl rfl (set_lt hv16) (set_eq (f:=int .i64) hv16)⟩ ?_
       refine ye [2,5,24,25,26] ?_
       refine pt_inb ?_
       refine pt_then ?_
       obtain ⟨v17, hv17, h⟩:=zn h
       refine yx hn 0 ?_
       refine ys 0 ⟨lb hv17⟩ ?_
       refine yw [26] 1 ?_
       refine ye [2,5,24,25,26] ?_
       exact pt_next _ (zi h).symm rfl
     ·have h:=cond_f hb33 h
      refine ht_exit ?_
      refine pt_x_then ?_
      refine pt_x_then ?_
      refine pt_x_in ?_
      refine pt_pick [0,1] (by kernel_rfl) (es':=[(_,_),(_,_)]) rfl ?_
      exact hl28 _ (ho30 _ (zi h).symm).symm
  ·intro u5 h hl6 hr7
   refine cond_some h (fun hg2_3 h => ?_) (fun hg2_3 h => ?_)
   ·refine yx hn 4 ?_
    refine yd hg2_3 5 ?_
    refine ye [2,4,21] ?_
    exact hl6 _ (zi h).symm
   ·obtain ⟨v2, hv2, h⟩:=zn h
    obtain ⟨v3, hv3, h⟩:=zn h
    refine yx hn 4 ?_
    refine yd hg2_3 1 ?_
    refine ys 0 ⟨li hv2⟩ ?_
    refine ys 2 ⟨ll hv3⟩ ?_
    refine ye [2,4,21] ?_
    exact hl6 _ (zi h).symm
theorem ok_sums_table (divisor:Int) (r:(List Int)) (h:Sh.sums_table divisor=some r):FnOK Tryz.prog 71 [.v (.int .u32 divisor)] (.v (.agg (map (int .u32) r).toArray)):=by
  unfold Sh.sums_table at h
  refine yO 29 func71 fun g0 hn hio => ?_
  refine yxx hn 0 ?_
  refine yS (.arr 109 (map (int .u32) ((List.replicate 16 (0:Int))))) 0 ⟨oA (op_alloc_arr _ za109)⟩ ?_
  refine yee [0,2] ?_
  refine yxx hn 0 ?_
  refine yS (.arr 109 (map (int .u32) ((List.replicate 16 (0:Int))))) 0 ⟨oA (op_alloc_arr _ za109)⟩ ?_
  refine yee [0,2,3] ?_
  refine ht_seq ?_
  refine yyy hn 1 [0,2,3,7] ?_
  refine ht_loopS h (fun ((s91,s92):(List Int)×Int)=>[(0,.v (.int .u32 divisor)),(2,.arr 109 (map (int .u32) ((List.replicate 16 (0:Int))))),(3,.arr 109 (map (int .u32) s91)),(7,vi s92)]) (fun (s133:(List Int))=>[(2,.arr 109 (map (int .u32) ((List.replicate 16 (0:Int))))),(3,.arr 109 (map (int .u32) s133))]) ?_ ?_
  ·rintro s133 h
   refine pt_then (ht_seq ?_)
   obtain ⟨v180, hv180, h⟩:=zn h
   obtain ⟨v181, hv181, h⟩:=zn h
   obtain ⟨v182, hv182, h⟩:=zn h
   refine yx hn 0 ?_
   refine yS (.v (.agg (map (int .u32) s133).toArray)) 0 ⟨op_loadA_arr _ _ _ _ underlying109 rfl (sz109.trans (congrArg some (ln_len hv180))) rfl rfl⟩ ?_
   refine yk [2] [28] ?_
   refine yt (2,.arr 109 (map (int .u32) s133)) 0 ⟨op_storeA_arr _ _ _ _ (sz109.trans (congrArg some (ln_len hv182))) rfl rfl (ln_ones (fun _=>rfl) _) ((ln_len (f:=int .u32) hv181).symm.trans (ln_len (f:=int .u32) hv182))⟩ ?_
   refine yee [2] ?_
   refine ht_ret ?_
   obtain ⟨v183, hv183, h⟩:=zn h
   obtain rfl:=zi h
   exact pt_ret hio rfl (.cellR _ _ _ _ underlying109 rfl (sz109.trans (congrArg some (ln_len hv183))) .nil) rfl rfl
  ·rintro u134 hl135 hr136 ⟨s91, s92⟩ rr139 h ho137
   refine yyy hn 1 [0,2,3,7,8] ?_
   refine ht_seq ?_
   refine ht_cond _ rfl (fun hb140 => ?_) (fun hb140 => ?_)
   ·have h:=cond_t hb140 h
    refine ht_skip ?_
    refine pt_then (ht_seq ?_)
    refine ht_block ?_
    refine yyy hn 2 [0,2,3,7,4] ?_
    refine ht_seq ?_
    obtain ⟨v2, hv2, h⟩:=zn h
    refine yx hn 1 ?_
    refine ys 1 ⟨lv hv2⟩ ?_
    refine yee [0,2,3,7,4,5] ?_
    refine ht_seq ?_
    refine yyy hn 1 [0,2,3,7,4,5,12] ?_
    refine ht_loopS h (fun ((s157,s158):Int×Int)=>[(0,.v (.int .u32 divisor)),(2,.arr 109 (map (int .u32) ((List.replicate 16 (0:Int))))),(3,.arr 109 (map (int .u32) s91)),(7,vi s92),(4,vi s92),(5,.v (.int .u32 s157)),(12,vi s158)]) (fun (s166:Int)=>[(0,.v (.int .u32 divisor)),(2,.arr 109 (map (int .u32) ((List.replicate 16 (0:Int))))),(3,.arr 109 (map (int .u32) s91)),(7,vi s92),(4,vi s92),(5,.v (.int .u32 s166))]) ?_ ?_
    ·rintro s166 h
     refine pt_then ?_
     obtain ⟨v46, hv46, h⟩:=zn h
     obtain ⟨v47, hv47, h⟩:=zn h
     refine yx hn 2 ?_
     refine yS (.ptr 3 v46) 0 ⟨op_ix_arr _ _ _ _ 16 3 _ underlying109 sz86 rfl rfl (ix_ok hv46).1 (ix_ok hv46).2 (by decide)⟩ ?_
     refine yk [3] [26,25] ?_
     refine yt (3,.arr 109 (map (int .u32) v47)) 0 ⟨op_store_arr _ _ _ _ _ _ sz86 rfl rfl rfl rfl (set_lt hv47) (set_eq (f:=int .u32) hv47)⟩ ?_
     refine ye [0,2,3,7] ?_
     refine pt_inb ?_
     refine pt_then ?_
     obtain ⟨v48, hv48, h⟩:=zn h
     refine yx hn 0 ?_
     refine ys 0 ⟨lb hv48⟩ ?_
     refine yw [7] 1 ?_
     refine ye [0,2,3,7] ?_
     exact pt_next _ (zi h).symm rfl
    ·rintro u167 hl168 hr169 ⟨s157, s158⟩ rr172 h ho170
     refine yyy hn 1 [0,2,3,7,4,5,12,13] ?_
     refine ht_seq ?_
     refine ht_cond _ rfl (fun hb173 => ?_) (fun hb173 => ?_)
     ·have h:=cond_t hb173 h
      refine ht_skip ?_
      refine pt_then (ht_seq ?_)
      refine ht_joinS h (fun (s175:Int)=>[(0,.v (.int .u32 divisor)),(2,.arr 109 (map (int .u32) ((List.replicate 16 (0:Int))))),(3,.arr 109 (map (int .u32) s91)),(7,vi s92),(4,vi s92),(12,vi s158),(5,.v (.int .u32 s175))]) ?_ ?_
      ·rintro s175 h
       refine pt_then ?_
       obtain ⟨v13, hv13, h⟩:=zn h
       refine yx hn 0 ?_
       refine ys 0 ⟨lb hv13⟩ ?_
       refine yw [12] 1 ?_
       refine ye [0,2,3,7,4,5,12] ?_
       exact pt_next _ (zi h).symm rfl
      ·intro u176 h hl177 hr178
       refine ht_block ?_
       refine ht_seq ?_
       obtain ⟨v4, hv4, h⟩:=zn h
       refine yx hn 1 ?_
       refine ys 1 ⟨lb hv4⟩ ?_
       refine yee [0,2,3,7,4,5,12,6] ?_
       refine ht_seq ?_
       obtain ⟨v5, hv5, h⟩:=zn h
       refine yx hn 1 ?_
       refine ys 0 ⟨lB (shr_ok hv5)⟩ ?_
       refine yw [5] 1 ?_
       refine yee [0,2,3,7,4,12,6,5] ?_
       refine yyy hn 2 [0,2,3,7,4,12,5,19] ?_
       refine ht_cond _ rfl (fun hb179 => ?_) (fun hb179 => ?_)
       ·have h:=cond_t hb179 h
        obtain ⟨v7, hv7, h⟩:=zn h
        refine yx hn 2 ?_
        refine ys 0 ⟨lb hv7⟩ ?_
        refine yw [5] 1 ?_
        refine ye [0,2,3,7,4,12,5] ?_
        refine pt_inb ?_
        exact hl177 _ (zi h).symm
       ·have h:=cond_f hb179 h
        refine ht_skip ?_
        refine pt_inb ?_
        refine pt_pick [0,1,2,3,4,5,6] (by kernel_rfl) (es':=[(_,_),(_,_),(_,_),(_,_),(_,_),(_,_),(_,_)]) rfl ?_
        exact hl177 _ (zi h).symm
     ·have h:=cond_f hb173 h
      refine ht_exit ?_
      refine pt_x_then ?_
      refine pt_x_then ?_
      refine pt_x_in ?_
      refine pt_pick [0,1,2,3,4,5] (by kernel_rfl) (es':=[(_,_),(_,_),(_,_),(_,_),(_,_),(_,_)]) rfl ?_
      exact hl168 _ (ho170 _ (zi h).symm).symm
   ·have h:=cond_f hb140 h
    refine ht_exit ?_
    refine pt_x_then ?_
    refine pt_x_then ?_
    refine pt_x_in ?_
    refine pt_pick [1,2] (by kernel_rfl) (es':=[(_,_),(_,_)]) rfl ?_
    exact hl135 _ (ho137 _ (zi h).symm).symm
theorem ok_sums_sum (b:(List Int)) (width:Int) (divisor:Int) (r:Int) (h:Sh.sums_sum b width divisor=some r):FnOK Tryz.prog 52 [.fl .shr 1 (map (int .u8) b), .v (.int .i64 width), .v (.int .u32 divisor)] (.v (.int .i64 r)):=by
  unfold Sh.sums_sum at h
  refine yO 47 func52 fun g0 hn hio => ?_
  refine yyy hn 1 [0,1,2] ?_
  refine ht_seq ?_
  obtain ⟨v1, hv1, h⟩:=zn h
  obtain ⟨v2, hv2, h⟩:=zn h
  obtain ⟨v3, hv3, h⟩:=zn h
  refine yx hn 1 ?_
  refine ys 0 ⟨lk call71 (ok_sums_table _ _ hv1)⟩ ?_
  refine yS (.arr 109 (map (int .u32) ((List.replicate 16 (0:Int))))) 0 ⟨oA (op_alloc_arr _ za109)⟩ ?_
  refine yk [7] [13] ?_
  refine yt (7,.arr 109 (map (int .u32) v1)) 0 ⟨op_storeA_arr _ _ _ _ (sz109.trans (congrArg some (ln_len hv3))) rfl rfl (ln_ones (fun _=>rfl) _) ((ln_len (f:=int .u32) hv2).symm.trans (ln_len (f:=int .u32) hv3))⟩ ?_
  refine yee [0,1,7] ?_
  refine ht_seq ?_
  obtain ⟨v4, hv4, h⟩:=zn h
  obtain ⟨v5, hv5, h⟩:=zn h
  refine yx hn 1 ?_
  refine ys 0 ⟨lB (shl_ok hv4)⟩ ?_
  refine ys 1 ⟨lb hv5⟩ ?_
  refine yee [0,7,8] ?_
  refine yyy hn 2 [0,7,8,9] ?_
  refine ht_seq ?_
  refine yyy hn 3 [7,8,9,18,19,20] ?_
  refine ht_loopS h (fun ((s25,s26):Int×Int)=>[(7,.arr 109 (map (int .u32) v1)),(8,.v (.int .u32 v5)),(9,.v (.int .u32 s25)),(18,fb b),(19,vi (b.length:Int)),(20,vi s26)]) (fun (s28:Int)=>[(8,.v (.int .u32 v5)),(9,.v (.int .u32 s28))]) ?_ ?_
  ·rintro s28 h
   refine pt_then (ht_seq ?_)
   obtain ⟨v36, hv36, h⟩:=zn h
   obtain ⟨v37, hv37, h⟩:=zn h
   refine yx hn 2 ?_
   refine ys 0 ⟨lb hv36⟩ ?_
   refine ys 1 ⟨lv hv37⟩ ?_
   refine yee [6] ?_
   refine ht_ret ?_
   obtain rfl:=zi h
   exact pt_ret hio rfl (.tmp _ _ .nil) rfl rfl
  ·rintro u29 hl30 hr31 ⟨s25, s26⟩ rr34 h ho32
   refine yyy hn 1 [7,8,9,18,19,20,21] ?_
   refine ht_seq ?_
   refine ht_cond _ rfl (fun hb35 => ?_) (fun hb35 => ?_)
   ·have h:=cond_t hb35 h
    refine ht_skip ?_
    refine pt_then (ht_seq ?_)
    refine ht_block ?_
    refine ht_seq ?_
    obtain ⟨v7, hv7, h⟩:=zn h
    obtain ⟨v8, hv8, h⟩:=zn h
    refine yx hn 0 ?_
    refine ys 0 ⟨li hv7⟩ ?_
    refine ys 1 ⟨ll hv8⟩ ?_
    refine yee [7,8,9,18,19,20,11] ?_
    refine ht_seq ?_
    obtain ⟨v9, hv9, h⟩:=zn h
    obtain ⟨v10, hv10, h⟩:=zn h
    refine yx hn 2 ?_
    refine ys 0 ⟨lv hv9⟩ ?_
    refine ys 0 ⟨lb hv10⟩ ?_
    refine yw [9] 1 ?_
    refine yee [7,8,18,19,20,9] ?_
    refine ht_seq ?_
    obtain ⟨v11, hv11, h⟩:=zn h
    obtain ⟨v12, hv12, h⟩:=zn h
    obtain ⟨v13, hv13, h⟩:=zn h
    obtain ⟨v14, hv14, h⟩:=zn h
    obtain ⟨v15, hv15, h⟩:=zn h
    refine yx hn 1 ?_
    refine ys 1 ⟨lB (shr_ok hv11)⟩ ?_
    refine ys 0 ⟨lB (rem_ok hv12)⟩ ?_
    refine yS (.ptr 7 v13) 0 ⟨op_ix_arr _ _ _ _ 16 7 _ underlying109 sz86 rfl rfl (ix_ok hv13).1 (ix_ok hv13).2 (by decide)⟩ ?_
    refine yS (.v (.int .u32 v14)) 0 ⟨op_load_arr _ _ _ _ _ _ underlying86 rfl rfl rfl (map_get1 hv14)⟩ ?_
    refine ys 0 ⟨lb hv15⟩ ?_
    refine yw [9] 1 ?_
    refine yee [7,8,18,19,20,9] ?_
    obtain ⟨v16, hv16, h⟩:=zn h
    obtain ⟨v17, hv17, h⟩:=zn h
    obtain ⟨v18, hv18, h⟩:=zn h
    obtain ⟨v19, hv19, h⟩:=zn h
    obtain ⟨v20, hv20, h⟩:=zn h
    refine yx hn 1 ?_
    refine ys 1 ⟨lB (shr_ok hv16)⟩ ?_
    refine ys 0 ⟨lB (rem_ok hv17)⟩ ?_
    refine yS (.ptr 7 v18) 0 ⟨op_ix_arr _ _ _ _ 16 7 _ underlying109 sz86 rfl rfl (ix_ok hv18).1 (ix_ok hv18).2 (by decide)⟩ ?_
    refine yS (.v (.int .u32 v19)) 0 ⟨op_load_arr _ _ _ _ _ _ underlying86 rfl rfl rfl (map_get1 hv19)⟩ ?_
    refine ys 0 ⟨lb hv20⟩ ?_
    refine yw [9] 1 ?_
    refine ye [7,8,18,19,20,9] ?_
    refine pt_inb ?_
    refine pt_then ?_
    obtain ⟨v21, hv21, h⟩:=zn h
    refine yx hn 0 ?_
    refine ys 0 ⟨lb hv21⟩ ?_
    refine yw [20] 1 ?_
    refine ye [7,8,18,19,9,20] ?_
    refine pt_pick [0,1,4,2,3,5] (by kernel_rfl) (es':=[(_,_),(_,_),(_,_),(_,_),(_,_),(_,_)]) rfl ?_
    exact pt_next _ (zi h).symm rfl
   ·have h:=cond_f hb35 h
    refine ht_exit ?_
    refine pt_x_then ?_
    refine pt_x_then ?_
    refine pt_x_in ?_
    refine pt_pick [1,2] (by kernel_rfl) (es':=[(_,_),(_,_)]) rfl ?_
    exact hl30 _ (ho32 _ (zi h).symm).symm
theorem ok_sums_Long (b:(List Int)) (r:Int) (h:Sh.sums_Long b=some r):FnOK Tryz.prog 31 [.fl .shr 1 (map (int .u8) b)] (.v (.int .i64 r)):=by
  unfold Sh.sums_Long at h
  refine yO 5 func31 fun g0 hn hio => ?_
  refine yyy hn 1 [0] ?_
  refine ht_seq ?_
  obtain ⟨v1, hv1, h⟩:=zn h
  refine yx hn 1 ?_
  refine ys 1 ⟨lk call52 (ok_sums_sum _ _ _ _ hv1)⟩ ?_
  refine yee [2] ?_
  refine ht_ret ?_
  obtain rfl:=zi h
  exact pt_ret hio rfl (.tmp _ _ .nil) rfl rfl
theorem ok_internal_stringslite_HasPrefix (s:ByteArray) (prefix_:ByteArray) (r:Bool) (h:Sh.internal_stringslite_HasPrefix s prefix_=some r):FnOK Tryz.prog 149 [.v (.string s), .v (.string prefix_)] (.v (.bool r)):=by
  unfold Sh.internal_stringslite_HasPrefix at h
  refine yO 18 func149 fun g0 hn hio => ?_
  refine yyy hn 1 [0,1] ?_
  refine ht_seq ?_
  refine ht_joinS h (fun (s2:Bool)=>[(4,vb s2)]) ?_ ?_
  ·rintro s2 h
   refine pt_then (ht_ret ?_)
   obtain rfl:=zi h
   exact pt_ret hio rfl (.tmp _ _ .nil) rfl rfl
  ·intro u3 h hl4 hr5
   refine cond_some h (fun hg1_5 h => ?_) (fun hg1_5 h => ?_)
   ·obtain ⟨v1, hv1, h⟩:=zn h
    refine yx hn 6 ?_
    refine yd hg1_5 3 ?_
    refine yS (vs v1) 4 ⟨op_substr _ _ _ 0 (prefix_.size:Int) _ underlying9 rfl rfl ⟨_,rfl⟩ hv1⟩ ?_
    refine ye [4] ?_
    exact hl4 _ (zi h).symm
   ·refine yx hn 6 ?_
    refine yd hg1_5 8 ?_
    refine ye [4] ?_
    exact hl4 _ (zi h).symm
theorem ok_internal_stringslite_CutPrefix (s:ByteArray) (prefix_:ByteArray) (r:(ByteArray×Bool)) (h:Sh.internal_stringslite_CutPrefix s prefix_=some r):FnOK Tryz.prog 125 [.v (.string s), .v (.string prefix_)] (.tup [.v (.string r.1), .v (.bool r.2)]):=by
  unfold Sh.internal_stringslite_CutPrefix at h
  refine yO 15 func125 fun g0 hn hio => ?_
  refine yyy hn 2 [0,1] ?_
  refine ht_seq ?_
  refine ht_seq ?_
  obtain ⟨v1, hv1, h⟩:=zn h
  refine yx hn 2 ?_
  refine ys 1 ⟨lk call149 (ok_internal_stringslite_HasPrefix _ _ _ hv1)⟩ ?_
  refine yee [0,1,9] ?_
  refine ht_cond _ rfl (fun hb2 => ?_) (fun hb2 => ?_)
  ·have h:=cond_t hb2 h
   refine yyy hn 3 [4,5] ?_
   refine ht_ret ?_
   refine pt_r_then ?_
   obtain rfl:=zi h
   exact pt_ret hio rfl (.tmp _ _ (.tmp _ _ .nil)) rfl rfl
  ·have h:=cond_f hb2 h
   refine ht_skip ?_
   refine pt_then (ht_seq ?_)
   obtain ⟨v3, hv3, h⟩:=zn h
   refine yx hn 3 ?_
   refine yS (vs v3) 2 ⟨op_substr _ _ _ (prefix_.size:Int) (s.size:Int) _ underlying9 rfl ⟨_,rfl⟩ rfl hv3⟩ ?_
   refine yee [4,5] ?_
   refine ht_ret ?_
   obtain rfl:=zi h
   exact pt_ret hio rfl (.tmp _ _ (.tmp _ _ .nil)) rfl rfl
theorem ok_strings_CutPrefix (s:ByteArray) (prefix_:ByteArray) (r:(ByteArray×Bool)) (h:Sh.strings_CutPrefix s prefix_=some r):FnOK Tryz.prog 101 [.v (.string s), .v (.string prefix_)] (.tup [.v (.string r.1), .v (.bool r.2)]):=by
  unfold Sh.strings_CutPrefix at h
  refine yO 11 func101 fun g0 hn hio => ?_
  refine yyy hn 2 [0,1] ?_
  refine ht_seq ?_
  obtain ⟨v1, hv1, h⟩:=zn h
  refine yx hn 2 ?_
  refine ys 4 ⟨lk call125 (ok_internal_stringslite_CutPrefix _ _ _ hv1)⟩ ?_
  refine yee [4,5] ?_
  refine ht_ret ?_
  obtain rfl:=zi h
  exact pt_ret hio rfl (.tmp _ _ (.tmp _ _ .nil)) rfl rfl
theorem ok_internal_stringslite_HasSuffix (s:ByteArray) (suffix:ByteArray) (r:Bool) (h:Sh.internal_stringslite_HasSuffix s suffix=some r):FnOK Tryz.prog 159 [.v (.string s), .v (.string suffix)] (.v (.bool r)):=by
  unfold Sh.internal_stringslite_HasSuffix at h
  refine yO 21 func159 fun g0 hn hio => ?_
  refine yyy hn 1 [0,1] ?_
  refine ht_seq ?_
  refine ht_joinS h (fun (s3:Bool)=>[(4,vb s3)]) ?_ ?_
  ·rintro s3 h
   refine pt_then (ht_ret ?_)
   obtain rfl:=zi h
   exact pt_ret hio rfl (.tmp _ _ .nil) rfl rfl
  ·intro u4 h hl5 hr6
   refine cond_some h (fun hg1_5 h => ?_) (fun hg1_5 h => ?_)
   ·obtain ⟨v1, hv1, h⟩:=zn h
    obtain ⟨v2, hv2, h⟩:=zn h
    refine yx hn 6 ?_
    refine yd hg1_5 5 ?_
    refine ys 0 ⟨lb hv1⟩ ?_
    refine yS (vs v2) 4 ⟨op_substr _ _ _ v1 (s.size:Int) _ underlying9 rfl ⟨_,rfl⟩ rfl hv2⟩ ?_
    refine ye [4] ?_
    exact hl5 _ (zi h).symm
   ·refine yx hn 6 ?_
    refine yd hg1_5 11 ?_
    refine ye [4] ?_
    exact hl5 _ (zi h).symm
theorem ok_internal_stringslite_CutSuffix (s:ByteArray) (suffix:ByteArray) (r:(ByteArray×Bool)) (h:Sh.internal_stringslite_CutSuffix s suffix=some r):FnOK Tryz.prog 150 [.v (.string s), .v (.string suffix)] (.tup [.v (.string r.1), .v (.bool r.2)]):=by
  unfold Sh.internal_stringslite_CutSuffix at h
  refine yO 18 func150 fun g0 hn hio => ?_
  refine yyy hn 2 [0,1] ?_
  refine ht_seq ?_
  refine ht_seq ?_
  obtain ⟨v1, hv1, h⟩:=zn h
  refine yx hn 2 ?_
  refine ys 1 ⟨lk call159 (ok_internal_stringslite_HasSuffix _ _ _ hv1)⟩ ?_
  refine yee [0,1,9] ?_
  refine ht_cond _ rfl (fun hb2 => ?_) (fun hb2 => ?_)
  ·have h:=cond_t hb2 h
   refine yyy hn 3 [4,5] ?_
   refine ht_ret ?_
   refine pt_r_then ?_
   obtain rfl:=zi h
   exact pt_ret hio rfl (.tmp _ _ (.tmp _ _ .nil)) rfl rfl
  ·have h:=cond_f hb2 h
   refine ht_skip ?_
   refine pt_then (ht_seq ?_)
   obtain ⟨v3, hv3, h⟩:=zn h
   obtain ⟨v4, hv4, h⟩:=zn h
   refine yx hn 5 ?_
   refine ys 0 ⟨lb hv3⟩ ?_
   refine yS (vs v4) 2 ⟨op_substr _ _ _ 0 v3 _ underlying9 rfl rfl ⟨_,rfl⟩ hv4⟩ ?_
   refine yee [4,5] ?_
   refine ht_ret ?_
   obtain rfl:=zi h
   exact pt_ret hio rfl (.tmp _ _ (.tmp _ _ .nil)) rfl rfl
end Go.Proofs.YtglabbpbianmnaaGreatDoor
