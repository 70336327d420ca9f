/-
  The model's runs are what is told in Lean.
-/
import Derived.Test.YtglabbpbianmnaaGreatDoorProg
import Derived.KernelRfl
import Derived.Test.YtglabbpbianmnaaGreatDoorShelf
import Derived.Test.YtglabbpbianmnaaGreatDoorIdx
import Derived.Test.YtglabbpbianmnaaGreatDoorBH
import Derived.Test.YtglabbpbianmnaaGreatDoorC1
import Derived.Test.YtglabbpbianmnaaGreatDoorOkc5
set_option linter.unusedVariables false
set_option linter.unusedSimpArgs false
set_option maxHeartbeats 1000000
namespace Go.Proofs.YtglabbpbianmnaaGreatDoor
open Go.Abs Go.Abs.Sh Tryz
open List (map flatten)
open Value (int)
theorem ok_bundle_Pack (mx:Int) (l:(List T_Mail)) (origin:Int) (number:Int) (r:(Int×Int)) (h:Sh.bundle_Pack l origin number=some r):FnG Tryz.prog (GL mx) 17 [.fr .shr true 8 (flatten (map T_Mail.ienc l)), .v (.int .i64 origin), .v (.int .i64 number)] (.tup [.v (.int .i64 r.1), .v (.int .i64 r.2)]):=by
  unfold Sh.bundle_Pack at h
  refine yG 51 func17 fun g0 hn hio => ?_
  refine yyy hn 2 [0,1,2,51] ?_
  refine yyy hn 1 [0,1,2,51,8] ?_
  refine ht_seq ?_
  refine ht_seq ?_
  obtain ⟨v1, hv1, h⟩:=zn h
  obtain ⟨v2, hv2, h⟩:=zn h
  refine yx hn 3 ?_
  refine yS (vi v1) 0 ⟨(Option.some.inj hv1) ▸ op_min _ _ _ _ rfl rfl⟩ ?_
  refine yS (.fr .shr true 8 (flatten (map T_Mail.ienc v2))) 2 ⟨op_slice_fr _ _ (Int.toNat 0) (Int.toNat v1) _ underlying22 sz46 (by decide) rfl rfl rfl ⟨_,congrArg (fun j=>AV.v (int .i64 j)) (sli_bd hv2).2.1⟩ (sli_bd hv2).2.2.1 (by rw [gflat_len T_Mail.ilen]; exact Nat.mul_le_mul_right _ (sli_bd hv2).2.2.2) (gflat_sli T_Mail.ilen hv2)⟩ ?_
  refine yee [1,2,51,8,18,19,20] ?_
  refine ht_sub (fs:=[(1,vi origin),(2,vi number),(51,.glob (GL mx)),(8,.fr (.own 46) true 8 (flatten (map T_Mail.ienc []))),(18,.fr .shr true 8 (flatten (map T_Mail.ienc v2))),(19,vi (v2.length:Int)),(20,vi 0)]) (.same _ (.same _ (.same _ (.sub _ (sub_nil_fr 46 true 8) rfl (.same _ (.same _ (.same _ .nil))))))) ?_
  refine ht_loopS h (fun ((s11,s12):(List T_Mail)×Int)=>[(1,vi origin),(2,vi number),(51,.glob (GL mx)),(8,.fr (.own 46) true 8 (flatten (map T_Mail.ienc s11))),(18,.fr .shr true 8 (flatten (map T_Mail.ienc v2))),(19,vi (v2.length:Int)),(20,vi s12)]) (fun (s14:(List T_Mail))=>[(1,vi origin),(2,vi number),(51,.glob (GL mx)),(8,.fr (.own 46) true 8 (flatten (map T_Mail.ienc s14)))]) ?_ ?_
  ·rintro s14 h
   refine pt_then (ht_seq ?_)
   refine yyy hn 3 [1,2,51,8,11] ?_
   refine ht_frz 3 hio (es':=[(1, .v (.int .i64 origin)), (2, .v (.int .i64 number)), (51, .glob (GL mx)), (8, .fr .ro true 8 (flatten (map T_Mail.ienc s14))), (11, .v (.int .i64 (s14.length:Int)))]) rfl ?_
   refine ht_loopS h (fun ((s31,s32):(List T_Mail)×Int)=>[(1,vi origin),(2,vi number),(51,.glob (GL mx)),(8,.fr .ro true 8 (flatten (map T_Mail.ienc s31))),(11,vi s32)]) (fun (():Unit)=>[(51,.glob (GL mx))]) ?_ ?_
   ·rintro ⟨⟩ h
    refine pt_then ?_
    refine yyy hn 2 [51,6,7] ?_
    refine ht_ret ?_
    refine pt_pick [1,2] (by kernel_rfl) (es':=[(_,_),(_,_)]) rfl ?_
    obtain rfl:=zi h
    exact pt_ret hio rfl (.tmp _ _ (.tmp _ _ .nil)) rfl rfl
   ·rintro u35 hl36 hr37 ⟨s31, s32⟩ rr40 h ho38
    refine ht_seq ?_
    refine yyy hn 2 [1,2,51,8,11,35] ?_
    refine ht_cond _ rfl (fun hb41 => ?_) (fun hb41 => ?_)
    ·have h:=cond_t hb41 h
     refine ht_skip ?_
     refine pt_then (ht_seq ?_)
     refine ht_block ?_
     refine ht_seq ?_
     obtain ⟨v23, hv23, h⟩:=zn h
     obtain ⟨v24, hv24, h⟩:=zn h
     refine yx hn 4 ?_
     refine yS (.fr .ro true 8 (flatten (map T_Mail.ienc v23))) 0 ⟨op_slice_fr _ _ (Int.toNat 0) (Int.toNat s32) _ underlying22 sz46 (by decide) rfl rfl rfl ⟨_,congrArg (fun j=>AV.v (int .i64 j)) (sli_bd hv23).2.1⟩ (sli_bd hv23).2.2.1 (by rw [gflat_len T_Mail.ilen]; exact Nat.mul_le_mul_right _ (sli_bd hv23).2.2.2) (gflat_sli T_Mail.ilen hv23)⟩ ?_
     refine yS (.agg [vi origin,vi number,.fr .ro true 8 (flatten (map T_Mail.ienc v23))]) 0 ⟨op_build _ _ _ _ [1,1,1] _ _ underlying24 zr24 (fs24 _ underlying24) (.copy _ (.copy _ (.copy _ Src.nil))) rfl rfl rfl⟩ ?_
     refine ys 0 ⟨lg call13 (ok_bundle_Bytes _ _ _ hv24) 51⟩ ?_
     refine ym 0 ?_
     refine yx_ 1 ?_
     refine ya 1 ?_
     refine yee [1,2,51,8,11,13] ?_
     refine yyy hn 2 [1,2,51,8,11,49] ?_
     refine ht_cond _ rfl (fun hb42 => ?_) (fun hb42 => ?_)
     ·have h:=cond_t hb42 h
      refine yyy hn 3 [51,6,7] ?_
      refine ht_ret ?_
      refine pt_pick [1,2] (by kernel_rfl) (es':=[(_,_),(_,_)]) rfl ?_
      refine pt_r_in ?_
      refine pt_r_then ?_
      refine pt_r_then ?_
      refine pt_r_in ?_
      refine pt_r_then ?_
      have h:=hr37 _ (ho38 _ (zi h).symm).symm
      obtain rfl:=zi h
      exact pt_ret hio rfl (.tmp _ _ (.tmp _ _ .nil)) rfl rfl
     ·have h:=cond_f hb42 h
      refine ht_skip ?_
      refine pt_inb ?_
      refine pt_then ?_
      obtain ⟨v26, hv26, h⟩:=zn h
      refine yx hn 1 ?_
      refine ys 0 ⟨lb hv26⟩ ?_
      refine yw [11] 1 ?_
      refine ye [1,2,51,8,11] ?_
      exact pt_next _ (zi h).symm rfl
    ·have h:=cond_f hb41 h
     refine ht_exit ?_
     refine pt_x_then ?_
     refine pt_x_then ?_
     refine pt_x_in ?_
     refine pt_pick [2] (by kernel_rfl) (es':=[(_,_)]) rfl ?_
     exact hl36 _ (ho38 _ (zi h).symm).symm
  ·rintro u15 hl16 hr17 ⟨s11, s12⟩ rr20 h ho18
   refine yyy hn 1 [1,2,51,8,18,19,20,21] ?_
   refine ht_seq ?_
   refine ht_cond _ rfl (fun hb21 => ?_) (fun hb21 => ?_)
   ·have h:=cond_t hb21 h
    refine ht_skip ?_
    refine pt_then (ht_seq ?_)
    refine ht_block ?_
    refine ht_seq ?_
    obtain ⟨v4, hv4, h⟩:=zn h
    obtain ⟨v5, hv5, h⟩:=zn h
    refine yx hn 0 ?_
    refine ys 0 ⟨lI hv4⟩ ?_
    refine yS (.agg (T_Mail.c v5 [])) 0 ⟨op_loadA_fr _ _ _ _ _ _ _ _ underlying46 rfl sz46 rfl rfl (gflat_get T_Mail.ilen hv5) (.cons (.v _) (.cons (.v _) (.cons (.v _) (.cons (.fl _ _ rfl) (.cons (.fl _ _ rfl) (.cons (.v _) (.cons (.v _) (.cons (.v _) (.nil))))))))) rfl (by decide)⟩ ?_
    refine yS (.box 46 [vb false,vs z0,vs z0,vz,vz,vb false,vs z0,vi 0]) 1 ⟨oA (op_alloc _ _ zr46)⟩ ?_
    refine yee [1,2,51,8,18,19,20,10] ?_
    refine yyy hn 6 [1,2,51,8,18,19,20,10] ?_
    obtain ⟨v6, hv6, h⟩:=zn h
    refine yx hn 0 ?_
    refine ym 1 ?_
    refine yS (.fr (.own 46) true 8 (flatten (map T_Mail.ienc ([(T_Mail.mk (T_Path.mk v5.From.Null v5.From.Local v5.From.Domain) v5.To v5.Body false z0 0)])))) 0 ⟨op_build1_fr _ _ _ 8 (.agg #[.bool false,.string ByteArray.empty,.string ByteArray.empty,.slice none 0 0,.slice none 0 0,.bool false,.string ByteArray.empty,.int .i64 0]) true _ _ underlying22 sz46 zr46 rfl rfl (.cons (.v _) (.cons (.v _) (.cons (.v _) (.cons (.shr _ _ rfl rfl) (.cons (.shr _ _ rfl rfl) (.cons (.v _) (.cons (.v _) (.cons (.v _) (.nil))))))))) rfl (by decide) (by decide)⟩ ?_
    refine yk [27] [29] ?_
    refine ytt (27,.any) (30,.fr (.own 46) true 8 (flatten (map T_Mail.ienc v6))) 0 ⟨op_app_fr _ _ _ _ _ el22 rfl rfl (gflat_len T_Mail.ilen _) (gflat_len T_Mail.ilen _) hv6 (gflat_app (app_eq hv6)) (by decide) (by decide)⟩ ?_
    refine ya 0 ?_
    refine ye [1,2,51,18,19,20,8] ?_
    refine pt_inb ?_
    refine pt_then ?_
    obtain ⟨v7, hv7, h⟩:=zn h
    refine yx hn 0 ?_
    refine ys 0 ⟨lb hv7⟩ ?_
    refine yw [20] 1 ?_
    refine ye [1,2,51,18,19,8,20] ?_
    refine pt_pick [0,1,2,5,3,4,6] (by kernel_rfl) (es':=[(_,_),(_,_),(_,_),(_,_),(_,_),(_,_),(_,_)]) rfl ?_
    exact pt_next _ (zi h).symm rfl
   ·have h:=cond_f hb21 h
    refine ht_exit ?_
    refine pt_x_then ?_
    refine pt_x_then ?_
    refine pt_x_in ?_
    refine pt_pick [0,1,2,3] (by kernel_rfl) (es':=[(_,_),(_,_),(_,_),(_,_)]) rfl ?_
    exact hl16 _ (ho18 _ (zi h).symm).symm
theorem ok_wherrykeep_Path (a:T_Path) (b:T_Path) (r:Bool) (h:Sh.wherrykeep_Path a b=some r):FnOK Tryz.prog 45 [.agg [.v (.bool a.Null), .v (.string a.Local), .v (.string a.Domain)], .agg [.v (.bool b.Null), .v (.string b.Local), .v (.string b.Domain)]] (.v (.bool r)):=by
  unfold Sh.wherrykeep_Path at h
  refine yO 24 func45 fun g0 hn hio => ?_
  refine yyy hn 3 [2,3] ?_
  refine ht_seq ?_
  refine ht_joinS h (fun (s2:Bool)=>[(4,vb s2)]) ?_ ?_
  ·rintro s2 h
   refine pt_then (ht_ret ?_)
   obtain rfl:=zi h
   exact pt_ret hio rfl (.tmp _ _ .nil) rfl rfl
  ·intro u3 h hl4 hr5
   obtain ⟨v1, hv1, h⟩:=zn h
   refine cond_some h (fun hg1_5 h => ?_) (fun hg1_5 h => ?_)
   ·refine cond_some h (fun hg1_12 h => ?_) (fun hg1_12 h => ?_)
    ·refine yx hn 4 ?_
     refine yS (vb (a.Null==b.Null)) 1 ⟨op_beq _ _ _ _ underlying4 rfl rfl⟩ ?_
     refine yd hg1_5 7 ?_
     refine yd hg1_12 7 ?_
     refine ye [4] ?_
     exact hl4 _ (zi h).symm
    ·refine yx hn 4 ?_
     refine yS (vb (a.Null==b.Null)) 1 ⟨op_beq _ _ _ _ underlying4 rfl rfl⟩ ?_
     refine yd hg1_5 7 ?_
     refine yd hg1_12 7 ?_
     refine ye [4] ?_
     exact hl4 _ (zi h).symm
   ·refine yx hn 4 ?_
    refine yS (vb (a.Null==b.Null)) 1 ⟨op_beq _ _ _ _ underlying4 rfl rfl⟩ ?_
    refine yd hg1_5 14 ?_
    refine ye [4] ?_
    exact hl4 _ (zi h).symm
theorem ok_wherrykeep_Paths (a:(List T_Path)) (b:(List T_Path)) (r:Bool) (h:Sh.wherrykeep_Paths a b=some r):FnOK Tryz.prog 46 [.fl .shr 3 (flatten (map T_Path.enc a)), .fl .shr 3 (flatten (map T_Path.enc b))] (.v (.bool r)):=by
  unfold Sh.wherrykeep_Paths at h
  refine yO 27 func46 fun g0 hn hio => ?_
  refine yyy hn 1 [0,1] ?_
  refine ht_seq ?_
  refine yyy hn 5 [0,1,10] ?_
  refine ht_cond _ rfl (fun hb1 => ?_) (fun hb1 => ?_)
  ·have h:=cond_t hb1 h
   refine yyy hn 1 [4] ?_
   refine ht_ret ?_
   refine pt_r_then ?_
   obtain rfl:=zi h
   exact pt_ret hio rfl (.tmp _ _ .nil) rfl rfl
  ·have h:=cond_f hb1 h
   refine ht_skip ?_
   refine pt_then (ht_seq ?_)
   refine yyy hn 1 [0,1,5] ?_
   refine ht_loopS h (fun (s13:Int)=>[(0,.fl .shr 3 (flatten (map T_Path.enc a))),(1,.fl .shr 3 (flatten (map T_Path.enc b))),(5,vi s13)]) (fun (():Unit)=>[]) ?_ ?_
   ·rintro ⟨⟩ h
    refine pt_then ?_
    refine yyy hn 1 [4] ?_
    refine ht_ret ?_
    obtain rfl:=zi h
    exact pt_ret hio rfl (.tmp _ _ .nil) rfl rfl
   ·rintro u16 hl17 hr18 s13 rr21 h ho19
    refine ht_seq ?_
    refine yyy hn 4 [0,1,5,14] ?_
    refine ht_cond _ rfl (fun hb22 => ?_) (fun hb22 => ?_)
    ·have h:=cond_t hb22 h
     refine ht_skip ?_
     refine pt_then (ht_seq ?_)
     refine ht_block ?_
     refine ht_seq ?_
     obtain ⟨v3, hv3, h⟩:=zn h
     obtain ⟨v4, hv4, h⟩:=zn h
     obtain ⟨v5, hv5, h⟩:=zn h
     obtain ⟨v6, hv6, h⟩:=zn h
     obtain ⟨v7, hv7, h⟩:=zn h
     refine wb [[0],[5]] ?_
     refine wN [17,18] ?_
     refine wo [] ⟨lj hv3⟩ ?_
     refine wN [19,17] ?_
     refine wS (.agg [vb v4.Null,vs v4.Local,vs v4.Domain]) [[1],[5]] ⟨op_load_eA _ _ _ _ _ _ _ underlying43 rfl sz43 rfl rfl (flat_get T_Path.len hv4) rfl (by decide)⟩ ?_
     refine wN [21,22] ?_
     refine wo [] ⟨lj hv5⟩ ?_
     refine wN [23,21] ?_
     refine wS (.agg [vb v6.Null,vs v6.Local,vs v6.Domain]) [] ⟨op_load_eA _ _ _ _ _ _ _ underlying43 rfl sz43 rfl rfl (flat_get T_Path.len hv6) rfl (by decide)⟩ ?_
     refine wN [20,24] ?_
     refine wo [[25]] ⟨lk call45 (ok_wherrykeep_Path _ _ _ hv7)⟩ ?_
     refine wee hn [0,1,5,26] ?_
     refine ht_cond _ rfl (fun hb23 => ?_) (fun hb23 => ?_)
     ·have h:=cond_t hb23 h
      refine yyy hn 1 [4] ?_
      refine ht_ret ?_
      refine pt_r_in ?_
      refine pt_r_then ?_
      refine pt_r_then ?_
      refine pt_r_in ?_
      refine pt_r_then ?_
      have h:=hr18 _ (ho19 _ (zi h).symm).symm
      obtain rfl:=zi h
      exact pt_ret hio rfl (.tmp _ _ .nil) rfl rfl
     ·have h:=cond_f hb23 h
      refine ht_skip ?_
      refine pt_inb ?_
      refine pt_then ?_
      obtain ⟨v9, hv9, h⟩:=zn h
      refine yx hn 1 ?_
      refine ys 0 ⟨lb hv9⟩ ?_
      refine yw [5] 1 ?_
      refine ye [0,1,5] ?_
      exact pt_next _ (zi h).symm rfl
    ·have h:=cond_f hb22 h
     refine ht_exit ?_
     refine pt_x_then ?_
     refine pt_x_then ?_
     refine pt_x_in ?_
     refine pt_pick [] (by kernel_rfl) (es':=[]) rfl ?_
     exact hl17 _ (ho19 _ (zi h).symm).symm
theorem ok_wherrykeep_Mail (a:T_Mail) (b:T_Mail) (r:Bool) (h:Sh.wherrykeep_Mail a b=some r):FnOK Tryz.prog 23 [.agg [.v (.bool a.From.Null), .v (.string a.From.Local), .v (.string a.From.Domain), .fl .shr 3 (flatten (map T_Path.enc a.To)), .fl .shr 1 (map (int .u8) a.Body), .v (.bool a.Quiet), .v (.string a.Helo), .v (.int .i64 a.At)], .agg [.v (.bool b.From.Null), .v (.string b.From.Local), .v (.string b.From.Domain), .fl .shr 3 (flatten (map T_Path.enc b.To)), .fl .shr 1 (map (int .u8) b.Body), .v (.bool b.Quiet), .v (.string b.Helo), .v (.int .i64 b.At)]] (.v (.bool r)):=by
  unfold Sh.wherrykeep_Mail at h
  refine yO 45 func23 fun g0 hn hio => ?_
  refine yyy hn 3 [2,3] ?_
  refine ht_seq ?_
  refine ht_joinS h (fun (s5:Bool)=>[(4,vb s5)]) ?_ ?_
  ·rintro s5 h
   refine pt_then (ht_ret ?_)
   obtain rfl:=zi h
   exact pt_ret hio rfl (.tmp _ _ .nil) rfl rfl
  ·intro u6 h hl7 hr8
   obtain ⟨v1, hv1, h⟩:=zn h
   refine cond_some h (fun hg1_5 h => ?_) (fun hg1_5 h => ?_)
   ·obtain ⟨v2, hv2, h⟩:=zn h
    refine cond_some h (fun hg1_12 h => ?_) (fun hg1_12 h => ?_)
    ·obtain ⟨v3, hv3, h⟩:=zn h
     refine cond_some h (fun hg1_19 h => ?_) (fun hg1_19 h => ?_)
     ·obtain ⟨v4, hv4, h⟩:=zn h
      refine cond_some h (fun hg1_26 h => ?_) (fun hg1_26 h => ?_)
      ·refine cond_some h (fun hg1_33 h => ?_) (fun hg1_33 h => ?_)
       ·refine yx hn 4 ?_
        refine ys 1 ⟨lk call45 (ok_wherrykeep_Path _ _ _ hv1)⟩ ?_
        refine yd hg1_5 4 ?_
        refine ys 2 ⟨lk call46 (ok_wherrykeep_Paths _ _ _ hv2)⟩ ?_
        refine yd hg1_12 4 ?_
        refine ys 2 ⟨lk call21 (ok_wherrykeep_Bytes _ _ _ hv3)⟩ ?_
        refine yd hg1_19 4 ?_
        refine yS (vb (a.Quiet==b.Quiet)) 2 ⟨op_beq _ _ _ _ underlying4 rfl rfl⟩ ?_
        refine yd hg1_26 7 ?_
        refine yd hg1_33 7 ?_
        refine ye [4] ?_
        exact hl7 _ (zi h).symm
       ·refine yx hn 4 ?_
        refine ys 1 ⟨lk call45 (ok_wherrykeep_Path _ _ _ hv1)⟩ ?_
        refine yd hg1_5 4 ?_
        refine ys 2 ⟨lk call46 (ok_wherrykeep_Paths _ _ _ hv2)⟩ ?_
        refine yd hg1_12 4 ?_
        refine ys 2 ⟨lk call21 (ok_wherrykeep_Bytes _ _ _ hv3)⟩ ?_
        refine yd hg1_19 4 ?_
        refine yS (vb (a.Quiet==b.Quiet)) 2 ⟨op_beq _ _ _ _ underlying4 rfl rfl⟩ ?_
        refine yd hg1_26 7 ?_
        refine yd hg1_33 7 ?_
        refine ye [4] ?_
        exact hl7 _ (zi h).symm
      ·refine yx hn 4 ?_
       refine ys 1 ⟨lk call45 (ok_wherrykeep_Path _ _ _ hv1)⟩ ?_
       refine yd hg1_5 4 ?_
       refine ys 2 ⟨lk call46 (ok_wherrykeep_Paths _ _ _ hv2)⟩ ?_
       refine yd hg1_12 4 ?_
       refine ys 2 ⟨lk call21 (ok_wherrykeep_Bytes _ _ _ hv3)⟩ ?_
       refine yd hg1_19 4 ?_
       refine yS (vb (a.Quiet==b.Quiet)) 2 ⟨op_beq _ _ _ _ underlying4 rfl rfl⟩ ?_
       refine yd hg1_26 14 ?_
       refine ye [4] ?_
       exact hl7 _ (zi h).symm
     ·refine yx hn 4 ?_
      refine ys 1 ⟨lk call45 (ok_wherrykeep_Path _ _ _ hv1)⟩ ?_
      refine yd hg1_5 4 ?_
      refine ys 2 ⟨lk call46 (ok_wherrykeep_Paths _ _ _ hv2)⟩ ?_
      refine yd hg1_12 4 ?_
      refine ys 2 ⟨lk call21 (ok_wherrykeep_Bytes _ _ _ hv3)⟩ ?_
      refine yd hg1_19 21 ?_
      refine ye [4] ?_
      exact hl7 _ (zi h).symm
    ·refine yx hn 4 ?_
     refine ys 1 ⟨lk call45 (ok_wherrykeep_Path _ _ _ hv1)⟩ ?_
     refine yd hg1_5 4 ?_
     refine ys 2 ⟨lk call46 (ok_wherrykeep_Paths _ _ _ hv2)⟩ ?_
     refine yd hg1_12 28 ?_
     refine ye [4] ?_
     exact hl7 _ (zi h).symm
   ·refine yx hn 4 ?_
    refine ys 1 ⟨lk call45 (ok_wherrykeep_Path _ _ _ hv1)⟩ ?_
    refine yd hg1_5 35 ?_
    refine ye [4] ?_
    exact hl7 _ (zi h).symm
theorem ok_wherrykeep_Bundle (a:T_Bundle) (b:T_Bundle) (r:Bool) (h:Sh.wherrykeep_Bundle a b=some r):FnOK Tryz.prog 22 [.agg [.v (.int .i64 a.Origin), .v (.int .i64 a.Number), .fr .shr true 8 (flatten (map T_Mail.ienc a.Mails))], .agg [.v (.int .i64 b.Origin), .v (.int .i64 b.Number), .fr .shr true 8 (flatten (map T_Mail.ienc b.Mails))]] (.v (.bool r)):=by
  unfold Sh.wherrykeep_Bundle at h
  refine yO 46 func22 fun g0 hn hio => ?_
  refine yyy hn 3 [2,3] ?_
  refine ht_seq ?_
  refine ht_seq ?_
  refine ht_joinS h (fun (s1:Bool)=>[(2,.box 24 [vi a.Origin,vi a.Number,.fr .shr true 8 (flatten (map T_Mail.ienc a.Mails))]),(3,.box 24 [vi b.Origin,vi b.Number,.fr .shr true 8 (flatten (map T_Mail.ienc b.Mails))]),(26,vb s1)]) ?_ ?_
  ·rintro s1 h
   refine pt_then ?_
   refine ht_cond _ rfl (fun hb5 => ?_) (fun hb5 => ?_)
   ·have h:=cond_t hb5 h
    refine yyy hn 1 [4] ?_
    refine ht_ret ?_
    refine pt_r_then ?_
    obtain rfl:=zi h
    exact pt_ret hio rfl (.tmp _ _ .nil) rfl rfl
   ·have h:=cond_f hb5 h
    refine ht_skip ?_
    refine pt_then (ht_seq ?_)
    refine yyy hn 1 [2,3,5] ?_
    refine ht_loopS h (fun (s17:Int)=>[(2,.box 24 [vi a.Origin,vi a.Number,.fr .shr true 8 (flatten (map T_Mail.ienc a.Mails))]),(3,.box 24 [vi b.Origin,vi b.Number,.fr .shr true 8 (flatten (map T_Mail.ienc b.Mails))]),(5,vi s17)]) (fun (():Unit)=>[]) ?_ ?_
    ·rintro ⟨⟩ h
     refine pt_then ?_
     refine yyy hn 1 [4] ?_
     refine ht_ret ?_
     obtain rfl:=zi h
     exact pt_ret hio rfl (.tmp _ _ .nil) rfl rfl
    ·rintro u20 hl21 hr22 s17 rr25 h ho23
     refine ht_seq ?_
     refine yyy hn 5 [2,3,5,31] ?_
     refine ht_cond _ rfl (fun hb26 => ?_) (fun hb26 => ?_)
     ·have h:=cond_t hb26 h
      refine ht_skip ?_
      refine pt_then (ht_seq ?_)
      refine ht_block ?_
      refine ht_seq ?_
      obtain ⟨v7, hv7, h⟩:=zn h
      obtain ⟨v8, hv8, h⟩:=zn h
      obtain ⟨v9, hv9, h⟩:=zn h
      obtain ⟨v10, hv10, h⟩:=zn h
      obtain ⟨v11, hv11, h⟩:=zn h
      refine wb [[2],[34,2],[5]] ?_
      refine wN [35,36] ?_
      refine wo [] ⟨lI hv7⟩ ?_
      refine wN [37,35] ?_
      refine wS (.agg (T_Mail.c v8 [])) [[3],[39,3],[5]] ⟨op_loadA_fr _ _ _ _ _ _ _ _ underlying46 rfl sz46 rfl rfl (gflat_get T_Mail.ilen hv8) (.cons (.v _) (.cons (.v _) (.cons (.v _) (.cons (.fl _ _ rfl) (.cons (.fl _ _ rfl) (.cons (.v _) (.cons (.v _) (.cons (.v _) (.nil))))))))) rfl (by decide)⟩ ?_
      refine wN [40,41] ?_
      refine wo [] ⟨lI hv9⟩ ?_
      refine wN [42,40] ?_
      refine wS (.agg (T_Mail.c v10 [])) [] ⟨op_loadA_fr _ _ _ _ _ _ _ _ underlying46 rfl sz46 rfl rfl (gflat_get T_Mail.ilen hv10) (.cons (.v _) (.cons (.v _) (.cons (.v _) (.cons (.fl _ _ rfl) (.cons (.fl _ _ rfl) (.cons (.v _) (.cons (.v _) (.cons (.v _) (.nil))))))))) rfl (by decide)⟩ ?_
      refine wN [38,43] ?_
      refine wo [[44]] ⟨lk call23 (ok_wherrykeep_Mail _ _ _ hv11)⟩ ?_
      refine wee hn [2,3,5,45] ?_
      refine ht_cond _ rfl (fun hb27 => ?_) (fun hb27 => ?_)
      ·have h:=cond_t hb27 h
       refine yyy hn 1 [4] ?_
       refine ht_ret ?_
       refine pt_r_in ?_
       refine pt_r_then ?_
       refine pt_r_then ?_
       refine pt_r_in ?_
       refine pt_r_then ?_
       have h:=hr22 _ (ho23 _ (zi h).symm).symm
       obtain rfl:=zi h
       exact pt_ret hio rfl (.tmp _ _ .nil) rfl rfl
      ·have h:=cond_f hb27 h
       refine ht_skip ?_
       refine pt_inb ?_
       refine pt_then ?_
       obtain ⟨v13, hv13, h⟩:=zn h
       refine yx hn 1 ?_
       refine ys 0 ⟨lb hv13⟩ ?_
       refine yw [5] 1 ?_
       refine ye [2,3,5] ?_
       exact pt_next _ (zi h).symm rfl
     ·have h:=cond_f hb26 h
      refine ht_exit ?_
      refine pt_x_then ?_
      refine pt_x_then ?_
      refine pt_x_in ?_
      refine pt_pick [] (by kernel_rfl) (es':=[]) rfl ?_
      exact hl21 _ (ho23 _ (zi h).symm).symm
  ·intro u2 h hl3 hr4
   refine cond_some h (fun hg1_5 h => ?_) (fun hg1_5 h => ?_)
   ·refine yx hn 6 ?_
    refine yd hg1_5 15 ?_
    refine ye [2,3,26] ?_
    exact hl3 _ (zi h).symm
   ·refine cond_some h (fun hg1_12 h => ?_) (fun hg1_12 h => ?_)
    ·refine yx hn 6 ?_
     refine yd hg1_5 7 ?_
     refine yd hg1_12 8 ?_
     refine ye [2,3,26] ?_
     exact hl3 _ (zi h).symm
    ·refine yx hn 6 ?_
     refine yd hg1_5 7 ?_
     refine yd hg1_12 8 ?_
     refine ye [2,3,26] ?_
     exact hl3 _ (zi h).symm
theorem ok_wherrylaw17_wakes (mx:Int) (r:Bool) (h:Sh.wherrylaw17_wakes  = some r):FnG Tryz.prog (GL mx) 25 [] (.v (.bool r)):=by
  unfold Sh.wherrylaw17_wakes at h
  refine yG 60 func25 fun g0 hn hio => ?_
  refine yyy hn 1 [60] ?_
  refine yxx hn 0 ?_
  refine yS (.agg [vb true,vs z0,vs z0]) 0 ⟨op_build _ _ _ _ [1,1,1] _ _ underlying43 zr43 (fs43 _ underlying43) (.copy _ Src.nil) rfl rfl rfl⟩ ?_
  refine yS (.agg [vb false,vs (⟨#[97]⟩:ByteArray),vs (⟨#[98]⟩:ByteArray)]) 0 ⟨op_build _ _ _ _ [1,1,1] _ _ underlying43 zr43 (fs43 _ underlying43) (.copy _ (.copy _ Src.nil)) rfl rfl rfl⟩ ?_
  refine yS (.fl (.own 43) 3 (flatten (map T_Path.enc ([(T_Path.mk false (⟨#[97]⟩:ByteArray) (⟨#[98]⟩:ByteArray))])))) 0 ⟨op_buildSlice _ _ 3 (.agg #[.bool false,.string ByteArray.empty,.string ByteArray.empty]) (flatten (map T_Path.enc ([(T_Path.mk false (⟨#[97]⟩:ByteArray) (⟨#[98]⟩:ByteArray))]))) [(0,.agg #[.bool false,.string (⟨#[97]⟩:ByteArray),.string (⟨#[98]⟩:ByteArray)])] underlying44 sz43 zr43 (fun _ V w o a hv hes=>by have e0:=agg_v (ys:=[.bool false,.string (⟨#[97]⟩:ByteArray),.string (⟨#[98]⟩:ByteArray)]) hv hes (x := .tmp 9) rfl; simp only [List.map_toArray,List.map_cons,List.map_nil,e0]; try rfl) (litfill (by simp [Instr.fill,Value.cells]; rfl) (by simp [List.range,List.range.loop,T_Path.enc] <;> rfl)) (by simp [Value.oneCell',T_Path.enc]) rfl (by decide) (by decide) (by decide)⟩ ?_
  refine yk [10] [8] ?_
  refine yt (11,.agg [vb true,vs z0,vs z0,.fl (.own 43) 3 (flatten (map T_Path.enc ([(T_Path.mk false (⟨#[97]⟩:ByteArray) (⟨#[98]⟩:ByteArray))]))),vz,vb false,vs z0,vi 0]) 0 ⟨op_build _ _ _ _ [3,1,1,1,1,1] _ _ underlying46 zr46 (fs46 _ underlying46) (.copy _ (.take _ _ Src.nil)) rfl rfl rfl⟩ ?_
  refine yk [11] [] ?_
  refine yt (12,.fr (.own 46) false 8 (flatten (map T_Mail.ienc ([(T_Mail.mk ((T_Path.mk true z0 z0)) ([(T_Path.mk false (⟨#[97]⟩:ByteArray) (⟨#[98]⟩:ByteArray))]) [] false z0 0)])))) 0 ⟨op_build1_fr_take _ _ _ 8 (.agg #[.bool false,.string ByteArray.empty,.string ByteArray.empty,.slice none 0 0,.slice none 0 0,.bool false,.string ByteArray.empty,.int .i64 0]) false _ _ underlying22 sz46 zr46 rfl (.cons (.v _) (.cons (.v _) (.cons (.v _) (.cons (.ro _ _ rfl) (.cons (.nil 1) (.cons (.v _) (.cons (.v _) (.cons (.v _) (.nil))))))))) rfl (by decide) (by decide)⟩ ?_
  refine yk [12] [] ?_
  refine yt (13,.agg [vi 0,vi 1,.fr (.own 46) false 8 (flatten (map T_Mail.ienc ([(T_Mail.mk ((T_Path.mk true z0 z0)) ([(T_Path.mk false (⟨#[97]⟩:ByteArray) (⟨#[98]⟩:ByteArray))]) [] false z0 0)])))]) 0 ⟨op_build _ _ _ _ [1,1,1] _ _ underlying24 zr24 (fs24 _ underlying24) (.copy _ (.take _ _ Src.nil)) rfl rfl rfl⟩ ?_
  refine yS (.box 24 [vi 0,vi 0,vz]) 0 ⟨oA (op_alloc _ _ zr24)⟩ ?_
  refine yk [13,1] [] ?_
  refine yt (1,.box 24 [vi 0,vi 1,.fr (.own 46) false 8 (flatten (map T_Mail.ienc ([(T_Mail.mk ((T_Path.mk true z0 z0)) ([(T_Path.mk false (⟨#[97]⟩:ByteArray) (⟨#[98]⟩:ByteArray))]) [] false z0 0)])))]) 0 ⟨op_store_take _ _ _ _ _ _ _ _ sz24 rfl rfl rfl (zl rfl) rfl rfl⟩ ?_
  refine yee [60,1] ?_
  refine ht_seq ?_
  obtain ⟨v1, hv1, h⟩:=zn h
  refine yx hn 1 ?_
  refine ys 0 ⟨lg call13 (ok_bundle_Bytes _ _ _ hv1) 60⟩ ?_
  refine ym 0 ?_
  refine yx_ 1 ?_
  refine ya 1 ?_
  refine yee [60,1,2,3] ?_
  refine ht_seq ?_
  refine ht_frz 2 hio (es':=[(60, .glob (GL mx)), (1, .box 24 [.v (.int .i64 0),.v (.int .i64 1),.fr (.own 46) false 8 (flatten (map T_Mail.ienc ([(T_Mail.mk ((T_Path.mk true (⟨#[]⟩:ByteArray) (⟨#[]⟩:ByteArray))) ([(T_Path.mk false (⟨#[97]⟩:ByteArray) (⟨#[98]⟩:ByteArray))]) [] false (⟨#[]⟩:ByteArray) 0)])))]), (2, .fl .ro 1 (map (int .u8) v1.1)), (3, .v (.int .i64 v1.2))]) rfl ?_
  obtain ⟨v2, hv2, h⟩:=zn h
  refine yx hn 1 ?_
  refine yS (.tup [.agg [vi v2.1.Origin,vi v2.1.Number,.fr (.own 46) false 8 (flatten (map T_Mail.ienc v2.1.Mails))],vi v2.2]) 0 ⟨op_callRG _ _ 60 15 _ _ rfl call15 rfl rfl (fun _ h=>h) (ok_bundle_Read_ro mx v1.1 _ hv2) rfl rfl⟩ ?_
  refine ym 0 ?_
  refine yx_ 1 ?_
  refine yS (.box 24 [vi 0,vi 0,vz]) 0 ⟨oA (op_alloc _ _ zr24)⟩ ?_
  refine yk [22,4] [] ?_
  refine yt (4,.box 24 [vi v2.1.Origin,vi v2.1.Number,.fr (.own 46) false 8 (flatten (map T_Mail.ienc v2.1.Mails))]) 1 ⟨op_store_take _ _ _ _ _ _ _ _ sz24 rfl rfl rfl (zl rfl) rfl rfl⟩ ?_
  refine yee [60,1,2,3,4,5] ?_
  refine ht_seq ?_
  obtain ⟨v3, hv3, h⟩:=zn h
  refine yx hn 2 ?_
  refine ys 0 ⟨lg call17 (ok_bundle_Pack _ _ _ _ _ hv3) 60⟩ ?_
  refine ym 4 ?_
  refine yee [60,1,2,3,4,5,6,7] ?_
  refine ht_seq ?_
  refine ht_joinS h (fun (s7:Bool)=>[(60,.glob (GL mx)),(0,vb s7)]) ?_ ?_
  ·rintro s7 h
   refine pt_then (ht_ret ?_)
   refine pt_pick [1] (by kernel_rfl) (es':=[(_,_)]) rfl ?_
   obtain rfl:=zi h
   exact pt_ret hio rfl (.tmp _ _ .nil) rfl rfl
  ·intro u8 h hl9 hr10
   refine cond_some h (fun hg5_2 h => ?_) (fun hg5_2 h => ?_)
   ·refine cond_some h (fun hg5_6 h => ?_) (fun hg5_6 h => ?_)
    ·refine cond_some h (fun hg5_10 h => ?_) (fun hg5_10 h => ?_)
     ·obtain ⟨v4, hv4, h⟩:=zn h
      refine cond_some h (fun hg5_15 h => ?_) (fun hg5_15 h => ?_)
      ·refine cond_some h (fun hg5_19 h => ?_) (fun hg5_19 h => ?_)
       ·refine cond_some h (fun hg5_24 h => ?_) (fun hg5_24 h => ?_)
        ·obtain ⟨v5, hv5, h⟩:=zn h
         obtain ⟨v6, hv6, h⟩:=zn h
         refine yx hn 3 ?_
         refine yd hg5_2 4 ?_
         refine yd hg5_6 4 ?_
         refine yd hg5_10 0 ?_
         refine yk [4] [] ?_
         refine yt (41,.agg [vi v2.1.Origin,vi v2.1.Number,.fr (.own 46) false 8 (flatten (map T_Mail.ienc v2.1.Mails))]) 0 ⟨op_loadA_take _ _ _ _ underlying24 rfl sz24 rfl rfl⟩ ?_
         refine yk [1] [] ?_
         refine yt (42,.agg [vi 0,vi 1,.fr (.own 46) false 8 (flatten (map T_Mail.ienc ([(T_Mail.mk ((T_Path.mk true z0 z0)) ([(T_Path.mk false (⟨#[97]⟩:ByteArray) (⟨#[98]⟩:ByteArray))]) [] false z0 0)])))]) 0 ⟨op_loadA_take _ _ _ _ underlying24 rfl sz24 rfl rfl⟩ ?_
         refine ys 2 ⟨lk call22 (ok_wherrykeep_Bundle _ _ _ hv4)⟩ ?_
         refine yd hg5_15 4 ?_
         refine yd hg5_19 5 ?_
         refine yd hg5_24 1 ?_
         refine yS (.fl .ro 1 (map (int .u8) v5)) 0 ⟨op_sl _ _ _ 0 14 _ underlying25 sz5 rfl rfl rfl ⟨_,rfl⟩ hv5⟩ ?_
         refine ys 3 ⟨lS hv6⟩ ?_
         refine ye [60,0] ?_
         exact hl9 _ (zi h).symm
        ·refine yx hn 3 ?_
         refine yd hg5_2 4 ?_
         refine yd hg5_6 4 ?_
         refine yd hg5_10 0 ?_
         refine yk [4] [] ?_
         refine yt (41,.agg [vi v2.1.Origin,vi v2.1.Number,.fr (.own 46) false 8 (flatten (map T_Mail.ienc v2.1.Mails))]) 0 ⟨op_loadA_take _ _ _ _ underlying24 rfl sz24 rfl rfl⟩ ?_
         refine yk [1] [] ?_
         refine yt (42,.agg [vi 0,vi 1,.fr (.own 46) false 8 (flatten (map T_Mail.ienc ([(T_Mail.mk ((T_Path.mk true z0 z0)) ([(T_Path.mk false (⟨#[97]⟩:ByteArray) (⟨#[98]⟩:ByteArray))]) [] false z0 0)])))]) 0 ⟨op_loadA_take _ _ _ _ underlying24 rfl sz24 rfl rfl⟩ ?_
         refine ys 2 ⟨lk call22 (ok_wherrykeep_Bundle _ _ _ hv4)⟩ ?_
         refine yd hg5_15 4 ?_
         refine yd hg5_19 5 ?_
         refine yd hg5_24 6 ?_
         refine ye [60,0] ?_
         exact hl9 _ (zi h).symm
       ·refine yx hn 3 ?_
        refine yd hg5_2 4 ?_
        refine yd hg5_6 4 ?_
        refine yd hg5_10 0 ?_
        refine yk [4] [] ?_
        refine yt (41,.agg [vi v2.1.Origin,vi v2.1.Number,.fr (.own 46) false 8 (flatten (map T_Mail.ienc v2.1.Mails))]) 0 ⟨op_loadA_take _ _ _ _ underlying24 rfl sz24 rfl rfl⟩ ?_
        refine yk [1] [] ?_
        refine yt (42,.agg [vi 0,vi 1,.fr (.own 46) false 8 (flatten (map T_Mail.ienc ([(T_Mail.mk ((T_Path.mk true z0 z0)) ([(T_Path.mk false (⟨#[97]⟩:ByteArray) (⟨#[98]⟩:ByteArray))]) [] false z0 0)])))]) 0 ⟨op_loadA_take _ _ _ _ underlying24 rfl sz24 rfl rfl⟩ ?_
        refine ys 2 ⟨lk call22 (ok_wherrykeep_Bundle _ _ _ hv4)⟩ ?_
        refine yd hg5_15 4 ?_
        refine yd hg5_19 11 ?_
        refine ye [60,0] ?_
        exact hl9 _ (zi h).symm
      ·refine yx hn 3 ?_
       refine yd hg5_2 4 ?_
       refine yd hg5_6 4 ?_
       refine yd hg5_10 0 ?_
       refine yk [4] [] ?_
       refine yt (41,.agg [vi v2.1.Origin,vi v2.1.Number,.fr (.own 46) false 8 (flatten (map T_Mail.ienc v2.1.Mails))]) 0 ⟨op_loadA_take _ _ _ _ underlying24 rfl sz24 rfl rfl⟩ ?_
       refine yk [1] [] ?_
       refine yt (42,.agg [vi 0,vi 1,.fr (.own 46) false 8 (flatten (map T_Mail.ienc ([(T_Mail.mk ((T_Path.mk true z0 z0)) ([(T_Path.mk false (⟨#[97]⟩:ByteArray) (⟨#[98]⟩:ByteArray))]) [] false z0 0)])))]) 0 ⟨op_loadA_take _ _ _ _ underlying24 rfl sz24 rfl rfl⟩ ?_
       refine ys 2 ⟨lk call22 (ok_wherrykeep_Bundle _ _ _ hv4)⟩ ?_
       refine yd hg5_15 15 ?_
       refine ye [60,0] ?_
       exact hl9 _ (zi h).symm
     ·refine yx hn 3 ?_
      refine yd hg5_2 4 ?_
      refine yd hg5_6 4 ?_
      refine yd hg5_10 20 ?_
      refine ye [60,0] ?_
      exact hl9 _ (zi h).symm
    ·refine yx hn 3 ?_
     refine yd hg5_2 4 ?_
     refine yd hg5_6 24 ?_
     refine ye [60,0] ?_
     exact hl9 _ (zi h).symm
   ·refine yx hn 3 ?_
    refine yd hg5_2 28 ?_
    refine ye [60,0] ?_
    exact hl9 _ (zi h).symm
end Go.Proofs.YtglabbpbianmnaaGreatDoor
