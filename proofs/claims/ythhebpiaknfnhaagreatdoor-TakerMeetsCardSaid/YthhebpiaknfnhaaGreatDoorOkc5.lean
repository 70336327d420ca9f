/-
  The model's runs are what is told in Lean.
-/
import Derived.Test.YthhebpiaknfnhaaGreatDoorProg
import Derived.KernelRfl
import Derived.Test.YthhebpiaknfnhaaGreatDoorShelf
import Derived.Test.YthhebpiaknfnhaaGreatDoorIdx
import Derived.Test.YthhebpiaknfnhaaGreatDoorIns
import Derived.Test.YthhebpiaknfnhaaGreatDoorB1
import Derived.Test.YthhebpiaknfnhaaGreatDoorC1
import Derived.Test.YthhebpiaknfnhaaGreatDoorOkc4
set_option linter.unusedVariables false
set_option linter.unusedSimpArgs false
set_option maxHeartbeats 1000000
namespace Go.Proofs.YthhebpiaknfnhaaGreatDoor
open Go.Abs Go.Abs.Sh Tryz
open List (map flatten)
open Value (int)
theorem ok_spool_Add (mx:Int) (s:T_Spool) (p_r:T_Rec) (r:(T_Spool×Int)) (h:Sh.spool_Add s p_r=some r):FnG Tryz.prog (GL mx) 8 [.agg [.fr .shr true 11 (flatten (map T_Item.ienc s.Items)), .v (.int .i64 s.Packs), .fl .shr 1 (map (int .i64) s.Sent), .fl .shr 1 (map (int .u8) s.Part), .v (.int .i64 s.Of), .fl .shr 1 (map (int .i64) s.Done)], .agg [.v (.int .i64 p_r.Kind), .v (.bool p_r.Mail.From.Null), .v (.string p_r.Mail.From.Local), .v (.string p_r.Mail.From.Domain), .fl .shr 3 (flatten (map T_Path.enc p_r.Mail.To)), .fl .shr 1 (map (int .u8) p_r.Mail.Body), .v (.bool p_r.Mail.Quiet), .v (.string p_r.Mail.Helo), .v (.int .i64 p_r.Mail.At), .v (.int .i64 p_r.Id), .fl .shr 1 (map (int .i64) p_r.Ids), .v (.int .i64 p_r.Origin), .v (.int .i64 p_r.Number), .v (.int .i64 p_r.Offset), .fl .shr 1 (map (int .u8) p_r.Data)]] (.tup [.agg [.fr (.own 88) false 11 (flatten (map T_Item.ienc r.1.Items)), .v (.int .i64 r.1.Packs), .fl (.own 3) 1 (map (int .i64) r.1.Sent), .fl (.own 5) 1 (map (int .u8) r.1.Part), .v (.int .i64 r.1.Of), .fl (.own 3) 1 (map (int .i64) r.1.Done)], .v (.int .i64 r.2)]):=by
  unfold Sh.spool_Add at h
  refine yG 16 func8 fun g0 hn hio => ?_
  refine yxx hn 2 ?_
  refine yS (.box 33 [vz,vi 0,vz,vz,vi 0,vz]) 1 ⟨oA (op_alloc _ _ zr33)⟩ ?_
  refine yee [16,2,3,4] ?_
  refine ht_seq ?_
  refine ht_seq ?_
  obtain ⟨v1, hv1, h⟩:=zn h
  refine yx hn 2 ?_
  refine ys 1 ⟨lg call22 (ok_spool_valid _ _ _ _ hv1) 16⟩ ?_
  refine yee [16,2,3,4,9] ?_
  refine ht_cond _ rfl (fun hb2 => ?_) (fun hb2 => ?_)
  ·have h:=cond_t hb2 h
   refine yxx hn 0 ?_
   refine yS (.agg [vz,vi 0,vz,vz,vi 0,vz]) 0 ⟨op_build _ _ _ _ [1,1,1,1,1,1] _ _ underlying33 zr33 (fs33 _ underlying33) Src.nil rfl rfl rfl⟩ ?_
   refine yk [10,4] [] ?_
   refine yt (4,.box 33 [vz,vi 0,vz,vz,vi 0,vz]) 1 ⟨op_store_self _ _ _ 10 4 6 sz33 rfl rfl rfl rfl rfl (.eq _ (.eq _ (.eq _ (.eq _ (.eq _ (.eq _ (.nil _))))))) rfl⟩ ?_
   refine yee [16,4,5] ?_
   refine ht_ret ?_
   refine pt_pick [1,2] (by kernel_rfl) (es':=[(_,_),(_,_)]) rfl ?_
   refine pt_sub (fs:=[(4,.box 33 [.fr (.own 88) false 11 (flatten (map T_Item.ienc [])),vi 0,.fl (.own 3) 1 (map (int .i64) []),.fl (.own 5) 1 (map (int .u8) []),vi 0,.fl (.own 3) 1 (map (int .i64) [])]),(5,vi 5)]) (.box _ _ (subs_cons (sub_nil_fr 88 false 11) (subs_cons (sub_refl _) (subs_cons (sub_nil 3 1) (subs_cons (sub_nil 5 1) (subs_cons (sub_refl _) (subs_cons (sub_nil 3 1) (subs_nil))))))) rfl (.same _ .nil)) ?_
   refine pt_r_then ?_
   obtain rfl:=zi h
   exact pt_ret hio rfl (.cellA _ _ _ _ underlying33 rfl sz33 (.tmp _ _ .nil)) rfl rfl
  ·have h:=cond_f hb2 h
   refine ht_skip ?_
   refine pt_then (ht_seq ?_)
   obtain ⟨v3, hv3, h⟩:=zn h
   refine yx hn 1 ?_
   refine ys 0 ⟨lk call23 (ok_clone_Spool _ _ hv3)⟩ ?_
   refine yk [12,2] [] ?_
   refine yt (2,.box 33 [.fr (.own 88) false 11 (flatten (map T_Item.ienc v3.Items)),vi v3.Packs,.fl (.own 3) 1 (map (int .i64) v3.Sent),.fl (.own 5) 1 (map (int .u8) v3.Part),vi v3.Of,.fl (.own 3) 1 (map (int .i64) v3.Done)]) 0 ⟨op_store_take _ _ _ _ _ _ _ _ sz33 rfl rfl rfl (zl rfl) rfl rfl⟩ ?_
   refine yee [16,2,3,4] ?_
   refine ht_seq ?_
   obtain ⟨v4, hv4, h⟩:=zn h
   refine yx hn 1 ?_
   refine yQ call24 (ok_spool_apply _ _ _ hv4) 2 [13] 0 ?_
   refine yee [16,2,4] ?_
   refine yxx hn 0 ?_
   refine yk [2] [] ?_
   refine yt (15,.agg [.fr (.own 88) false 11 (flatten (map T_Item.ienc v4.Items)),vi v4.Packs,.fl (.own 3) 1 (map (int .i64) v4.Sent),.fl (.own 5) 1 (map (int .u8) v4.Part),vi v4.Of,.fl (.own 3) 1 (map (int .i64) v4.Done)]) 0 ⟨op_loadA_take _ _ _ _ underlying33 rfl sz33 rfl rfl⟩ ?_
   refine yk [15,4] [] ?_
   refine yt (4,.box 33 [.fr (.own 88) false 11 (flatten (map T_Item.ienc v4.Items)),vi v4.Packs,.fl (.own 3) 1 (map (int .i64) v4.Sent),.fl (.own 5) 1 (map (int .u8) v4.Part),vi v4.Of,.fl (.own 3) 1 (map (int .i64) v4.Done)]) 1 ⟨op_store_take _ _ _ _ _ _ _ _ sz33 rfl rfl rfl (zl rfl) rfl rfl⟩ ?_
   refine yee [16,4,5] ?_
   refine ht_ret ?_
   refine pt_pick [1,2] (by kernel_rfl) (es':=[(_,_),(_,_)]) rfl ?_
   obtain rfl:=zi h
   exact pt_ret hio rfl (.cellA _ _ _ _ underlying33 rfl sz33 (.tmp _ _ .nil)) rfl rfl
theorem ok_taker_Whole (s:T_Spool) (t:T_Take) (r:Bool) (h:Sh.taker_Whole s t=some r):FnOK Tryz.prog 9 [.agg [.fr .shr true 11 (flatten (map T_Item.ienc s.Items)), .v (.int .i64 s.Packs), .fl .shr 1 (map (int .i64) s.Sent), .fl .shr 1 (map (int .u8) s.Part), .v (.int .i64 s.Of), .fl .shr 1 (map (int .i64) s.Done)], .agg [.v (.bool t.Open), .v (.int .i64 t.Number), .v (.int .i64 t.Total)]] (.v (.bool r)):=by
  unfold Sh.taker_Whole at h
  refine yO 22 func9 fun g0 hn hio => ?_
  refine yyy hn 3 [2,3] ?_
  refine ht_seq ?_
  refine ht_joinS h (fun (s1:Bool)=>[(4,vb s1)]) ?_ ?_
  ·rintro s1 h
   refine pt_then (ht_ret ?_)
   obtain rfl:=zi h
   exact pt_ret hio rfl (.tmp _ _ .nil) rfl rfl
  ·intro u2 h hl3 hr4
   refine cond_some h (fun hg1_2 h => ?_) (fun hg1_2 h => ?_)
   ·refine cond_some h (fun hg1_9 h => ?_) (fun hg1_9 h => ?_)
    ·refine yx hn 3 ?_
     refine yd hg1_2 7 ?_
     refine yd hg1_9 8 ?_
     refine ye [4] ?_
     exact hl3 _ (zi h).symm
    ·refine yx hn 3 ?_
     refine yd hg1_2 7 ?_
     refine yd hg1_9 8 ?_
     refine ye [4] ?_
     exact hl3 _ (zi h).symm
   ·refine yx hn 3 ?_
    refine yd hg1_2 15 ?_
    refine ye [4] ?_
    exact hl3 _ (zi h).symm
theorem ok_wherrykeep_Bytes (a:(List Int)) (b:(List Int)) (r:Bool) (h:Sh.wherrykeep_Bytes a b=some r):FnOK Tryz.prog 10 [.fl .shr 1 (map (int .u8) a), .fl .shr 1 (map (int .u8) b)] (.v (.bool r)):=by
  unfold Sh.wherrykeep_Bytes at h
  refine yO 26 func10 fun g0 hn hio => ?_
  refine yyy hn 1 [0,1] ?_
  refine ht_seq ?_
  refine yyy hn 5 [0,1,10] ?_
  refine ht_cond _ rfl (fun hb1 => ?_) (fun hb1 => ?_)
  ·have h:=cond_t hb1 h
   refine yyy hn 1 [4] ?_
   refine ht_ret ?_
   refine pt_r_then ?_
   obtain rfl:=zi h
   exact pt_ret hio rfl (.tmp _ _ .nil) rfl rfl
  ·have h:=cond_f hb1 h
   refine ht_skip ?_
   refine pt_then (ht_seq ?_)
   refine yyy hn 1 [0,1,5] ?_
   refine ht_loopS h (fun (s12:Int)=>[(0,fb a),(1,fb b),(5,vi s12)]) (fun (():Unit)=>[]) ?_ ?_
   ·rintro ⟨⟩ h
    refine pt_then ?_
    refine yyy hn 1 [4] ?_
    refine ht_ret ?_
    obtain rfl:=zi h
    exact pt_ret hio rfl (.tmp _ _ .nil) rfl rfl
   ·rintro u15 hl16 hr17 s12 rr20 h ho18
    refine ht_seq ?_
    refine yyy hn 4 [0,1,5,14] ?_
    refine ht_cond _ rfl (fun hb21 => ?_) (fun hb21 => ?_)
    ·have h:=cond_t hb21 h
     refine ht_skip ?_
     refine pt_then (ht_seq ?_)
     refine ht_block ?_
     refine ht_seq ?_
     obtain ⟨v3, hv3, h⟩:=zn h
     obtain ⟨v4, hv4, h⟩:=zn h
     obtain ⟨v5, hv5, h⟩:=zn h
     obtain ⟨v6, hv6, h⟩:=zn h
     refine wb [[0],[5]] ?_
     refine wN [17,18] ?_
     refine wo [] ⟨li hv3⟩ ?_
     refine wN [19,17] ?_
     refine wo [[1],[5]] ⟨ll hv4⟩ ?_
     refine wN [21,22] ?_
     refine wo [] ⟨li hv5⟩ ?_
     refine wN [23,21] ?_
     refine wo [[20,24]] ⟨ll hv6⟩ ?_
     refine wee hn [0,1,5,25] ?_
     refine ht_cond _ rfl (fun hb22 => ?_) (fun hb22 => ?_)
     ·have h:=cond_t hb22 h
      refine yyy hn 1 [4] ?_
      refine ht_ret ?_
      refine pt_r_in ?_
      refine pt_r_then ?_
      refine pt_r_then ?_
      refine pt_r_in ?_
      refine pt_r_then ?_
      have h:=hr17 _ (ho18 _ (zi h).symm).symm
      obtain rfl:=zi h
      exact pt_ret hio rfl (.tmp _ _ .nil) rfl rfl
     ·have h:=cond_f hb22 h
      refine ht_skip ?_
      refine pt_inb ?_
      refine pt_then ?_
      obtain ⟨v8, hv8, h⟩:=zn h
      refine yx hn 1 ?_
      refine ys 0 ⟨lb hv8⟩ ?_
      refine yw [5] 1 ?_
      refine ye [0,1,5] ?_
      exact pt_next _ (zi h).symm rfl
    ·have h:=cond_f hb21 h
     refine ht_exit ?_
     refine pt_x_then ?_
     refine pt_x_then ?_
     refine pt_x_in ?_
     refine pt_pick [] (by kernel_rfl) (es':=[]) rfl ?_
     exact hl16 _ (ho18 _ (zi h).symm).symm
theorem ok_wherrylaw22_wakes (r:Bool) (h:Sh.wherrylaw22_wakes  = some r):FnOK Tryz.prog 11 [] (.v (.bool r)):=by
  unfold Sh.wherrylaw22_wakes at h
  refine yO 60 func11 fun g0 hn hio => ?_
  refine yyy hn 1 [] ?_
  refine ht_seq ?_
  obtain ⟨v1, hv1, h⟩:=zn h
  obtain ⟨v2, hv2, h⟩:=zn h
  refine yx hn 0 ?_
  refine yS (.agg [.fr .ro false 11 (flatten (map T_Item.ienc v1.Items)),vi v1.Packs,.fl .ro 1 (map (int .i64) v1.Sent),.fl .ro 1 (map (int .u8) v1.Part),vi v1.Of,.fl .ro 1 (map (int .i64) v1.Done)]) 0 ⟨LOp.frzG 0 (op_call _ _ 5 _ _ rfl call5 rfl (ok_spool_New  _ hv1) rfl rfl) (zl rfl) rfl⟩ ?_
  refine yS (.agg [vb false,vi 0,vi 0]) 0 ⟨op_build _ _ _ _ [1,1,1] _ _ underlying36 zr36 (fs36 _ underlying36) Src.nil rfl rfl rfl⟩ ?_
  refine yS (.agg [vi 1,vi 3,vi 100,vi 0,vz]) 0 ⟨op_build _ _ _ _ [1,1,1,1,1] _ _ underlying44 zr44 (fs44 _ underlying44) (.copy _ (.copy _ (.copy _ Src.nil))) rfl rfl rfl⟩ ?_
  refine yk [] [6,7,8] ?_
  refine yt (9,.tup [.agg [vb v2.1.Open,vi v2.1.Number,vi v2.1.Total],.fr .shr true 15 (flatten (map T_Rec.ienc v2.2.1)),.fr .shr true 5 (flatten (map T_Frame.ienc v2.2.2.1)),vi v2.2.2.2]) 0 ⟨op_callS _ _ 7 _ _ rfl call7 rfl rfl ((ok_taker_Hear_sh v1 (T_Take.mk false 0 0) (T_Frame.mk 1 3 100 0 []) _ hv2).args (subs_cons (sub_refl _) (subs_cons (sub_refl _) (subs_cons (sub_agg (subs_cons (sub_refl _) (subs_cons (sub_refl _) (subs_cons (sub_refl _) (subs_cons (sub_refl _) (subs_cons (sub_nil_shr 1) (subs_nil))))))) (subs_nil))))) rfl⟩ ?_
  refine ym 0 ?_
  refine yS (.agg [vb v2.1.Open,vi v2.1.Number,vi v2.1.Total]) 3 ⟨op_extract_no _ _ _ _ _ _ rfl rfl (zl rfl) rfl rfl⟩ ?_
  refine yS (.box 36 [vb false,vi 0,vi 0]) 4 ⟨oA (op_alloc _ _ zr36)⟩ ?_
  refine yee [1,2,3,4] ?_
  refine ht_seq ?_
  refine ht_joinS h (fun (s11:Bool)=>[(0,vb s11)]) ?_ ?_
  ·rintro s11 h
   refine pt_then (ht_ret ?_)
   obtain rfl:=zi h
   exact pt_ret hio rfl (.tmp _ _ .nil) rfl rfl
  ·intro u12 h hl13 hr14
   refine cond_some h (fun hg2_2 h => ?_) (fun hg2_2 h => ?_)
   ·refine cond_some h (fun hg2_7 h => ?_) (fun hg2_7 h => ?_)
    ·refine cond_some h (fun hg2_12 h => ?_) (fun hg2_12 h => ?_)
     ·obtain ⟨v3, hv3, h⟩:=zn h
      obtain ⟨v4, hv4, h⟩:=zn h
      refine cond_some h (fun hg2_19 h => ?_) (fun hg2_19 h => ?_)
      ·obtain ⟨v5, hv5, h⟩:=zn h
       obtain ⟨v6, hv6, h⟩:=zn h
       refine cond_some h (fun hg2_26 h => ?_) (fun hg2_26 h => ?_)
       ·refine cond_some h (fun hg2_30 h => ?_) (fun hg2_30 h => ?_)
        ·refine cond_some h (fun hg2_35 h => ?_) (fun hg2_35 h => ?_)
         ·obtain ⟨v7, hv7, h⟩:=zn h
          obtain ⟨v8, hv8, h⟩:=zn h
          refine cond_some h (fun hg2_41 h => ?_) (fun hg2_41 h => ?_)
          ·obtain ⟨v9, hv9, h⟩:=zn h
           obtain ⟨v10, hv10, h⟩:=zn h
           refine wb [[4],[14],[15]] ?_
           refine wd hg2_2 [[16,2],[16,17],[16,18],[16,19],[20]] ?_
           refine wd hg2_7 [[21,3],[21,22],[21,23],[21,24],[25]] ?_
           refine wd hg2_12 [[26,3]] ?_
           refine wN [26,27] ?_
           refine wo [[26,28,27]] ⟨lI hv3⟩ ?_
           refine wN [26,29,27] ?_
           refine wS (vi v4.Kind) [[26,30],[26,31],[32]] ⟨op_load_fr _ _ _ _ _ _ _ underlying3 rfl rfl rfl (gflat_cell T_Frame.ilen hv4 rfl) (.v _)⟩ ?_
           refine wd hg2_19 [[33,3]] ?_
           refine wN [33,34] ?_
           refine wo [[33,35,34]] ⟨lI hv5⟩ ?_
           refine wN [33,36,34] ?_
           refine wS (vi v6.Offset) [[33,37],[33,38],[39]] ⟨op_load_fr _ _ _ _ _ _ _ underlying3 rfl rfl rfl (gflat_cell T_Frame.ilen hv6 rfl) (.v _)⟩ ?_
           refine wd hg2_26 [[40,1],[40,41,1],[40,42],[43]] ?_
           refine wd hg2_30 [[44,1],[44,45,1],[44,46],[44,47],[48]] ?_
           refine wd hg2_35 [] ?_
           refine wN [49] ?_
           refine wo [[49,1]] ⟨lk call5 (ok_spool_New _ hv7)⟩ ?_
           refine wN [49,50,51] ?_
           refine wo [[49,52],[49,53],[54]] ⟨lk call9 (ok_taker_Whole _ _ _ hv8)⟩ ?_
           refine wd hg2_41 [] ?_
           refine wN [55] ?_
           refine wo [] ⟨lk call5 (ok_spool_New _ hv9)⟩ ?_
           refine wN [55,56] ?_
           refine wo [[55,57],[55,58],[59]] ⟨lk call25 (ok_taker_Far _ _ _ hv10)⟩ ?_
           refine we hn [0] ?_
           exact hl13 _ (zi h).symm
          ·refine wb [[4],[14],[15]] ?_
           refine wd hg2_2 [[16,2],[16,17],[16,18],[16,19],[20]] ?_
           refine wd hg2_7 [[21,3],[21,22],[21,23],[21,24],[25]] ?_
           refine wd hg2_12 [[26,3]] ?_
           refine wN [26,27] ?_
           refine wo [[26,28,27]] ⟨lI hv3⟩ ?_
           refine wN [26,29,27] ?_
           refine wS (vi v4.Kind) [[26,30],[26,31],[32]] ⟨op_load_fr _ _ _ _ _ _ _ underlying3 rfl rfl rfl (gflat_cell T_Frame.ilen hv4 rfl) (.v _)⟩ ?_
           refine wd hg2_19 [[33,3]] ?_
           refine wN [33,34] ?_
           refine wo [[33,35,34]] ⟨lI hv5⟩ ?_
           refine wN [33,36,34] ?_
           refine wS (vi v6.Offset) [[33,37],[33,38],[39]] ⟨op_load_fr _ _ _ _ _ _ _ underlying3 rfl rfl rfl (gflat_cell T_Frame.ilen hv6 rfl) (.v _)⟩ ?_
           refine wd hg2_26 [[40,1],[40,41,1],[40,42],[43]] ?_
           refine wd hg2_30 [[44,1],[44,45,1],[44,46],[44,47],[48]] ?_
           refine wd hg2_35 [] ?_
           refine wN [49] ?_
           refine wo [[49,1]] ⟨lk call5 (ok_spool_New _ hv7)⟩ ?_
           refine wN [49,50,51] ?_
           refine wo [[49,52],[49,53],[54]] ⟨lk call9 (ok_taker_Whole _ _ _ hv8)⟩ ?_
           refine wd hg2_41 [[55],[55],[55],[55],[59]] ?_
           refine we hn [0] ?_
           exact hl13 _ (zi h).symm
         ·refine wb [[4],[14],[15]] ?_
          refine wd hg2_2 [[16,2],[16,17],[16,18],[16,19],[20]] ?_
          refine wd hg2_7 [[21,3],[21,22],[21,23],[21,24],[25]] ?_
          refine wd hg2_12 [[26,3]] ?_
          refine wN [26,27] ?_
          refine wo [[26,28,27]] ⟨lI hv3⟩ ?_
          refine wN [26,29,27] ?_
          refine wS (vi v4.Kind) [[26,30],[26,31],[32]] ⟨op_load_fr _ _ _ _ _ _ _ underlying3 rfl rfl rfl (gflat_cell T_Frame.ilen hv4 rfl) (.v _)⟩ ?_
          refine wd hg2_19 [[33,3]] ?_
          refine wN [33,34] ?_
          refine wo [[33,35,34]] ⟨lI hv5⟩ ?_
          refine wN [33,36,34] ?_
          refine wS (vi v6.Offset) [[33,37],[33,38],[39]] ⟨op_load_fr _ _ _ _ _ _ _ underlying3 rfl rfl rfl (gflat_cell T_Frame.ilen hv6 rfl) (.v _)⟩ ?_
          refine wd hg2_26 [[40,1],[40,41,1],[40,42],[43]] ?_
          refine wd hg2_30 [[44,1],[44,45,1],[44,46],[44,47],[48]] ?_
          refine wd hg2_35 [[49],[49],[49],[49],[49],[54],[55],[55],[55],[55],[59]] ?_
          refine we hn [0] ?_
          exact hl13 _ (zi h).symm
        ·refine wb [[4],[14],[15]] ?_
         refine wd hg2_2 [[16,2],[16,17],[16,18],[16,19],[20]] ?_
         refine wd hg2_7 [[21,3],[21,22],[21,23],[21,24],[25]] ?_
         refine wd hg2_12 [[26,3]] ?_
         refine wN [26,27] ?_
         refine wo [[26,28,27]] ⟨lI hv3⟩ ?_
         refine wN [26,29,27] ?_
         refine wS (vi v4.Kind) [[26,30],[26,31],[32]] ⟨op_load_fr _ _ _ _ _ _ _ underlying3 rfl rfl rfl (gflat_cell T_Frame.ilen hv4 rfl) (.v _)⟩ ?_
         refine wd hg2_19 [[33,3]] ?_
         refine wN [33,34] ?_
         refine wo [[33,35,34]] ⟨lI hv5⟩ ?_
         refine wN [33,36,34] ?_
         refine wS (vi v6.Offset) [[33,37],[33,38],[39]] ⟨op_load_fr _ _ _ _ _ _ _ underlying3 rfl rfl rfl (gflat_cell T_Frame.ilen hv6 rfl) (.v _)⟩ ?_
         refine wd hg2_26 [[40,1],[40,41,1],[40,42],[43]] ?_
         refine wd hg2_30 [[44],[44],[44],[44],[48],[49],[49],[49],[49],[49],[54],[55],[55],[55],[55],[59]] ?_
         refine we hn [0] ?_
         exact hl13 _ (zi h).symm
       ·refine wb [[4],[14],[15]] ?_
        refine wd hg2_2 [[16,2],[16,17],[16,18],[16,19],[20]] ?_
        refine wd hg2_7 [[21,3],[21,22],[21,23],[21,24],[25]] ?_
        refine wd hg2_12 [[26,3]] ?_
        refine wN [26,27] ?_
        refine wo [[26,28,27]] ⟨lI hv3⟩ ?_
        refine wN [26,29,27] ?_
        refine wS (vi v4.Kind) [[26,30],[26,31],[32]] ⟨op_load_fr _ _ _ _ _ _ _ underlying3 rfl rfl rfl (gflat_cell T_Frame.ilen hv4 rfl) (.v _)⟩ ?_
        refine wd hg2_19 [[33,3]] ?_
        refine wN [33,34] ?_
        refine wo [[33,35,34]] ⟨lI hv5⟩ ?_
        refine wN [33,36,34] ?_
        refine wS (vi v6.Offset) [[33,37],[33,38],[39]] ⟨op_load_fr _ _ _ _ _ _ _ underlying3 rfl rfl rfl (gflat_cell T_Frame.ilen hv6 rfl) (.v _)⟩ ?_
        refine wd hg2_26 [[40],[40],[40],[43],[44],[44],[44],[44],[48],[49],[49],[49],[49],[49],[54],[55],[55],[55],[55],[59]] ?_
        refine we hn [0] ?_
        exact hl13 _ (zi h).symm
      ·refine wb [[4],[14],[15]] ?_
       refine wd hg2_2 [[16,2],[16,17],[16,18],[16,19],[20]] ?_
       refine wd hg2_7 [[21,3],[21,22],[21,23],[21,24],[25]] ?_
       refine wd hg2_12 [[26,3]] ?_
       refine wN [26,27] ?_
       refine wo [[26,28,27]] ⟨lI hv3⟩ ?_
       refine wN [26,29,27] ?_
       refine wS (vi v4.Kind) [[26,30],[26,31],[32]] ⟨op_load_fr _ _ _ _ _ _ _ underlying3 rfl rfl rfl (gflat_cell T_Frame.ilen hv4 rfl) (.v _)⟩ ?_
       refine wd hg2_19 [[33],[33],[33],[33],[33],[33],[39],[40],[40],[40],[43],[44],[44],[44],[44],[48],[49],[49],[49],[49],[49],[54],[55],[55],[55],[55],[59]] ?_
       refine we hn [0] ?_
       exact hl13 _ (zi h).symm
     ·refine wb [[4],[14],[15]] ?_
      refine wd hg2_2 [[16,2],[16,17],[16,18],[16,19],[20]] ?_
      refine wd hg2_7 [[21,3],[21,22],[21,23],[21,24],[25]] ?_
      refine wd hg2_12 [[26],[26],[26],[26],[26],[26],[32],[33],[33],[33],[33],[33],[33],[39],[40],[40],[40],[43],[44],[44],[44],[44],[48],[49],[49],[49],[49],[49],[54],[55],[55],[55],[55],[59]] ?_
      refine we hn [0] ?_
      exact hl13 _ (zi h).symm
    ·refine wb [[4],[14],[15]] ?_
     refine wd hg2_2 [[16,2],[16,17],[16,18],[16,19],[20]] ?_
     refine wd hg2_7 [[21],[21],[21],[21],[25],[26],[26],[26],[26],[26],[26],[32],[33],[33],[33],[33],[33],[33],[39],[40],[40],[40],[43],[44],[44],[44],[44],[48],[49],[49],[49],[49],[49],[54],[55],[55],[55],[55],[59]] ?_
     refine we hn [0] ?_
     exact hl13 _ (zi h).symm
   ·refine wb [[4],[14],[15]] ?_
    refine wd hg2_2 [[16],[16],[16],[16],[20],[21],[21],[21],[21],[25],[26],[26],[26],[26],[26],[26],[32],[33],[33],[33],[33],[33],[33],[39],[40],[40],[40],[43],[44],[44],[44],[44],[48],[49],[49],[49],[49],[49],[54],[55],[55],[55],[55],[59]] ?_
    refine we hn [0] ?_
    exact hl13 _ (zi h).symm
theorem ok_sender_ready (s:T_Send) (offset:Int) (r:(Bool×T_Send)) (h:Sh.sender_ready s offset=some r):FnP Tryz.prog 26 [.box 26 [.v (.int .i64 s.Number), .fl (.own 5) 1 (map (int .u8) s.Data), .v (.bool s.Ready), .v (.int .i64 s.Base), .v (.int .i64 s.Next), .v (.int .i64 s.Wait), .v (.bool s.Over)], .v (.int .i64 offset)] [.box 26 [.v (.int .i64 r.2.Number), .fl (.own 5) 1 (map (int .u8) r.2.Data), .v (.bool r.2.Ready), .v (.int .i64 r.2.Base), .v (.int .i64 r.2.Next), .v (.int .i64 r.2.Wait), .v (.bool r.2.Over)]] (.v (.bool r.1)):=by
  unfold Sh.sender_ready at h
  refine yP 51 func26 fun args0 hargs0 g0 hn hio => ?_
  refine yyy hn 1 [0,1,0] ?_
  refine yyy hn 8 [0,1,5,0] ?_
  refine ht_seq ?_
  refine ht_seq ?_
  refine ht_joinS h (fun (s2:Bool)=>[(0,.box 26 [vi s.Number,.fl (.own 5) 1 (map (int .u8) s.Data),vb s.Ready,vi s.Base,vi s.Next,vi s.Wait,vb s.Over]),(1,vi offset),(5,vb (offset==(s.Data.length:Int))),(29,vb s2),(0,.v (List.getD args0 0 undef))]) ?_ ?_
  ·rintro s2 h
   refine pt_then ?_
   refine ht_cond _ rfl (fun hb6 => ?_) (fun hb6 => ?_)
   ·have h:=cond_t hb6 h
    refine yyy hn 1 [0,4,0] ?_
    refine ht_ret ?_
    refine pt_pick [1,0,2] (by kernel_rfl) (es':=[(_,_),(_,_),(_,_)]) rfl ?_
    refine pt_r_then ?_
    obtain rfl:=zi h
    exact pt_retP (es:=[(4, .v (.bool false))]) (posts:=[.box 26 [.v (.int .i64 s.Number),.fl (.own 5) 1 (map (int .u8) s.Data),.v (.bool s.Ready),.v (.int .i64 s.Base),.v (.int .i64 s.Next),.v (.int .i64 s.Wait),.v (.bool s.Over)]]) hio rfl rfl (.tmp _ _ .nil) rfl rfl hargs0 rfl
   ·have h:=cond_f hb6 h
    refine ht_skip ?_
    refine pt_then (ht_seq ?_)
    obtain ⟨v7, hv7, h⟩:=zn h
    refine yx hn 1 ?_
    refine ys 1 ⟨lB (quo_ok hv7)⟩ ?_
    refine yee [0,5,6,0] ?_
    refine ht_seq ?_
    refine ht_joinS h (fun (s10:Int)=>[(0,.box 26 [vi s.Number,.fl (.own 5) 1 (map (int .u8) s.Data),vb s.Ready,vi s.Base,vi s.Next,vi s.Wait,vb s.Over]),(6,vi s10),(0,.v (List.getD args0 0 undef))]) ?_ ?_
    ·rintro s10 h
     refine pt_then ?_
     refine yyy hn 18 [0,0] ?_
     refine yyy hn 1 [0,4,0] ?_
     refine ht_ret ?_
     refine pt_pick [1,0,2] (by kernel_rfl) (es':=[(_,_),(_,_),(_,_)]) rfl ?_
     obtain rfl:=zi h
     exact pt_retP (es:=[(4, .v (.bool true))]) (posts:=[.box 26 [.v (.int .i64 s.Number),.fl (.own 5) 1 (map (int .u8) s.Data),.v (.bool true),.v (.int .i64 s10),.v (.int .i64 s10),.v (.int .i64 0),.v (.bool s.Over)]]) hio rfl rfl (.tmp _ _ .nil) rfl rfl hargs0 rfl
    ·intro u11 h hl12 hr13
     refine yyy hn 1 [0,6,32,0] ?_
     refine ht_cond _ rfl (fun hb14 => ?_) (fun hb14 => ?_)
     ·have h:=cond_t hb14 h
      obtain ⟨v9, hv9, h⟩:=zn h
      refine yx hn 3 ?_
      refine ys 0 ⟨lk call17 (ok_sender_pieces _ _ hv9)⟩ ?_
      refine yw [6] 1 ?_
      refine ye [0,6,0] ?_
      exact hl12 _ (zi h).symm
     ·have h:=cond_f hb14 h
      refine ht_skip ?_
      refine pt_pick [0,1,3] (by kernel_rfl) (es':=[(_,_),(_,_),(_,_)]) rfl ?_
      exact hl12 _ (zi h).symm
  ·intro u3 h hl4 hr5
   refine cond_some h (fun hg2_2 h => ?_) (fun hg2_2 h => ?_)
   ·refine cond_some h (fun hg2_10 h => ?_) (fun hg2_10 h => ?_)
    ·refine yx hn 3 ?_
     refine yd hg2_2 8 ?_
     refine yd hg2_10 5 ?_
     refine ye [0,1,5,29,0] ?_
     exact hl4 _ (zi h).symm
    ·obtain ⟨v1, hv1, h⟩:=zn h
     refine yx hn 3 ?_
     refine yd hg2_2 8 ?_
     refine yd hg2_10 1 ?_
     refine ys 3 ⟨lB (rem_ok hv1)⟩ ?_
     refine ye [0,1,5,29,0] ?_
     exact hl4 _ (zi h).symm
   ·refine yx hn 3 ?_
    refine yd hg2_2 13 ?_
    refine ye [0,1,5,29,0] ?_
    exact hl4 _ (zi h).symm
theorem ok_sender_ack (s:T_Send) (seq:Int) (r:(Bool×T_Send)) (h:Sh.sender_ack s seq=some r):FnP Tryz.prog 27 [.box 26 [.v (.int .i64 s.Number), .fl (.own 5) 1 (map (int .u8) s.Data), .v (.bool s.Ready), .v (.int .i64 s.Base), .v (.int .i64 s.Next), .v (.int .i64 s.Wait), .v (.bool s.Over)], .v (.int .i64 seq)] [.box 26 [.v (.int .i64 r.2.Number), .fl (.own 5) 1 (map (int .u8) r.2.Data), .v (.bool r.2.Ready), .v (.int .i64 r.2.Base), .v (.int .i64 r.2.Next), .v (.int .i64 r.2.Wait), .v (.bool r.2.Over)]] (.v (.bool r.1)):=by
  unfold Sh.sender_ack at h
  refine yP 35 func27 fun args0 hargs0 g0 hn hio => ?_
  refine yyy hn 1 [0,1,0] ?_
  refine ht_seq ?_
  refine yyy hn 5 [0,1,10,0] ?_
  refine ht_cond _ rfl (fun hb1 => ?_) (fun hb1 => ?_)
  ·have h:=cond_t hb1 h
   refine yyy hn 1 [0,4,0] ?_
   refine ht_ret ?_
   refine pt_pick [1,0,2] (by kernel_rfl) (es':=[(_,_),(_,_),(_,_)]) rfl ?_
   refine pt_r_then ?_
   obtain rfl:=zi h
   exact pt_retP (es:=[(4, .v (.bool false))]) (posts:=[.box 26 [.v (.int .i64 s.Number),.fl (.own 5) 1 (map (int .u8) s.Data),.v (.bool s.Ready),.v (.int .i64 s.Base),.v (.int .i64 s.Next),.v (.int .i64 s.Wait),.v (.bool s.Over)]]) hio rfl rfl (.tmp _ _ .nil) rfl rfl hargs0 rfl
  ·have h:=cond_f hb1 h
   refine ht_skip ?_
   refine pt_then (ht_seq ?_)
   refine ht_seq ?_
   obtain ⟨v2, hv2, h⟩:=zn h
   refine yx hn 4 ?_
   refine ys 1 ⟨lb hv2⟩ ?_
   refine yee [0,1,5,0] ?_
   refine ht_loopS h (fun (s10:Int)=>[(0,.box 26 [vi s.Number,.fl (.own 5) 1 (map (int .u8) s.Data),vb s.Ready,vi s.Base,vi s.Next,vi s.Wait,vb s.Over]),(1,vi seq),(5,vi s10),(0,.v (List.getD args0 0 undef))]) (fun (():Unit)=>[(0,.box 26 [vi s.Number,.fl (.own 5) 1 (map (int .u8) s.Data),vb s.Ready,vi s.Base,vi s.Next,vi s.Wait,vb s.Over]),(0,.v (List.getD args0 0 undef))]) ?_ ?_
   ·rintro ⟨⟩ h
    refine pt_then ?_
    refine yyy hn 1 [0,4,0] ?_
    refine ht_ret ?_
    refine pt_pick [1,0,2] (by kernel_rfl) (es':=[(_,_),(_,_),(_,_)]) rfl ?_
    obtain rfl:=zi h
    exact pt_retP (es:=[(4, .v (.bool false))]) (posts:=[.box 26 [.v (.int .i64 s.Number),.fl (.own 5) 1 (map (int .u8) s.Data),.v (.bool s.Ready),.v (.int .i64 s.Base),.v (.int .i64 s.Next),.v (.int .i64 s.Wait),.v (.bool s.Over)]]) hio rfl rfl (.tmp _ _ .nil) rfl rfl hargs0 rfl
   ·rintro u13 hl14 hr15 s10 rr18 h ho16
    refine ht_seq ?_
    refine yyy hn 6 [0,1,5,21,0] ?_
    refine ht_cond _ rfl (fun hb19 => ?_) (fun hb19 => ?_)
    ·have h:=cond_t hb19 h
     refine ht_skip ?_
     refine pt_then (ht_seq ?_)
     refine ht_block ?_
     refine ht_seq ?_
     obtain ⟨v4, hv4, h⟩:=zn h
     refine yx hn 1 ?_
     refine ys 2 ⟨lB (rem_ok hv4)⟩ ?_
     refine yee [0,1,5,27,0] ?_
     refine ht_cond _ rfl (fun hb20 => ?_) (fun hb20 => ?_)
     ·have h:=cond_t hb20 h
      refine yyy hn 9 [0,0] ?_
      refine yyy hn 1 [0,4,0] ?_
      refine ht_ret ?_
      refine pt_pick [1,0,2] (by kernel_rfl) (es':=[(_,_),(_,_),(_,_)]) rfl ?_
      refine pt_r_in ?_
      refine pt_r_then ?_
      refine pt_r_then ?_
      refine pt_r_in ?_
      refine pt_r_then ?_
      have h:=hr15 _ (ho16 _ (zi h).symm).symm
      obtain rfl:=zi h
      exact pt_retP (es:=[(4, .v (.bool true))]) (posts:=[.box 26 [.v (.int .i64 s.Number),.fl (.own 5) 1 (map (int .u8) s.Data),.v (.bool s.Ready),.v (.int .i64 s10),.v (.int .i64 s.Next),.v (.int .i64 3),.v (.bool s.Over)]]) hio rfl rfl (.tmp _ _ .nil) rfl rfl hargs0 rfl
     ·have h:=cond_f hb20 h
      refine ht_skip ?_
      refine pt_inb ?_
      refine pt_then ?_
      obtain ⟨v6, hv6, h⟩:=zn h
      refine yx hn 1 ?_
      refine ys 0 ⟨lb hv6⟩ ?_
      refine yw [5] 1 ?_
      refine ye [0,1,5,0] ?_
      exact pt_next _ (zi h).symm rfl
    ·have h:=cond_f hb19 h
     refine ht_exit ?_
     refine pt_x_then ?_
     refine pt_x_then ?_
     refine pt_x_in ?_
     refine pt_pick [0,4] (by kernel_rfl) (es':=[(_,_),(_,_)]) rfl ?_
     exact hl14 _ (ho16 _ (zi h).symm).symm
theorem ok_sender_Hear (s:T_Send) (f:T_Frame) (r:(T_Send×Int)) (h:Sh.sender_Hear s f=some r):FnOK Tryz.prog 12 [.agg [.v (.int .i64 s.Number), .fl .shr 1 (map (int .u8) s.Data), .v (.bool s.Ready), .v (.int .i64 s.Base), .v (.int .i64 s.Next), .v (.int .i64 s.Wait), .v (.bool s.Over)], .agg [.v (.int .i64 f.Kind), .v (.int .i64 f.Number), .v (.int .i64 f.Offset), .v (.int .i64 f.Seq), .fl .shr 1 (map (int .u8) f.Data)]] (.tup [.agg [.v (.int .i64 r.1.Number), .fl (.own 5) 1 (map (int .u8) r.1.Data), .v (.bool r.1.Ready), .v (.int .i64 r.1.Base), .v (.int .i64 r.1.Next), .v (.int .i64 r.1.Wait), .v (.bool r.1.Over)], .v (.int .i64 r.2)]):=by
  unfold Sh.sender_Hear at h
  refine yO 52 func12 fun g0 hn hio => ?_
  refine yxx hn 2 ?_
  refine yS (.box 26 [vi 0,vz,vb false,vi 0,vi 0,vi 0,vb false]) 1 ⟨oA (op_alloc _ _ zr26)⟩ ?_
  refine yee [2,3,4] ?_
  refine ht_seq ?_
  refine ht_seq ?_
  obtain ⟨v1, hv1, h⟩:=zn h
  refine yx hn 1 ?_
  refine ys 1 ⟨lk call14 (ok_sender_Check _ _ hv1)⟩ ?_
  refine yee [2,3,4,6] ?_
  refine yyy hn 2 [2,3,4,6,12] ?_
  refine ht_cond _ rfl (fun hb2 => ?_) (fun hb2 => ?_)
  ·have h:=cond_t hb2 h
   refine yxx hn 0 ?_
   refine yS (.agg [vi 0,vz,vb false,vi 0,vi 0,vi 0,vb false]) 1 ⟨op_build _ _ _ _ [1,1,1,1,1,1,1] _ _ underlying26 zr26 (fs26 _ underlying26) Src.nil rfl rfl rfl⟩ ?_
   refine yk [13,4] [] ?_
   refine yt (4,.box 26 [vi 0,vz,vb false,vi 0,vi 0,vi 0,vb false]) 1 ⟨op_store_self _ _ _ 13 4 7 sz26 rfl rfl rfl rfl rfl (.eq _ (.eq _ (.eq _ (.eq _ (.eq _ (.eq _ (.eq _ (.nil _)))))))) rfl⟩ ?_
   refine yee [4,5] ?_
   refine ht_ret ?_
   refine pt_sub (fs:=[(4,.box 26 [vi 0,.fl (.own 5) 1 (map (int .u8) []),vb false,vi 0,vi 0,vi 0,vb false]),(5,vi v1)]) (.box _ _ (subs_cons (sub_refl _) (subs_cons (sub_nil 5 1) (subs_cons (sub_refl _) (subs_cons (sub_refl _) (subs_cons (sub_refl _) (subs_cons (sub_refl _) (subs_cons (sub_refl _) (subs_nil)))))))) rfl (.same _ .nil)) ?_
   refine pt_r_then ?_
   obtain rfl:=zi h
   exact pt_ret hio rfl (.cellA _ _ _ _ underlying26 rfl sz26 (.tmp _ _ .nil)) rfl rfl
  ·have h:=cond_f hb2 h
   refine ht_skip ?_
   refine pt_then (ht_seq ?_)
   refine ht_seq ?_
   obtain ⟨v3, hv3, h⟩:=zn h
   refine yx hn 1 ?_
   refine ys 1 ⟨lk call20 (ok_frame_Check _ _ hv3)⟩ ?_
   refine yee [2,3,4,7] ?_
   refine yyy hn 2 [2,3,4,7,18] ?_
   refine ht_cond _ rfl (fun hb4 => ?_) (fun hb4 => ?_)
   ·have h:=cond_t hb4 h
    refine yxx hn 0 ?_
    refine yS (.agg [vi 0,vz,vb false,vi 0,vi 0,vi 0,vb false]) 1 ⟨op_build _ _ _ _ [1,1,1,1,1,1,1] _ _ underlying26 zr26 (fs26 _ underlying26) Src.nil rfl rfl rfl⟩ ?_
    refine yk [19,4] [] ?_
    refine yt (4,.box 26 [vi 0,vz,vb false,vi 0,vi 0,vi 0,vb false]) 1 ⟨op_store_self _ _ _ 19 4 7 sz26 rfl rfl rfl rfl rfl (.eq _ (.eq _ (.eq _ (.eq _ (.eq _ (.eq _ (.eq _ (.nil _)))))))) rfl⟩ ?_
    refine yee [4,5] ?_
    refine ht_ret ?_
    refine pt_sub (fs:=[(4,.box 26 [vi 0,.fl (.own 5) 1 (map (int .u8) []),vb false,vi 0,vi 0,vi 0,vb false]),(5,vi v3)]) (.box _ _ (subs_cons (sub_refl _) (subs_cons (sub_nil 5 1) (subs_cons (sub_refl _) (subs_cons (sub_refl _) (subs_cons (sub_refl _) (subs_cons (sub_refl _) (subs_cons (sub_refl _) (subs_nil)))))))) rfl (.same _ .nil)) ?_
    refine pt_r_then ?_
    obtain rfl:=zi h
    exact pt_ret hio rfl (.cellA _ _ _ _ underlying26 rfl sz26 (.tmp _ _ .nil)) rfl rfl
   ·have h:=cond_f hb4 h
    refine ht_skip ?_
    refine pt_then (ht_seq ?_)
    refine ht_seq ?_
    refine ht_joinS h (fun (s5:Bool)=>[(2,.box 26 (T_Send.c s [])),(3,.box 44 [vi f.Kind,vi f.Number,vi f.Offset,vi f.Seq,fb f.Data]),(4,.box 26 [vi 0,vz,vb false,vi 0,vi 0,vi 0,vb false]),(29,vb s5)]) ?_ ?_
    ·rintro s5 h
     refine pt_then ?_
     refine ht_cond _ rfl (fun hb9 => ?_) (fun hb9 => ?_)
     ·have h:=cond_t hb9 h
      refine yxx hn 0 ?_
      refine yS (.agg [vi 0,vz,vb false,vi 0,vi 0,vi 0,vb false]) 0 ⟨op_build _ _ _ _ [1,1,1,1,1,1,1] _ _ underlying26 zr26 (fs26 _ underlying26) Src.nil rfl rfl rfl⟩ ?_
      refine yk [30,4] [] ?_
      refine yt (4,.box 26 [vi 0,vz,vb false,vi 0,vi 0,vi 0,vb false]) 1 ⟨op_store_self _ _ _ 30 4 7 sz26 rfl rfl rfl rfl rfl (.eq _ (.eq _ (.eq _ (.eq _ (.eq _ (.eq _ (.eq _ (.nil _)))))))) rfl⟩ ?_
      refine yee [4,5] ?_
      refine ht_ret ?_
      refine pt_sub (fs:=[(4,.box 26 [vi 0,.fl (.own 5) 1 (map (int .u8) []),vb false,vi 0,vi 0,vi 0,vb false]),(5,vi 11)]) (.box _ _ (subs_cons (sub_refl _) (subs_cons (sub_nil 5 1) (subs_cons (sub_refl _) (subs_cons (sub_refl _) (subs_cons (sub_refl _) (subs_cons (sub_refl _) (subs_cons (sub_refl _) (subs_nil)))))))) rfl (.same _ .nil)) ?_
      refine pt_r_then ?_
      obtain rfl:=zi h
      exact pt_ret hio rfl (.cellA _ _ _ _ underlying26 rfl sz26 (.tmp _ _ .nil)) rfl rfl
     ·have h:=cond_f hb9 h
      refine ht_skip ?_
      refine pt_then (ht_seq ?_)
      obtain ⟨v10, hv10, h⟩:=zn h
      refine yx hn 1 ?_
      refine ys 0 ⟨lk call15 (ok_clone_Send _ _ hv10)⟩ ?_
      refine yk [32,2] [] ?_
      refine yt (2,.box 26 [vi v10.Number,.fl (.own 5) 1 (map (int .u8) v10.Data),vb v10.Ready,vi v10.Base,vi v10.Next,vi v10.Wait,vb v10.Over]) 0 ⟨op_store_take _ _ _ _ _ _ _ _ sz26 rfl rfl rfl (zl rfl) rfl rfl⟩ ?_
      refine yee [2,3,4] ?_
      refine yyy hn 1 [2,3,4,8] ?_
      refine ht_seq ?_
      refine ht_joinS h (fun ((s30,s31,s32,s33,s34,s35,s36,s37):Int×(List Int)×Bool×Int×Int×Int×Bool×Bool)=>[(2,.box 26 [vi s30,.fl (.own 5) 1 (map (int .u8) s31),vb s32,vi s33,vi s34,vi s35,vb s36]),(4,.box 26 [vi 0,vz,vb false,vi 0,vi 0,vi 0,vb false]),(8,vb s37)]) ?_ ?_
      ·rintro ⟨s30, s31, s32, s33, s34, s35, s36, s37⟩ h
       refine pt_then (ht_seq ?_)
       refine yyy hn 2 [2,4,49] ?_
       refine ht_cond _ rfl (fun hb58 => ?_) (fun hb58 => ?_)
       ·have h:=cond_t hb58 h
        refine yxx hn 0 ?_
        refine yS (.agg [vi 0,vz,vb false,vi 0,vi 0,vi 0,vb false]) 0 ⟨op_build _ _ _ _ [1,1,1,1,1,1,1] _ _ underlying26 zr26 (fs26 _ underlying26) Src.nil rfl rfl rfl⟩ ?_
        refine yk [50,4] [] ?_
        refine yt (4,.box 26 [vi 0,vz,vb false,vi 0,vi 0,vi 0,vb false]) 1 ⟨op_store_self _ _ _ 50 4 7 sz26 rfl rfl rfl rfl rfl (.eq _ (.eq _ (.eq _ (.eq _ (.eq _ (.eq _ (.eq _ (.nil _)))))))) rfl⟩ ?_
        refine yee [4,5] ?_
        refine ht_ret ?_
        refine pt_sub (fs:=[(4,.box 26 [vi 0,.fl (.own 5) 1 (map (int .u8) []),vb false,vi 0,vi 0,vi 0,vb false]),(5,vi 11)]) (.box _ _ (subs_cons (sub_refl _) (subs_cons (sub_nil 5 1) (subs_cons (sub_refl _) (subs_cons (sub_refl _) (subs_cons (sub_refl _) (subs_cons (sub_refl _) (subs_cons (sub_refl _) (subs_nil)))))))) rfl (.same _ .nil)) ?_
        refine pt_r_then ?_
        obtain rfl:=zi h
        exact pt_ret hio rfl (.cellA _ _ _ _ underlying26 rfl sz26 (.tmp _ _ .nil)) rfl rfl
       ·have h:=cond_f hb58 h
        refine ht_skip ?_
        refine pt_then ?_
        refine yxx hn 0 ?_
        refine yk [2] [] ?_
        refine yt (51,.agg [vi s30,.fl (.own 5) 1 (map (int .u8) s31),vb s32,vi s33,vi s34,vi s35,vb s36]) 0 ⟨op_loadA_take _ _ _ _ underlying26 rfl sz26 rfl rfl⟩ ?_
        refine yk [51,4] [] ?_
        refine yt (4,.box 26 [vi s30,.fl (.own 5) 1 (map (int .u8) s31),vb s32,vi s33,vi s34,vi s35,vb s36]) 1 ⟨op_store_take _ _ _ _ _ _ _ _ sz26 rfl rfl rfl (zl rfl) rfl rfl⟩ ?_
        refine yee [4,5] ?_
        refine ht_ret ?_
        obtain rfl:=zi h
        exact pt_ret hio rfl (.cellA _ _ _ _ underlying26 rfl sz26 (.tmp _ _ .nil)) rfl rfl
      ·intro u38 h hl39 hr40
       refine yyy hn 2 [2,3,4,8,34] ?_
       refine ht_joinS h (fun ((s44,s45,s46,s47,s48,s49,s50,s51):Int×(List Int)×Bool×Int×Int×Int×Bool×Bool)=>[(2,.box 26 [vi s44,.fl (.own 5) 1 (map (int .u8) s45),vb s46,vi s47,vi s48,vi s49,vb s50]),(4,.box 26 [vi 0,vz,vb false,vi 0,vi 0,vi 0,vb false]),(8,vb s51)]) ?_ ?_
       ·rintro ⟨s44, s45, s46, s47, s48, s49, s50, s51⟩ h
        exact hl39 _ (zi h).symm
       ·intro u52 h hl53 hr54
        refine ht_block ?_
        refine yyy hn 2 [2,3,4,8,34,35] ?_
        refine ht_cond _ rfl (fun hb55 => ?_) (fun hb55 => ?_)
        ·have h:=cond_t hb55 h
         obtain ⟨v12, hv12, h⟩:=zn h
         refine yx hn 2 ?_
         refine yQ call26 (ok_sender_ready _ _ _ hv12) 2 [38] 0 ?_
         refine yw [8] 1 ?_
         refine ye [2,4,8] ?_
         refine pt_inb ?_
         exact hl53 _ (zi h).symm
        ·have h:=cond_f hb55 h
         refine yyy hn 2 [2,3,4,8,34,40] ?_
         refine ht_cond _ rfl (fun hb56 => ?_) (fun hb56 => ?_)
         ·have h:=cond_t hb56 h
          obtain ⟨v14, hv14, h⟩:=zn h
          refine yx hn 2 ?_
          refine yQ call27 (ok_sender_ack _ _ _ hv14) 2 [43] 0 ?_
          refine yw [8] 1 ?_
          refine ye [2,4,8] ?_
          refine pt_inb ?_
          exact hl53 _ (zi h).symm
         ·have h:=cond_f hb56 h
          refine yyy hn 2 [2,4,8,45] ?_
          refine ht_cond _ rfl (fun hb57 => ?_) (fun hb57 => ?_)
          ·have h:=cond_t hb57 h
           refine yx hn 2 ?_
           refine yw [8] 1 ?_
           refine ye [2,4,8] ?_
           refine pt_inb ?_
           exact hl53 _ (zi h).symm
          ·have h:=cond_f hb57 h
           refine ht_skip ?_
           refine pt_inb ?_
           refine pt_pick [0,1,2] (by kernel_rfl) (es':=[(_,_),(_,_),(_,_)]) rfl ?_
           exact hl53 _ (zi h).symm
    ·intro u6 h hl7 hr8
     refine cond_some h (fun hg7_5 h => ?_) (fun hg7_5 h => ?_)
     ·refine yx hn 6 ?_
      refine yd hg7_5 3 ?_
      refine ye [2,3,4,29] ?_
      exact hl7 _ (zi h).symm
     ·refine yx hn 6 ?_
      refine yd hg7_5 3 ?_
      refine ye [2,3,4,29] ?_
      exact hl7 _ (zi h).symm
end Go.Proofs.YthhebpiaknfnhaaGreatDoor
