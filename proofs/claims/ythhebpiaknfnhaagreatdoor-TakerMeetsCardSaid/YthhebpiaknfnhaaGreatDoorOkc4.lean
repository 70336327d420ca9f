/-
  The model's runs are what is told in Lean.
-/
import Derived.Test.YthhebpiaknfnhaaGreatDoorProg
import Derived.KernelRfl
import Derived.Test.YthhebpiaknfnhaaGreatDoorShelf
import Derived.Test.YthhebpiaknfnhaaGreatDoorIdx
import Derived.Test.YthhebpiaknfnhaaGreatDoorIns
import Derived.Test.YthhebpiaknfnhaaGreatDoorB1
import Derived.Test.YthhebpiaknfnhaaGreatDoorC1
import Derived.Test.YthhebpiaknfnhaaGreatDoorOkc3
set_option linter.unusedVariables false
set_option linter.unusedSimpArgs false
set_option maxHeartbeats 1000000
namespace Go.Proofs.YthhebpiaknfnhaaGreatDoor
open Go.Abs Go.Abs.Sh Tryz
open List (map flatten)
open Value (int)
theorem ok_spool_valid (mx:Int) (s:T_Spool) (p_r:T_Rec) (r:Bool) (h:Sh.spool_valid s p_r=some r):FnG Tryz.prog (GL mx) 22 [.agg [.fr .shr true 11 (flatten (map T_Item.ienc s.Items)), .v (.int .i64 s.Packs), .fl .shr 1 (map (int .i64) s.Sent), .fl .shr 1 (map (int .u8) s.Part), .v (.int .i64 s.Of), .fl .shr 1 (map (int .i64) s.Done)], .agg [.v (.int .i64 p_r.Kind), .v (.bool p_r.Mail.From.Null), .v (.string p_r.Mail.From.Local), .v (.string p_r.Mail.From.Domain), .fl .shr 3 (flatten (map T_Path.enc p_r.Mail.To)), .fl .shr 1 (map (int .u8) p_r.Mail.Body), .v (.bool p_r.Mail.Quiet), .v (.string p_r.Mail.Helo), .v (.int .i64 p_r.Mail.At), .v (.int .i64 p_r.Id), .fl .shr 1 (map (int .i64) p_r.Ids), .v (.int .i64 p_r.Origin), .v (.int .i64 p_r.Number), .v (.int .i64 p_r.Offset), .fl .shr 1 (map (int .u8) p_r.Data)]] (.v (.bool r)):=by
  unfold Sh.spool_valid at h
  refine yG 98 func22 fun g0 hn hio => ?_
  refine yyy hn 3 [98,2,3] ?_
  refine ht_seq ?_
  refine ht_seq ?_
  obtain ⟨v1, hv1, h⟩:=zn h
  obtain ⟨v2, hv2, h⟩:=zn h
  refine yx hn 1 ?_
  refine yk [] [5] ?_
  refine yt (6,.agg (T_Rec.c v1 [])) 0 ⟨op_callS _ _ 33 _ _ rfl call33 rfl rfl (ok_spool_rest_sh ((T_Rec.mk p_r.Kind ((T_Mail.mk (T_Path.mk p_r.Mail.From.Null p_r.Mail.From.Local p_r.Mail.From.Domain) p_r.Mail.To p_r.Mail.Body p_r.Mail.Quiet p_r.Mail.Helo p_r.Mail.At)) p_r.Id p_r.Ids p_r.Origin p_r.Number p_r.Offset p_r.Data)) _ hv1) rfl⟩ ?_
  refine ys 1 ⟨lk call32 (ok_spool_empty _ _ hv2)⟩ ?_
  refine yee [98,2,3,8] ?_
  refine ht_cond _ rfl (fun hb3 => ?_) (fun hb3 => ?_)
  ·have h:=cond_t hb3 h
   refine yyy hn 1 [98,4] ?_
   refine ht_ret ?_
   refine pt_pick [1] (by kernel_rfl) (es':=[(_,_)]) rfl ?_
   refine pt_r_then ?_
   obtain rfl:=zi h
   exact pt_ret hio rfl (.tmp _ _ .nil) rfl rfl
  ·have h:=cond_f hb3 h
   refine ht_skip ?_
   refine pt_then (ht_seq ?_)
   refine yyy hn 2 [98,2,3,10] ?_
   refine ht_block ?_
   refine yyy hn 2 [98,2,3,10,11] ?_
   refine ht_cond _ rfl (fun hb4 => ?_) (fun hb4 => ?_)
   ·have h:=cond_t hb4 h
    refine ht_seq ?_
    refine ht_joinS h (fun (s8:Bool)=>[(98,.glob (GL mx)),(4,vb s8)]) ?_ ?_
    ·rintro s8 h
     refine pt_then (ht_ret ?_)
     refine pt_pick [1] (by kernel_rfl) (es':=[(_,_)]) rfl ?_
     refine pt_r_in ?_
     refine pt_r_then ?_
     obtain rfl:=zi h
     exact pt_ret hio rfl (.tmp _ _ .nil) rfl rfl
    ·intro u9 h hl10 hr11
     refine cond_some h (fun hg5_4 h => ?_) (fun hg5_4 h => ?_)
     ·obtain ⟨v5, hv5, h⟩:=zn h
      refine cond_some h (fun hg5_13 h => ?_) (fun hg5_13 h => ?_)
      ·refine cond_some h (fun hg5_17 h => ?_) (fun hg5_17 h => ?_)
       ·obtain ⟨v6, hv6, h⟩:=zn h
        refine yx hn 5 ?_
        refine yd hg5_4 5 ?_
        refine ys 3 ⟨lb hv5⟩ ?_
        refine yd hg5_13 4 ?_
        refine yd hg5_17 8 ?_
        refine ys 2 ⟨lg call34 (ok_spool_validMail _ _ _ hv6) 98⟩ ?_
        refine ye [98,4] ?_
        exact hl10 _ (zi h).symm
       ·refine cond_some h (fun hg5_23 h => ?_) (fun hg5_23 h => ?_)
        ·obtain ⟨v7, hv7, h⟩:=zn h
         refine yx hn 5 ?_
         refine yd hg5_4 5 ?_
         refine ys 3 ⟨lb hv5⟩ ?_
         refine yd hg5_13 4 ?_
         refine yd hg5_17 6 ?_
         refine yd hg5_23 2 ?_
         refine ys 2 ⟨lg call34 (ok_spool_validMail _ _ _ hv7) 98⟩ ?_
         refine ye [98,4] ?_
         exact hl10 _ (zi h).symm
        ·refine yx hn 5 ?_
         refine yd hg5_4 5 ?_
         refine ys 3 ⟨lb hv5⟩ ?_
         refine yd hg5_13 4 ?_
         refine yd hg5_17 6 ?_
         refine yd hg5_23 5 ?_
         refine ye [98,4] ?_
         exact hl10 _ (zi h).symm
      ·refine yx hn 5 ?_
       refine yd hg5_4 5 ?_
       refine ys 3 ⟨lb hv5⟩ ?_
       refine yd hg5_13 15 ?_
       refine ye [98,4] ?_
       exact hl10 _ (zi h).symm
     ·refine yx hn 5 ?_
      refine yd hg5_4 24 ?_
      refine ye [98,4] ?_
      exact hl10 _ (zi h).symm
   ·have h:=cond_f hb4 h
    refine yyy hn 2 [98,2,3,10,41] ?_
    refine ht_cond _ rfl (fun hb12 => ?_) (fun hb12 => ?_)
    ·have h:=cond_t hb12 h
     refine ht_seq ?_
     refine ht_joinS h (fun (s15:Bool)=>[(98,.glob (GL mx)),(4,vb s15)]) ?_ ?_
     ·rintro s15 h
      refine pt_then (ht_ret ?_)
      refine pt_pick [1] (by kernel_rfl) (es':=[(_,_)]) rfl ?_
      refine pt_r_in ?_
      refine pt_r_then ?_
      obtain rfl:=zi h
      exact pt_ret hio rfl (.tmp _ _ .nil) rfl rfl
     ·intro u16 h hl17 hr18
      obtain ⟨v13, hv13, h⟩:=zn h
      refine cond_some h (fun hg7_6 h => ?_) (fun hg7_6 h => ?_)
      ·obtain ⟨v14, hv14, h⟩:=zn h
       refine yx hn 4 ?_
       refine ys 2 ⟨lb hv13⟩ ?_
       refine yd hg7_6 3 ?_
       refine ys 2 ⟨lk call35 (ok_spool_validIds _ _ _ hv14)⟩ ?_
       refine ye [98,4] ?_
       exact hl17 _ (zi h).symm
      ·refine yx hn 4 ?_
       refine ys 2 ⟨lb hv13⟩ ?_
       refine yd hg7_6 6 ?_
       refine ye [98,4] ?_
       exact hl17 _ (zi h).symm
    ·have h:=cond_f hb12 h
     refine yyy hn 2 [98,2,3,10,55] ?_
     refine ht_cond _ rfl (fun hb19 => ?_) (fun hb19 => ?_)
     ·have h:=cond_t hb19 h
      refine ht_seq ?_
      refine ht_joinS h (fun (s21:Bool)=>[(98,.glob (GL mx)),(4,vb s21)]) ?_ ?_
      ·rintro s21 h
       refine pt_then (ht_ret ?_)
       refine pt_pick [1] (by kernel_rfl) (es':=[(_,_)]) rfl ?_
       refine pt_r_in ?_
       refine pt_r_then ?_
       obtain rfl:=zi h
       exact pt_ret hio rfl (.tmp _ _ .nil) rfl rfl
      ·intro u22 h hl23 hr24
       refine cond_some h (fun hg9_3 h => ?_) (fun hg9_3 h => ?_)
       ·refine cond_some h (fun hg9_10 h => ?_) (fun hg9_10 h => ?_)
        ·obtain ⟨v20, hv20, h⟩:=zn h
         refine yx hn 4 ?_
         refine yd hg9_3 7 ?_
         refine yd hg9_10 4 ?_
         refine ys 3 ⟨lk call28 (ok_slices_Contains_int_int _ _ _ hv20)⟩ ?_
         refine ye [98,4] ?_
         exact hl23 _ (zi h).symm
        ·refine yx hn 4 ?_
         refine yd hg9_3 7 ?_
         refine yd hg9_10 8 ?_
         refine ye [98,4] ?_
         exact hl23 _ (zi h).symm
       ·refine yx hn 4 ?_
        refine yd hg9_3 15 ?_
        refine ye [98,4] ?_
        exact hl23 _ (zi h).symm
     ·have h:=cond_f hb19 h
      refine yyy hn 2 [98,2,3,10,75] ?_
      refine ht_cond _ rfl (fun hb25 => ?_) (fun hb25 => ?_)
      ·have h:=cond_t hb25 h
       refine ht_seq ?_
       obtain ⟨v26, hv26, h⟩:=zn h
       refine yx hn 3 ?_
       refine ys 1 ⟨lk call36 (ok_spool_waits _ _ _ hv26)⟩ ?_
       refine yee [98,4] ?_
       refine ht_ret ?_
       refine pt_pick [1] (by kernel_rfl) (es':=[(_,_)]) rfl ?_
       refine pt_r_in ?_
       refine pt_r_then ?_
       obtain rfl:=zi h
       exact pt_ret hio rfl (.tmp _ _ .nil) rfl rfl
      ·have h:=cond_f hb25 h
       refine yyy hn 2 [98,2,3,10,81] ?_
       refine ht_cond _ rfl (fun hb27 => ?_) (fun hb27 => ?_)
       ·have h:=cond_t hb27 h
        refine ht_seq ?_
        refine ht_joinS h (fun (s30:Bool)=>[(98,.glob (GL mx)),(4,vb s30)]) ?_ ?_
        ·rintro s30 h
         refine pt_then (ht_ret ?_)
         refine pt_pick [1] (by kernel_rfl) (es':=[(_,_)]) rfl ?_
         refine pt_r_in ?_
         refine pt_r_then ?_
         obtain rfl:=zi h
         exact pt_ret hio rfl (.tmp _ _ .nil) rfl rfl
        ·intro u31 h hl32 hr33
         obtain ⟨v28, hv28, h⟩:=zn h
         refine cond_some h (fun hg13_4 h => ?_) (fun hg13_4 h => ?_)
         ·obtain ⟨v29, hv29, h⟩:=zn h
          refine yx hn 3 ?_
          refine ys 1 ⟨lk call37 (ok_spool_open _ _ _ hv28)⟩ ?_
          refine yd hg13_4 2 ?_
          refine ys 2 ⟨lk call38 (ok_spool_validChunk _ _ _ hv29)⟩ ?_
          refine ye [98,4] ?_
          exact hl32 _ (zi h).symm
         ·refine yx hn 3 ?_
          refine ys 1 ⟨lk call37 (ok_spool_open _ _ _ hv28)⟩ ?_
          refine yd hg13_4 5 ?_
          refine ye [98,4] ?_
          exact hl32 _ (zi h).symm
       ·have h:=cond_f hb27 h
        refine yyy hn 2 [98,2,3,92] ?_
        refine ht_cond _ rfl (fun hb34 => ?_) (fun hb34 => ?_)
        ·have h:=cond_t hb34 h
         refine ht_seq ?_
         obtain ⟨v35, hv35, h⟩:=zn h
         refine yx hn 3 ?_
         refine ys 1 ⟨lk call37 (ok_spool_open _ _ _ hv35)⟩ ?_
         refine yee [98,4] ?_
         refine ht_ret ?_
         refine pt_pick [1] (by kernel_rfl) (es':=[(_,_)]) rfl ?_
         refine pt_r_in ?_
         refine pt_r_then ?_
         obtain rfl:=zi h
         exact pt_ret hio rfl (.tmp _ _ .nil) rfl rfl
        ·have h:=cond_f hb34 h
         refine ht_skip ?_
         refine pt_inb ?_
         refine pt_then ?_
         refine yyy hn 1 [98,4] ?_
         refine ht_ret ?_
         refine pt_pick [1] (by kernel_rfl) (es':=[(_,_)]) rfl ?_
         obtain rfl:=zi h
         exact pt_ret hio rfl (.tmp _ _ .nil) rfl rfl
theorem ok_clone_List_api_Path (l:(List T_Path)) (r:(List T_Path)) (h:Sh.clone_List_api_Path l=some r):FnOK Tryz.prog 50 [.fl .shr 3 (flatten (map T_Path.enc l))] (.fl (.own 48) 3 (flatten (map T_Path.enc r))):=by
  unfold Sh.clone_List_api_Path at h
  refine yO 5 func50 fun g0 hn hio => ?_
  refine yyy hn 1 [0] ?_
  refine ht_seq ?_
  obtain ⟨v1, hv1, h⟩:=zn h
  refine yx hn 1 ?_
  refine yS (.fl (.own 48) 3 (flatten (map T_Path.enc v1))) 0 ⟨op_app_nil _ _ _ _ el49 rfl rfl (flat_len T_Path.len _) hv1 (congrArg (fun l=>flatten (map _ l)) (app_nil_eq hv1))⟩ ?_
  refine ya 0 ?_
  refine yee [2] ?_
  refine ht_ret ?_
  obtain rfl:=zi h
  exact pt_ret hio rfl (.tmp _ _ .nil) rfl rfl
theorem ok_clone_Mail (m:T_Mail) (r:T_Mail) (h:Sh.clone_Mail m=some r):FnOK Tryz.prog 42 [.agg [.v (.bool m.From.Null), .v (.string m.From.Local), .v (.string m.From.Domain), .fl .shr 3 (flatten (map T_Path.enc m.To)), .fl .shr 1 (map (int .u8) m.Body), .v (.bool m.Quiet), .v (.string m.Helo), .v (.int .i64 m.At)]] (.agg [.v (.bool r.From.Null), .v (.string r.From.Local), .v (.string r.From.Domain), .fl (.own 48) 3 (flatten (map T_Path.enc r.To)), .fl (.own 5) 1 (map (int .u8) r.Body), .v (.bool r.Quiet), .v (.string r.Helo), .v (.int .i64 r.At)]):=by
  unfold Sh.clone_Mail at h
  refine yO 12 func42 fun g0 hn hio => ?_
  refine yxx hn 1 ?_
  refine yS (.box 51 [vb false,vs z0,vs z0,vz,vz,vb false,vs z0,vi 0]) 0 ⟨oA (op_alloc _ _ zr51)⟩ ?_
  refine yee [1,2] ?_
  refine ht_seq ?_
  obtain ⟨v1, hv1, h⟩:=zn h
  refine yx hn 2 ?_
  refine ys 1 ⟨lk call50 (ok_clone_List_api_Path _ _ hv1)⟩ ?_
  refine yk [5,1] [6] ?_
  refine yt (1,.box 51 [vb m.From.Null,vs m.From.Local,vs m.From.Domain,.fl (.own 48) 3 (flatten (map T_Path.enc v1)),fb m.Body,vb m.Quiet,vs m.Helo,vi m.At]) 0 ⟨op_store_take _ _ _ _ _ _ _ _ sz49 rfl rfl rfl (zl rfl) rfl rfl⟩ ?_
  refine yee [1,2] ?_
  refine ht_seq ?_
  obtain ⟨v2, hv2, h⟩:=zn h
  refine yx hn 2 ?_
  refine ys 1 ⟨lk call13 (ok_clone_List_byte _ _ hv2)⟩ ?_
  refine yk [9,1] [10] ?_
  refine yt (1,.box 51 [vb m.From.Null,vs m.From.Local,vs m.From.Domain,.fl (.own 48) 3 (flatten (map T_Path.enc v1)),.fl (.own 5) 1 (map (int .u8) v2),vb m.Quiet,vs m.Helo,vi m.At]) 0 ⟨op_store_take _ _ _ _ _ _ _ _ sz22 rfl rfl rfl (zl rfl) rfl rfl⟩ ?_
  refine yee [1,2] ?_
  refine yxx hn 0 ?_
  refine yk [1] [] ?_
  refine yt (11,.agg [vb m.From.Null,vs m.From.Local,vs m.From.Domain,.fl (.own 48) 3 (flatten (map T_Path.enc v1)),.fl (.own 5) 1 (map (int .u8) v2),vb m.Quiet,vs m.Helo,vi m.At]) 0 ⟨op_loadA_take _ _ _ _ underlying51 rfl sz51 rfl rfl⟩ ?_
  refine yk [11,2] [] ?_
  refine yt (2,.box 51 [vb m.From.Null,vs m.From.Local,vs m.From.Domain,.fl (.own 48) 3 (flatten (map T_Path.enc v1)),.fl (.own 5) 1 (map (int .u8) v2),vb m.Quiet,vs m.Helo,vi m.At]) 0 ⟨op_store_take _ _ _ _ _ _ _ _ sz51 rfl rfl rfl (zl rfl) rfl rfl⟩ ?_
  refine yee [2] ?_
  refine ht_ret ?_
  obtain rfl:=zi h
  exact pt_ret hio rfl (.cellA _ _ _ _ underlying51 rfl sz51 .nil) rfl rfl
theorem ok_clone_Item (x:T_Item) (r:T_Item) (h:Sh.clone_Item x=some r):FnOK Tryz.prog 40 [.agg [.v (.int .i64 x.Id), .v (.bool x.Mail.From.Null), .v (.string x.Mail.From.Local), .v (.string x.Mail.From.Domain), .fl .shr 3 (flatten (map T_Path.enc x.Mail.To)), .fl .shr 1 (map (int .u8) x.Mail.Body), .v (.bool x.Mail.Quiet), .v (.string x.Mail.Helo), .v (.int .i64 x.Mail.At), .v (.int .i64 x.State), .v (.int .i64 x.Pack)]] (.agg [.v (.int .i64 r.Id), .v (.bool r.Mail.From.Null), .v (.string r.Mail.From.Local), .v (.string r.Mail.From.Domain), .fl (.own 48) 3 (flatten (map T_Path.enc r.Mail.To)), .fl (.own 5) 1 (map (int .u8) r.Mail.Body), .v (.bool r.Mail.Quiet), .v (.string r.Mail.Helo), .v (.int .i64 r.Mail.At), .v (.int .i64 r.State), .v (.int .i64 r.Pack)]):=by
  unfold Sh.clone_Item at h
  refine yO 8 func40 fun g0 hn hio => ?_
  refine yxx hn 1 ?_
  refine yS (.box 88 [vi 0,vb false,vs z0,vs z0,vz,vz,vb false,vs z0,vi 0,vi 0,vi 0]) 0 ⟨oA (op_alloc _ _ zr88)⟩ ?_
  refine yee [1,2] ?_
  refine ht_seq ?_
  obtain ⟨v1, hv1, h⟩:=zn h
  refine yx hn 2 ?_
  refine ys 1 ⟨lk call42 (ok_clone_Mail _ _ hv1)⟩ ?_
  refine yk [5,1] [6] ?_
  refine yt (1,.box 88 [vi x.Id,vb v1.From.Null,vs v1.From.Local,vs v1.From.Domain,.fl (.own 48) 3 (flatten (map T_Path.enc v1.To)),.fl (.own 5) 1 (map (int .u8) v1.Body),vb v1.Quiet,vs v1.Helo,vi v1.At,vi x.State,vi x.Pack]) 0 ⟨op_store_take _ _ _ _ _ _ _ _ sz51 rfl rfl rfl (zl rfl) rfl rfl⟩ ?_
  refine yee [1,2] ?_
  refine yxx hn 0 ?_
  refine yk [1] [] ?_
  refine yt (7,.agg [vi x.Id,vb v1.From.Null,vs v1.From.Local,vs v1.From.Domain,.fl (.own 48) 3 (flatten (map T_Path.enc v1.To)),.fl (.own 5) 1 (map (int .u8) v1.Body),vb v1.Quiet,vs v1.Helo,vi v1.At,vi x.State,vi x.Pack]) 0 ⟨op_loadA_take _ _ _ _ underlying88 rfl sz88 rfl rfl⟩ ?_
  refine yk [7,2] [] ?_
  refine yt (2,.box 88 [vi x.Id,vb v1.From.Null,vs v1.From.Local,vs v1.From.Domain,.fl (.own 48) 3 (flatten (map T_Path.enc v1.To)),.fl (.own 5) 1 (map (int .u8) v1.Body),vb v1.Quiet,vs v1.Helo,vi v1.At,vi x.State,vi x.Pack]) 0 ⟨op_store_take _ _ _ _ _ _ _ _ sz88 rfl rfl rfl (zl rfl) rfl rfl⟩ ?_
  refine yee [2] ?_
  refine ht_ret ?_
  obtain rfl:=zi h
  exact pt_ret hio rfl (.cellA _ _ _ _ underlying88 rfl sz88 .nil) rfl rfl
theorem ok_clone_Each_api_Item_of_clone_Item (l:(List T_Item)) (r:(List T_Item)) (h:Sh.clone_Each_api_Item_of_clone_Item l=some r):FnOK Tryz.prog 39 [.fr .shr true 11 (flatten (map T_Item.ienc l)), .v (.func (.func 40) #[] #[])] (.fr (.own 88) false 11 (flatten (map T_Item.ienc r))):=by
  unfold Sh.clone_Each_api_Item_of_clone_Item at h
  refine yO 22 func39 fun g0 hn hio => ?_
  refine yyy hn 1 [0,1] ?_
  refine yyy hn 1 [0,1,5] ?_
  refine ht_seq ?_
  refine yyy hn 3 [1,5,8,9,10] ?_
  refine ht_sub (fs:=[(1,.v (.func (.func 40) #[] #[])),(5,.fr (.own 88) false 11 (flatten (map T_Item.ienc []))),(8,.fr .shr true 11 (flatten (map T_Item.ienc l))),(9,vi (l.length:Int)),(10,vi 0)]) (.same _ (.sub _ (sub_nil_fr 88 false 11) rfl (.same _ (.same _ (.same _ .nil))))) ?_
  refine ht_loopS h (fun ((s10,s11):(List T_Item)×Int)=>[(1,.v (.func (.func 40) #[] #[])),(5,.fr (.own 88) false 11 (flatten (map T_Item.ienc s10))),(8,.fr .shr true 11 (flatten (map T_Item.ienc l))),(9,vi (l.length:Int)),(10,vi s11)]) (fun (s13:(List T_Item))=>[(5,.fr (.own 88) false 11 (flatten (map T_Item.ienc s13)))]) ?_ ?_
  ·rintro s13 h
   refine pt_then ?_
   refine yxx hn 0 ?_
   refine ym 0 ?_
   refine ya 0 ?_
   refine yee [4] ?_
   refine ht_ret ?_
   obtain rfl:=zi h
   exact pt_ret hio rfl (.tmp _ _ .nil) rfl rfl
  ·rintro u14 hl15 hr16 ⟨s10, s11⟩ rr19 h ho17
   refine yyy hn 1 [1,5,8,9,10,11] ?_
   refine ht_seq ?_
   refine ht_cond _ rfl (fun hb20 => ?_) (fun hb20 => ?_)
   ·have h:=cond_t hb20 h
    refine ht_skip ?_
    refine pt_then (ht_seq ?_)
    refine ht_block ?_
    refine ht_seq ?_
    obtain ⟨v2, hv2, h⟩:=zn h
    obtain ⟨v3, hv3, h⟩:=zn h
    refine yx hn 0 ?_
    refine ys 0 ⟨lI hv2⟩ ?_
    refine yS (.agg (T_Item.c v3 [])) 0 ⟨op_loadA_fr _ _ _ _ _ _ _ _ underlying88 rfl sz88 rfl rfl (gflat_get T_Item.ilen hv3) (.cons (.v _) (.cons (.v _) (.cons (.v _) (.cons (.v _) (.cons (.fl _ _ rfl) (.cons (.fl _ _ rfl) (.cons (.v _) (.cons (.v _) (.cons (.v _) (.cons (.v _) (.cons (.v _) (.nil)))))))))))) rfl (by decide)⟩ ?_
    refine yS (.box 88 [vi 0,vb false,vs z0,vs z0,vz,vz,vb false,vs z0,vi 0,vi 0,vi 0]) 1 ⟨oA (op_alloc _ _ zr88)⟩ ?_
    refine yee [1,5,8,9,10,7] ?_
    obtain ⟨v4, hv4, h⟩:=zn h
    obtain ⟨v5, hv5, h⟩:=zn h
    refine yx hn 0 ?_
    refine ym 2 ?_
    refine ys 0 ⟨lk call40 (ok_clone_Item _ _ hv4)⟩ ?_
    refine yk [17] [] ?_
    refine yt (18,.fr (.own 88) false 11 (flatten (map T_Item.ienc [(T_Item.mk v4.Id ((T_Mail.mk (T_Path.mk v4.Mail.From.Null v4.Mail.From.Local v4.Mail.From.Domain) v4.Mail.To v4.Mail.Body v4.Mail.Quiet v4.Mail.Helo v4.Mail.At)) v4.State v4.Pack)]))) 0 ⟨op_build1_fr_take _ _ _ 11 (.agg #[.int .i64 0,.bool false,.string ByteArray.empty,.string ByteArray.empty,.slice none 0 0,.slice none 0 0,.bool false,.string ByteArray.empty,.int .i64 0,.int .i64 0,.int .i64 0]) false _ _ underlying30 sz88 zr88 rfl (.cons (.v _) (.cons (.v _) (.cons (.v _) (.cons (.v _) (.cons (.ro _ _ rfl) (.cons (.ro _ _ rfl) (.cons (.v _) (.cons (.v _) (.cons (.v _) (.cons (.v _) (.cons (.v _) (.nil)))))))))))) rfl (by decide) (by decide)⟩ ?_
    refine yk [14] [18] ?_
    refine ytt (14,.any) (19,.fr (.own 88) false 11 (flatten (map T_Item.ienc v5))) 0 ⟨op_app_fr _ _ _ _ _ el30 rfl rfl (gflat_len T_Item.ilen _) (gflat_len T_Item.ilen _) hv5 (gflat_app (app_eq hv5)) (by decide) (by decide)⟩ ?_
    refine ya 0 ?_
    refine ye [1,8,9,10,5] ?_
    refine pt_inb ?_
    refine pt_then ?_
    obtain ⟨v6, hv6, h⟩:=zn h
    refine yx hn 0 ?_
    refine ys 0 ⟨lb hv6⟩ ?_
    refine yw [10] 1 ?_
    refine ye [1,8,9,5,10] ?_
    refine pt_pick [0,3,1,2,4] (by kernel_rfl) (es':=[(_,_),(_,_),(_,_),(_,_),(_,_)]) rfl ?_
    exact pt_next _ (zi h).symm rfl
   ·have h:=cond_f hb20 h
    refine ht_exit ?_
    refine pt_x_then ?_
    refine pt_x_then ?_
    refine pt_x_in ?_
    refine pt_pick [1] (by kernel_rfl) (es':=[(_,_)]) rfl ?_
    exact hl15 _ (ho17 _ (zi h).symm).symm
theorem ok_clone_List_int (l:(List Int)) (r:(List Int)) (h:Sh.clone_List_int l=some r):FnOK Tryz.prog 41 [.fl .shr 1 (map (int .i64) l)] (.fl (.own 3) 1 (map (int .i64) r)):=by
  unfold Sh.clone_List_int at h
  refine yO 5 func41 fun g0 hn hio => ?_
  refine yyy hn 1 [0] ?_
  refine ht_seq ?_
  obtain ⟨v1, hv1, h⟩:=zn h
  refine yx hn 1 ?_
  refine yS (.fl (.own 3) 1 (map (int .i64) v1)) 0 ⟨op_app_nil _ _ _ _ el31 rfl rfl (map_len _) hv1 (congrArg (map _) (app_nil_eq hv1))⟩ ?_
  refine ya 0 ?_
  refine yee [2] ?_
  refine ht_ret ?_
  obtain rfl:=zi h
  exact pt_ret hio rfl (.tmp _ _ .nil) rfl rfl
theorem ok_clone_Spool (s:T_Spool) (r:T_Spool) (h:Sh.clone_Spool s=some r):FnOK Tryz.prog 23 [.agg [.fr .shr true 11 (flatten (map T_Item.ienc s.Items)), .v (.int .i64 s.Packs), .fl .shr 1 (map (int .i64) s.Sent), .fl .shr 1 (map (int .u8) s.Part), .v (.int .i64 s.Of), .fl .shr 1 (map (int .i64) s.Done)]] (.agg [.fr (.own 88) false 11 (flatten (map T_Item.ienc r.Items)), .v (.int .i64 r.Packs), .fl (.own 3) 1 (map (int .i64) r.Sent), .fl (.own 5) 1 (map (int .u8) r.Part), .v (.int .i64 r.Of), .fl (.own 3) 1 (map (int .i64) r.Done)]):=by
  unfold Sh.clone_Spool at h
  refine yO 20 func23 fun g0 hn hio => ?_
  refine yxx hn 1 ?_
  refine yS (.box 33 [vz,vi 0,vz,vz,vi 0,vz]) 0 ⟨oA (op_alloc _ _ zr33)⟩ ?_
  refine yee [1,2] ?_
  refine ht_seq ?_
  obtain ⟨v1, hv1, h⟩:=zn h
  refine yx hn 2 ?_
  refine ys 1 ⟨lk call39 (ok_clone_Each_api_Item_of_clone_Item _ _ hv1)⟩ ?_
  refine yk [5,1] [6] ?_
  refine yt (1,.box 33 [.fr (.own 88) false 11 (flatten (map T_Item.ienc v1)),vi s.Packs,fi s.Sent,fb s.Part,vi s.Of,fi s.Done]) 0 ⟨op_store_take _ _ _ _ _ _ _ _ sz30 rfl rfl rfl (zl rfl) rfl rfl⟩ ?_
  refine yee [1,2] ?_
  refine ht_seq ?_
  obtain ⟨v2, hv2, h⟩:=zn h
  refine yx hn 2 ?_
  refine ys 1 ⟨lk call41 (ok_clone_List_int _ _ hv2)⟩ ?_
  refine yk [9,1] [10] ?_
  refine yt (1,.box 33 [.fr (.own 88) false 11 (flatten (map T_Item.ienc v1)),vi s.Packs,.fl (.own 3) 1 (map (int .i64) v2),fb s.Part,vi s.Of,fi s.Done]) 0 ⟨op_store_take _ _ _ _ _ _ _ _ sz31 rfl rfl rfl (zl rfl) rfl rfl⟩ ?_
  refine yee [1,2] ?_
  refine ht_seq ?_
  obtain ⟨v3, hv3, h⟩:=zn h
  refine yx hn 2 ?_
  refine ys 1 ⟨lk call13 (ok_clone_List_byte _ _ hv3)⟩ ?_
  refine yk [13,1] [14] ?_
  refine yt (1,.box 33 [.fr (.own 88) false 11 (flatten (map T_Item.ienc v1)),vi s.Packs,.fl (.own 3) 1 (map (int .i64) v2),.fl (.own 5) 1 (map (int .u8) v3),vi s.Of,fi s.Done]) 0 ⟨op_store_take _ _ _ _ _ _ _ _ sz22 rfl rfl rfl (zl rfl) rfl rfl⟩ ?_
  refine yee [1,2] ?_
  refine ht_seq ?_
  obtain ⟨v4, hv4, h⟩:=zn h
  refine yx hn 2 ?_
  refine ys 1 ⟨lk call41 (ok_clone_List_int _ _ hv4)⟩ ?_
  refine yk [17,1] [18] ?_
  refine yt (1,.box 33 [.fr (.own 88) false 11 (flatten (map T_Item.ienc v1)),vi s.Packs,.fl (.own 3) 1 (map (int .i64) v2),.fl (.own 5) 1 (map (int .u8) v3),vi s.Of,.fl (.own 3) 1 (map (int .i64) v4)]) 0 ⟨op_store_take _ _ _ _ _ _ _ _ sz31 rfl rfl rfl (zl rfl) rfl rfl⟩ ?_
  refine yee [1,2] ?_
  refine yxx hn 0 ?_
  refine yk [1] [] ?_
  refine yt (19,.agg [.fr (.own 88) false 11 (flatten (map T_Item.ienc v1)),vi s.Packs,.fl (.own 3) 1 (map (int .i64) v2),.fl (.own 5) 1 (map (int .u8) v3),vi s.Of,.fl (.own 3) 1 (map (int .i64) v4)]) 0 ⟨op_loadA_take _ _ _ _ underlying33 rfl sz33 rfl rfl⟩ ?_
  refine yk [19,2] [] ?_
  refine yt (2,.box 33 [.fr (.own 88) false 11 (flatten (map T_Item.ienc v1)),vi s.Packs,.fl (.own 3) 1 (map (int .i64) v2),.fl (.own 5) 1 (map (int .u8) v3),vi s.Of,.fl (.own 3) 1 (map (int .i64) v4)]) 0 ⟨op_store_take _ _ _ _ _ _ _ _ sz33 rfl rfl rfl (zl rfl) rfl rfl⟩ ?_
  refine yee [2] ?_
  refine ht_ret ?_
  obtain rfl:=zi h
  exact pt_ret hio rfl (.cellA _ _ _ _ underlying33 rfl sz33 .nil) rfl rfl
theorem ok_cmp_isNaN_int (x:Int) (r:Bool) (h:Sh.cmp_isNaN_int x=some r):FnOK Tryz.prog 60 [.v (.int .i64 x)] (.v (.bool r)):=by
  unfold Sh.cmp_isNaN_int at h
  refine yO 6 func60 fun g0 hn hio => ?_
  refine yyy hn 1 [0] ?_
  refine yyy hn 4 [2] ?_
  refine ht_ret ?_
  obtain rfl:=zi h
  exact pt_ret hio rfl (.tmp _ _ .nil) rfl rfl
theorem ok_cmp_Less_int (x:Int) (y:Int) (r:Bool) (h:Sh.cmp_Less_int x y=some r):FnOK Tryz.prog 53 [.v (.int .i64 x), .v (.int .i64 y)] (.v (.bool r)):=by
  unfold Sh.cmp_Less_int at h
  refine yO 17 func53 fun g0 hn hio => ?_
  refine yyy hn 1 [0,1] ?_
  refine ht_seq ?_
  refine ht_joinS h (fun (s3:Bool)=>[(4,vb s3)]) ?_ ?_
  ·rintro s3 h
   refine pt_then (ht_ret ?_)
   obtain rfl:=zi h
   exact pt_ret hio rfl (.tmp _ _ .nil) rfl rfl
  ·intro u4 h hl5 hr6
   obtain ⟨v1, hv1, h⟩:=zn h
   refine cond_some h (fun hg1_2 h => ?_) (fun hg1_2 h => ?_)
   ·obtain ⟨v2, hv2, h⟩:=zn h
    refine cond_some h (fun hg1_7 h => ?_) (fun hg1_7 h => ?_)
    ·refine yx hn 1 ?_
     refine ys 1 ⟨lk call60 (ok_cmp_isNaN_int _ _ hv1)⟩ ?_
     refine yd hg1_2 1 ?_
     refine ys 3 ⟨lk call60 (ok_cmp_isNaN_int _ _ hv2)⟩ ?_
     refine yd hg1_7 5 ?_
     refine ye [4] ?_
     exact hl5 _ (zi h).symm
    ·refine yx hn 1 ?_
     refine ys 1 ⟨lk call60 (ok_cmp_isNaN_int _ _ hv1)⟩ ?_
     refine yd hg1_2 1 ?_
     refine ys 3 ⟨lk call60 (ok_cmp_isNaN_int _ _ hv2)⟩ ?_
     refine yd hg1_7 5 ?_
     refine ye [4] ?_
     exact hl5 _ (zi h).symm
   ·refine yx hn 1 ?_
    refine ys 1 ⟨lk call60 (ok_cmp_isNaN_int _ _ hv1)⟩ ?_
    refine yd hg1_2 10 ?_
    refine ye [4] ?_
    exact hl5 _ (zi h).symm
theorem ok_slices_isNaN_int (x:Int) (r:Bool) (h:Sh.slices_isNaN_int x=some r):FnOK Tryz.prog 54 [.v (.int .i64 x)] (.v (.bool r)):=by
  unfold Sh.slices_isNaN_int at h
  refine yO 6 func54 fun g0 hn hio => ?_
  refine yyy hn 1 [0] ?_
  refine yyy hn 4 [2] ?_
  refine ht_ret ?_
  obtain rfl:=zi h
  exact pt_ret hio rfl (.tmp _ _ .nil) rfl rfl
theorem ok_slices_BinarySearch_int_int (x:(List Int)) (target:Int) (r:(Int×Bool)) (h:Sh.slices_BinarySearch_int_int x target=some r):FnOK Tryz.prog 44 [.fl .shr 1 (map (int .i64) x), .v (.int .i64 target)] (.tup [.v (.int .i64 r.1), .v (.bool r.2)]):=by
  unfold Sh.slices_BinarySearch_int_int at h
  refine yO 54 func44 fun g0 hn hio => ?_
  refine yyy hn 2 [0,1] ?_
  refine yyy hn 3 [0,1,6] ?_
  refine yyy hn 3 [0,1,6,7,8] ?_
  refine ht_seq ?_
  refine ht_loopS h (fun ((s27,s28):Int×Int)=>[(0,fi x),(1,vi target),(6,vi (x.length:Int)),(7,vi s27),(8,vi s28)]) (fun (s37:Int)=>[(0,fi x),(1,vi target),(6,vi (x.length:Int)),(7,vi s37)]) ?_ ?_
  ·rintro s37 h
   refine pt_then (ht_seq ?_)
   refine ht_joinS h (fun (s58:Bool)=>[(4,vi s37),(5,vb s58)]) ?_ ?_
   ·rintro s58 h
    refine pt_then (ht_ret ?_)
    obtain rfl:=zi h
    exact pt_ret hio rfl (.tmp _ _ (.tmp _ _ .nil)) rfl rfl
   ·intro u59 h hl60 hr61
    refine cond_some h (fun hg8_4 h => ?_) (fun hg8_4 h => ?_)
    ·obtain ⟨v52, hv52, h⟩:=zn h
     obtain ⟨v53, hv53, h⟩:=zn h
     refine cond_some h (fun hg8_11 h => ?_) (fun hg8_11 h => ?_)
     ·refine yx hn 5 ?_
      refine yd hg8_4 2 ?_
      refine ys 0 ⟨li hv52⟩ ?_
      refine ys 3 ⟨ll hv53⟩ ?_
      refine yd hg8_11 13 ?_
      refine ye [4,5] ?_
      exact hl60 _ (zi h).symm
     ·obtain ⟨v54, hv54, h⟩:=zn h
      obtain ⟨v55, hv55, h⟩:=zn h
      obtain ⟨v56, hv56, h⟩:=zn h
      refine cond_some h (fun hg8_17 h => ?_) (fun hg8_17 h => ?_)
      ·obtain ⟨v57, hv57, h⟩:=zn h
       refine yx hn 5 ?_
       refine yd hg8_4 2 ?_
       refine ys 0 ⟨li hv52⟩ ?_
       refine ys 3 ⟨ll hv53⟩ ?_
       refine yd hg8_11 2 ?_
       refine ys 0 ⟨li hv54⟩ ?_
       refine ys 0 ⟨ll hv55⟩ ?_
       refine ys 1 ⟨lk call54 (ok_slices_isNaN_int _ _ hv56)⟩ ?_
       refine yd hg8_17 1 ?_
       refine ys 5 ⟨lk call54 (ok_slices_isNaN_int _ _ hv57)⟩ ?_
       refine ye [4,5] ?_
       exact hl60 _ (zi h).symm
      ·refine yx hn 5 ?_
       refine yd hg8_4 2 ?_
       refine ys 0 ⟨li hv52⟩ ?_
       refine ys 3 ⟨ll hv53⟩ ?_
       refine yd hg8_11 2 ?_
       refine ys 0 ⟨li hv54⟩ ?_
       refine ys 0 ⟨ll hv55⟩ ?_
       refine ys 1 ⟨lk call54 (ok_slices_isNaN_int _ _ hv56)⟩ ?_
       refine yd hg8_17 7 ?_
       refine ye [4,5] ?_
       exact hl60 _ (zi h).symm
    ·refine yx hn 5 ?_
     refine yd hg8_4 20 ?_
     refine ye [4,5] ?_
     exact hl60 _ (zi h).symm
  ·rintro u38 hl39 hr40 ⟨s27, s28⟩ rr43 h ho41
   refine ht_seq ?_
   refine yyy hn 3 [0,1,6,7,8,15] ?_
   refine ht_cond _ rfl (fun hb44 => ?_) (fun hb44 => ?_)
   ·have h:=cond_t hb44 h
    refine ht_skip ?_
    refine pt_then ?_
    refine ht_joinS h (fun ((s46,s47):Int×Int)=>[(0,fi x),(1,vi target),(6,vi (x.length:Int)),(8,vi s46),(7,vi s47)]) ?_ ?_
    ·rintro ⟨s46, s47⟩ h
     refine pt_pick [0,1,2,4,3] (by kernel_rfl) (es':=[(_,_),(_,_),(_,_),(_,_),(_,_)]) rfl ?_
     exact pt_next _ (zi h).symm rfl
    ·intro u48 h hl49 hr50
     refine ht_block ?_
     refine ht_seq ?_
     obtain ⟨v2, hv2, h⟩:=zn h
     obtain ⟨v3, hv3, h⟩:=zn h
     obtain ⟨v4, hv4, h⟩:=zn h
     obtain ⟨v5, hv5, h⟩:=zn h
     refine yx hn 2 ?_
     refine ys 0 ⟨lb hv2⟩ ?_
     refine ys 0 ⟨lv hv3⟩ ?_
     refine ys 0 ⟨lB (shr_ok hv4)⟩ ?_
     refine ys 1 ⟨lv hv5⟩ ?_
     refine yee [0,1,6,7,8,9] ?_
     refine ht_seq ?_
     obtain ⟨v6, hv6, h⟩:=zn h
     obtain ⟨v7, hv7, h⟩:=zn h
     obtain ⟨v8, hv8, h⟩:=zn h
     refine yx hn 2 ?_
     refine ys 0 ⟨li hv6⟩ ?_
     refine ys 1 ⟨ll hv7⟩ ?_
     refine ys 0 ⟨lk call53 (ok_cmp_Less_int _ _ _ hv8)⟩ ?_
     refine yee [0,1,6,7,8,9,27] ?_
     refine ht_cond _ rfl (fun hb51 => ?_) (fun hb51 => ?_)
     ·have h:=cond_t hb51 h
      obtain ⟨v10, hv10, h⟩:=zn h
      refine yx hn 1 ?_
      refine ys 0 ⟨lb hv10⟩ ?_
      refine yw [7] 1 ?_
      refine ye [0,1,6,8,7] ?_
      refine pt_inb ?_
      exact hl49 _ (zi h).symm
     ·have h:=cond_f hb51 h
      refine yx hn 1 ?_
      refine yw [8] 1 ?_
      refine ye [0,1,6,7,8] ?_
      refine pt_inb ?_
      refine pt_pick [0,1,2,4,3] (by kernel_rfl) (es':=[(_,_),(_,_),(_,_),(_,_),(_,_)]) rfl ?_
      exact hl49 _ (zi h).symm
   ·have h:=cond_f hb44 h
    refine ht_exit ?_
    refine pt_x_then ?_
    refine pt_x_then ?_
    refine pt_x_in ?_
    refine pt_pick [0,1,2,3] (by kernel_rfl) (es':=[(_,_),(_,_),(_,_),(_,_)]) rfl ?_
    exact hl39 _ (ho41 _ (zi h).symm).symm
theorem ok_spool_apply (s:T_Spool) (p_r:T_Rec) (r:T_Spool) (h:Sh.spool_apply s p_r=some r):FnP Tryz.prog 24 [.box 33 [.fr (.own 88) false 11 (flatten (map T_Item.ienc s.Items)), .v (.int .i64 s.Packs), .fl (.own 3) 1 (map (int .i64) s.Sent), .fl (.own 5) 1 (map (int .u8) s.Part), .v (.int .i64 s.Of), .fl (.own 3) 1 (map (int .i64) s.Done)], .agg [.v (.int .i64 p_r.Kind), .v (.bool p_r.Mail.From.Null), .v (.string p_r.Mail.From.Local), .v (.string p_r.Mail.From.Domain), .fl .shr 3 (flatten (map T_Path.enc p_r.Mail.To)), .fl .shr 1 (map (int .u8) p_r.Mail.Body), .v (.bool p_r.Mail.Quiet), .v (.string p_r.Mail.Helo), .v (.int .i64 p_r.Mail.At), .v (.int .i64 p_r.Id), .fl .shr 1 (map (int .i64) p_r.Ids), .v (.int .i64 p_r.Origin), .v (.int .i64 p_r.Number), .v (.int .i64 p_r.Offset), .fl .shr 1 (map (int .u8) p_r.Data)]] [.box 33 [.fr (.own 88) false 11 (flatten (map T_Item.ienc r.Items)), .v (.int .i64 r.Packs), .fl (.own 3) 1 (map (int .i64) r.Sent), .fl (.own 5) 1 (map (int .u8) r.Part), .v (.int .i64 r.Of), .fl (.own 3) 1 (map (int .i64) r.Done)]] (.tup []):=by
  unfold Sh.spool_apply at h
  refine yP 183 func24 fun args0 hargs0 g0 hn hio => ?_
  refine yyy hn 1 [0,3,0] ?_
  refine yyy hn 2 [0,3,12,0] ?_
  refine ht_joinS h (fun ((s125,s126,s127,s128,s129,s130):(List T_Item)×Int×(List Int)×(List Int)×Int×(List Int))=>[(0,.box 33 [.fr (.own 88) false 11 (flatten (map T_Item.ienc s125)),vi s126,.fl (.own 3) 1 (map (int .i64) s127),.fl (.own 5) 1 (map (int .u8) s128),vi s129,.fl (.own 3) 1 (map (int .i64) s130)]),(0,.v (List.getD args0 0 undef))]) ?_ ?_
  ·rintro ⟨s125, s126, s127, s128, s129, s130⟩ h
   obtain rfl:=zi h
   exact pt_endP (es:=[]) (posts:=[.box 33 [.fr (.own 88) false 11 (flatten (map T_Item.ienc s125)),.v (.int .i64 s126),.fl (.own 3) 1 (map (int .i64) s127),.fl (.own 5) 1 (map (int .u8) s128),.v (.int .i64 s129),.fl (.own 3) 1 (map (int .i64) s130)]]) hio rfl rfl .nil rfl rfl hargs0 rfl
  ·intro u131 h hl132 hr133
   refine ht_block ?_
   refine yyy hn 2 [0,3,12,13,0] ?_
   refine ht_cond _ rfl (fun hb134 => ?_) (fun hb134 => ?_)
   ·have h:=cond_t hb134 h
    refine yyy hn 1 [0,3,4,0] ?_
    refine ht_seq ?_
    refine ht_joinS h (fun (s136:Int)=>[(0,.box 33 [.fr (.own 88) false 11 (flatten (map T_Item.ienc s.Items)),vi s.Packs,.fl (.own 3) 1 (map (int .i64) s.Sent),.fl (.own 5) 1 (map (int .u8) s.Part),vi s.Of,.fl (.own 3) 1 (map (int .i64) s.Done)]),(3,.box 53 (T_Rec.c p_r [])),(4,vi s136),(0,.v (List.getD args0 0 undef))]) ?_ ?_
    ·rintro s136 h
     refine pt_then ?_
     obtain ⟨v8, hv8, h⟩:=zn h
     obtain ⟨v9, hv9, h⟩:=zn h
     refine wb [[],[],[19,0],[20,0],[21,0],[3],[23,3],[3],[25,3]] ?_
     refine wN [26] ?_
     refine wo [[4]] ⟨lk call42 (ok_clone_Mail _ _ hv8)⟩ ?_
     refine wK [27] [24,28] ?_
     refine wt [(29,.agg [vi p_r.Id,vb v8.From.Null,vs v8.From.Local,vs v8.From.Domain,.fl (.own 48) 3 (flatten (map T_Path.enc v8.To)),.fl (.own 5) 1 (map (int .u8) v8.Body),vb v8.Quiet,vs v8.Helo,vi v8.At,vi s136,vi 0])] [] ⟨op_build _ _ _ _ [1,8,1,1] _ _ underlying88 zr88 (fs88 _ underlying88) (.copy _ (.take _ _ (.copy _ Src.nil))) rfl rfl rfl⟩ ?_
     refine wK [29] [] ?_
     refine wt [(30,.fr (.own 88) false 11 (flatten (map T_Item.ienc [(T_Item.mk p_r.Id ((T_Mail.mk (T_Path.mk v8.From.Null v8.From.Local v8.From.Domain) v8.To v8.Body v8.Quiet v8.Helo v8.At)) s136 0)])))] [] ⟨op_build1_fr_take _ _ _ 11 (.agg #[.int .i64 0,.bool false,.string ByteArray.empty,.string ByteArray.empty,.slice none 0 0,.slice none 0 0,.bool false,.string ByteArray.empty,.int .i64 0,.int .i64 0,.int .i64 0]) false _ _ underlying30 sz88 zr88 rfl (.cons (.v _) (.cons (.v _) (.cons (.v _) (.cons (.v _) (.cons (.ro _ _ rfl) (.cons (.ro _ _ rfl) (.cons (.v _) (.cons (.v _) (.cons (.v _) (.cons (.v _) (.cons (.v _) (.nil)))))))))))) rfl (by decide) (by decide)⟩ ?_
     refine wK [0] [22,30] ?_
     refine wt [(0,.box 33 [.any,vi s.Packs,.fl (.own 3) 1 (map (int .i64) s.Sent),.fl (.own 5) 1 (map (int .u8) s.Part),vi s.Of,.fl (.own 3) 1 (map (int .i64) s.Done)]),(31,.fr (.own 88) false 11 (flatten (map T_Item.ienc v9)))] [[18,0],[32,0]] ⟨op_app_fr_cell _ 31 0 0 _ _ el30 rfl rfl (zl rfl) rfl (gflat_len T_Item.ilen _) (gflat_len T_Item.ilen _) hv9 (gflat_app (app_eq hv9)) (by decide) (by decide) (by decide) rfl rfl⟩ ?_
     refine wK [22,31,0] [33] ?_
     refine wt [(0,.box 33 [.fr (.own 88) false 11 (flatten (map T_Item.ienc v9)),vi s.Packs,.fl (.own 3) 1 (map (int .i64) s.Sent),.fl (.own 5) 1 (map (int .u8) s.Part),vi s.Of,.fl (.own 3) 1 (map (int .i64) s.Done)])] [] ⟨LOp.drop [_] (op_store_take _ _ _ _ _ _ _ _ sz30 rfl rfl rfl (zl rfl) rfl rfl)⟩ ?_
     refine we hn [0,0] ?_
     refine pt_inb ?_
     exact hl132 _ (zi h).symm
    ·intro u137 h hl138 hr139
     refine yyy hn 3 [0,3,4,17,0] ?_
     refine ht_cond _ rfl (fun hb140 => ?_) (fun hb140 => ?_)
     ·have h:=cond_t hb140 h
      refine yx hn 0 ?_
      refine yw [4] 1 ?_
      refine ye [0,3,4,0] ?_
      exact hl138 _ (zi h).symm
     ·have h:=cond_f hb140 h
      refine ht_skip ?_
      refine pt_pick [0,1,2,4] (by kernel_rfl) (es':=[(_,_),(_,_),(_,_),(_,_)]) rfl ?_
      exact hl138 _ (zi h).symm
   ·have h:=cond_f hb134 h
    refine yyy hn 2 [0,3,12,34,0] ?_
    refine ht_cond _ rfl (fun hb141 => ?_) (fun hb141 => ?_)
    ·have h:=cond_t hb141 h
     refine ht_seq ?_
     refine yyy hn 6 [0,3,39,40,41,0] ?_
     refine ht_loopS h (fun ((s158,s159):(List T_Item)×Int)=>[(0,.box 33 [.fr (.own 88) false 11 (flatten (map T_Item.ienc s158)),vi s.Packs,.fl (.own 3) 1 (map (int .i64) s.Sent),.fl (.own 5) 1 (map (int .u8) s.Part),vi s.Of,.fl (.own 3) 1 (map (int .i64) s.Done)]),(3,.box 53 (T_Rec.c p_r [])),(39,.same (.cell 0 0)),(40,vi (s.Items.length:Int)),(41,vi s159),(0,.v (List.getD args0 0 undef))]) (fun (s167:(List T_Item))=>[(0,.box 33 [.fr (.own 88) false 11 (flatten (map T_Item.ienc s167)),vi s.Packs,.fl (.own 3) 1 (map (int .i64) s.Sent),.fl (.own 5) 1 (map (int .u8) s.Part),vi s.Of,.fl (.own 3) 1 (map (int .i64) s.Done)]),(3,.box 53 (T_Rec.c p_r [])),(0,.v (List.getD args0 0 undef))]) ?_ ?_
     ·rintro s167 h
      refine pt_then ?_
      refine yy hn 6 [0,0] ?_
      refine pt_inb ?_
      exact hl132 _ (zi h).symm
     ·rintro u168 hl169 hr170 ⟨s158, s159⟩ rr173 h ho171
      refine yyy hn 1 [0,3,39,40,41,42,0] ?_
      refine ht_seq ?_
      refine ht_cond _ rfl (fun hb174 => ?_) (fun hb174 => ?_)
      ·have h:=cond_t hb174 h
       refine ht_skip ?_
       refine pt_then (ht_seq ?_)
       refine ht_joinS h (fun (s176:(List T_Item))=>[(0,.box 33 [.fr (.own 88) false 11 (flatten (map T_Item.ienc s176)),vi s.Packs,.fl (.own 3) 1 (map (int .i64) s.Sent),.fl (.own 5) 1 (map (int .u8) s.Part),vi s.Of,.fl (.own 3) 1 (map (int .i64) s.Done)]),(3,.box 53 (T_Rec.c p_r [])),(39,.same (.cell 0 0)),(40,vi (s.Items.length:Int)),(41,vi s159),(0,.v (List.getD args0 0 undef))]) ?_ ?_
       ·rintro s176 h
        refine pt_then ?_
        obtain ⟨v27, hv27, h⟩:=zn h
        refine yx hn 0 ?_
        refine ys 0 ⟨lb hv27⟩ ?_
        refine yw [41] 1 ?_
        refine ye [0,3,39,40,41,0] ?_
        exact pt_next _ (zi h).symm rfl
       ·intro u177 h hl178 hr179
        refine ht_block ?_
        refine ht_seq ?_
        obtain ⟨v12, hv12, h⟩:=zn h
        obtain ⟨v13, hv13, h⟩:=zn h
        refine yx hn 1 ?_
        refine ys 0 ⟨lI hv12⟩ ?_
        refine yS (.agg [vi v13.Id,vb v13.Mail.From.Null,vs v13.Mail.From.Local,vs v13.Mail.From.Domain,.fl .ro 3 (flatten (map T_Path.enc v13.Mail.To)),.fl .ro 1 (map (int .u8) v13.Mail.Body),vb v13.Mail.Quiet,vs v13.Mail.Helo,vi v13.Mail.At,vi v13.State,vi v13.Pack]) 0 ⟨op_loadA_fr _ _ _ _ _ _ _ _ underlying88 rfl sz88 rfl rfl (gflat_get T_Item.ilen hv13) (.cons (.v _) (.cons (.v _) (.cons (.v _) (.cons (.v _) (.cons (.fl _ _ rfl) (.cons (.fl _ _ rfl) (.cons (.v _) (.cons (.v _) (.cons (.v _) (.cons (.v _) (.cons (.v _) (.nil)))))))))))) rfl (by decide)⟩ ?_
        refine yS (.box 88 [vi 0,vb false,vs z0,vs z0,vz,vz,vb false,vs z0,vi 0,vi 0,vi 0]) 2 ⟨oA (op_alloc _ _ zr88)⟩ ?_
        refine yee [0,3,39,40,41,6,5,0] ?_
        refine ht_seq ?_
        obtain ⟨v14, hv14, h⟩:=zn h
        refine yx hn 4 ?_
        refine ys 0 ⟨lk call28 (ok_slices_Contains_int_int _ _ _ hv14)⟩ ?_
        refine yee [0,3,39,40,41,5,50,0] ?_
        refine ht_cond _ rfl (fun hb180 => ?_) (fun hb180 => ?_)
        ·have h:=cond_t hb180 h
         refine ht_seq ?_
         obtain ⟨v16, hv16, h⟩:=zn h
         obtain ⟨v17, hv17, h⟩:=zn h
         obtain ⟨v18, hv18, h⟩:=zn h
         refine yx hn 5 ?_
         refine ys 1 ⟨lI hv16⟩ ?_
         refine yk [0] [57] ?_
         refine yt (0,.box 33 [.fr (.own 88) false 11 (flatten (map T_Item.ienc v18)),vi s.Packs,.fl (.own 3) 1 (map (int .i64) s.Sent),.fl (.own 5) 1 (map (int .u8) s.Part),vi s.Of,.fl (.own 3) 1 (map (int .i64) s.Done)]) 0 ⟨op_store_fr_cell _ _ _ 0 0 _ 1 _ sz3 rfl rfl (zl rfl) rfl rfl (by decide) (gflat_fit (q:=9) (s:=1) T_Item.ilen hv17 (by decide)) ((gflat_setc (q:=9) (s:=1) (y:=(T_Item.mk v17.Id ((T_Mail.mk (T_Path.mk v17.Mail.From.Null v17.Mail.From.Local v17.Mail.From.Domain) v17.Mail.To v17.Mail.Body v17.Mail.Quiet v17.Mail.Helo v17.Mail.At)) 2 v17.Pack)) T_Item.ilen hv17 rfl (by decide)).trans (congrArg (fun l=>flatten (map T_Item.ienc l)) (Option.some.inj hv18))) rfl⟩ ?_
         refine yee [0,3,39,40,41,5,0] ?_
         obtain ⟨v19, hv19, h⟩:=zn h
         obtain ⟨v20, hv20, h⟩:=zn h
         obtain ⟨v21, hv21, h⟩:=zn h
         refine wb [[],[58,0],[59,0],[60,0],[5],[3],[63,3]] ?_
         refine wN [61,0,62] ?_
         refine wo [[65,0]] ⟨lI hv19⟩ ?_
         refine wK [0] [66,64] ?_
         refine wt [(0,.box 33 [.fr (.own 88) false 11 (flatten (map T_Item.ienc v21)),vi s.Packs,.fl (.own 3) 1 (map (int .i64) s.Sent),.fl (.own 5) 1 (map (int .u8) s.Part),vi s.Of,.fl (.own 3) 1 (map (int .i64) s.Done)])] [] ⟨op_store_fr_cell _ _ _ 0 0 _ 1 _ sz3 rfl rfl (zl rfl) rfl rfl (by decide) (gflat_fit (q:=10) (s:=1) T_Item.ilen hv20 (by decide)) ((gflat_setc (q:=10) (s:=1) (y:=(T_Item.mk v20.Id ((T_Mail.mk (T_Path.mk v20.Mail.From.Null v20.Mail.From.Local v20.Mail.From.Domain) v20.Mail.To v20.Mail.Body v20.Mail.Quiet v20.Mail.Helo v20.Mail.At)) v20.State p_r.Number)) T_Item.ilen hv20 rfl (by decide)).trans (congrArg (fun l=>flatten (map T_Item.ienc l)) (Option.some.inj hv21))) rfl⟩ ?_
         refine we hn [0,3,39,40,41,0] ?_
         refine pt_inb ?_
         exact hl178 _ (zi h).symm
        ·have h:=cond_f hb180 h
         refine ht_skip ?_
         refine pt_inb ?_
         refine pt_pick [0,1,2,3,4,7] (by kernel_rfl) (es':=[(_,_),(_,_),(_,_),(_,_),(_,_),(_,_)]) rfl ?_
         exact hl178 _ (zi h).symm
      ·have h:=cond_f hb174 h
       refine ht_exit ?_
       refine pt_x_then ?_
       refine pt_x_then ?_
       refine pt_x_in ?_
       refine pt_pick [0,1,6] (by kernel_rfl) (es':=[(_,_),(_,_),(_,_)]) rfl ?_
       exact hl169 _ (ho171 _ (zi h).symm).symm
    ·have h:=cond_f hb141 h
     refine yyy hn 2 [0,3,12,73,0] ?_
     refine ht_cond _ rfl (fun hb181 => ?_) (fun hb181 => ?_)
     ·have h:=cond_t hb181 h
      refine ht_seq ?_
      refine yyy hn 6 [0,3,78,79,80,0] ?_
      refine ht_loopS h (fun ((s198,s199):(List T_Item)×Int)=>[(0,.box 33 [.fr (.own 88) false 11 (flatten (map T_Item.ienc s198)),vi s.Packs,.fl (.own 3) 1 (map (int .i64) s.Sent),.fl (.own 5) 1 (map (int .u8) s.Part),vi s.Of,.fl (.own 3) 1 (map (int .i64) s.Done)]),(3,.box 53 (T_Rec.c p_r [])),(78,.same (.cell 0 0)),(79,vi (s.Items.length:Int)),(80,vi s199),(0,.v (List.getD args0 0 undef))]) (fun (s207:(List T_Item))=>[(0,.box 33 [.fr (.own 88) false 11 (flatten (map T_Item.ienc s207)),vi s.Packs,.fl (.own 3) 1 (map (int .i64) s.Sent),.fl (.own 5) 1 (map (int .u8) s.Part),vi s.Of,.fl (.own 3) 1 (map (int .i64) s.Done)]),(3,.box 53 (T_Rec.c p_r [])),(0,.v (List.getD args0 0 undef))]) ?_ ?_
      ·rintro s207 h
       refine pt_then ?_
       obtain ⟨v106, hv106, h⟩:=zn h
       refine wb [[],[],[99,0],[100,0],[101,0],[3],[103,3]] ?_
       refine wN [104] ?_
       refine wS (.fl (.own 3) 1 (map (int .i64) [p_r.Number])) [] ⟨op_buildSlice _ _ 1 (.int .i64 0) (map (int .i64) [p_r.Number]) [(0,.int .i64 p_r.Number)] underlying31 sz3 zr3 (fun _ V w o a hv hes=>by have e0:=rd_v hv hes (x := .tmp 104) rfl; simp only [List.map_toArray,List.map_cons,List.map_nil,e0]; try rfl) (litfill (by simp [Instr.fill,Value.cells]; rfl) (by simp [List.range,List.range.loop] <;> rfl)) (by simp [Value.oneCell']) rfl (by decide) (by decide) (by decide)⟩ ?_
       refine wK [0] [102,105] ?_
       refine wt [(0,.box 33 [.fr (.own 88) false 11 (flatten (map T_Item.ienc s207)),vi s.Packs,.any,.fl (.own 5) 1 (map (int .u8) s.Part),vi s.Of,.fl (.own 3) 1 (map (int .i64) s.Done)]),(106,.fl (.own 3) 1 (map (int .i64) v106))] [[98,0],[107,0]] ⟨op_app_cell _ _ _ _ _ _ el31 rfl rfl (zl rfl) rfl (map_len _) (map_len _) hv106 ((List.map_append).symm.trans (congrArg (map _) (app_eq hv106))) (Nat.ne_of_beq_eq_false rfl) rfl rfl⟩ ?_
       refine wK [102,106,0] [108] ?_
       refine wt [(0,.box 33 [.fr (.own 88) false 11 (flatten (map T_Item.ienc s207)),vi s.Packs,.fl (.own 3) 1 (map (int .i64) v106),.fl (.own 5) 1 (map (int .u8) s.Part),vi s.Of,.fl (.own 3) 1 (map (int .i64) s.Done)])] [] ⟨LOp.drop [_] (op_store_take _ _ _ _ _ _ _ _ sz31 rfl rfl rfl (zl rfl) rfl rfl)⟩ ?_
       refine we hn [0,0] ?_
       refine pt_inb ?_
       exact hl132 _ (zi h).symm
      ·rintro u208 hl209 hr210 ⟨s198, s199⟩ rr213 h ho211
       refine yyy hn 1 [0,3,78,79,80,81,0] ?_
       refine ht_seq ?_
       refine ht_cond _ rfl (fun hb214 => ?_) (fun hb214 => ?_)
       ·have h:=cond_t hb214 h
        refine ht_skip ?_
        refine pt_then (ht_seq ?_)
        refine ht_joinS h (fun (s216:(List T_Item))=>[(0,.box 33 [.fr (.own 88) false 11 (flatten (map T_Item.ienc s216)),vi s.Packs,.fl (.own 3) 1 (map (int .i64) s.Sent),.fl (.own 5) 1 (map (int .u8) s.Part),vi s.Of,.fl (.own 3) 1 (map (int .i64) s.Done)]),(3,.box 53 (T_Rec.c p_r [])),(78,.same (.cell 0 0)),(79,vi (s.Items.length:Int)),(80,vi s199),(0,.v (List.getD args0 0 undef))]) ?_ ?_
        ·rintro s216 h
         refine pt_then ?_
         obtain ⟨v73, hv73, h⟩:=zn h
         refine yx hn 0 ?_
         refine ys 0 ⟨lb hv73⟩ ?_
         refine yw [80] 1 ?_
         refine ye [0,3,78,79,80,0] ?_
         exact pt_next _ (zi h).symm rfl
        ·intro u217 h hl218 hr219
         refine ht_block ?_
         refine ht_seq ?_
         obtain ⟨v62, hv62, h⟩:=zn h
         obtain ⟨v63, hv63, h⟩:=zn h
         refine yx hn 1 ?_
         refine ys 0 ⟨lI hv62⟩ ?_
         refine yS (.agg [vi v63.Id,vb v63.Mail.From.Null,vs v63.Mail.From.Local,vs v63.Mail.From.Domain,.fl .ro 3 (flatten (map T_Path.enc v63.Mail.To)),.fl .ro 1 (map (int .u8) v63.Mail.Body),vb v63.Mail.Quiet,vs v63.Mail.Helo,vi v63.Mail.At,vi v63.State,vi v63.Pack]) 0 ⟨op_loadA_fr _ _ _ _ _ _ _ _ underlying88 rfl sz88 rfl rfl (gflat_get T_Item.ilen hv63) (.cons (.v _) (.cons (.v _) (.cons (.v _) (.cons (.v _) (.cons (.fl _ _ rfl) (.cons (.fl _ _ rfl) (.cons (.v _) (.cons (.v _) (.cons (.v _) (.cons (.v _) (.cons (.v _) (.nil)))))))))))) rfl (by decide)⟩ ?_
         refine yS (.box 88 [vi 0,vb false,vs z0,vs z0,vz,vz,vb false,vs z0,vi 0,vi 0,vi 0]) 2 ⟨oA (op_alloc _ _ zr88)⟩ ?_
         refine yee [0,3,78,79,80,8,7,0] ?_
         refine yyy hn 5 [0,3,78,79,80,7,89,0] ?_
         refine ht_cond _ rfl (fun hb220 => ?_) (fun hb220 => ?_)
         ·have h:=cond_t hb220 h
          obtain ⟨v65, hv65, h⟩:=zn h
          obtain ⟨v66, hv66, h⟩:=zn h
          obtain ⟨v67, hv67, h⟩:=zn h
          refine yx hn 5 ?_
          refine ys 1 ⟨lI hv65⟩ ?_
          refine yk [0] [96] ?_
          refine yt (0,.box 33 [.fr (.own 88) false 11 (flatten (map T_Item.ienc v67)),vi s.Packs,.fl (.own 3) 1 (map (int .i64) s.Sent),.fl (.own 5) 1 (map (int .u8) s.Part),vi s.Of,.fl (.own 3) 1 (map (int .i64) s.Done)]) 0 ⟨op_store_fr_cell _ _ _ 0 0 _ 1 _ sz3 rfl rfl (zl rfl) rfl rfl (by decide) (gflat_fit (q:=9) (s:=1) T_Item.ilen hv66 (by decide)) ((gflat_setc (q:=9) (s:=1) (y:=(T_Item.mk v66.Id ((T_Mail.mk (T_Path.mk v66.Mail.From.Null v66.Mail.From.Local v66.Mail.From.Domain) v66.Mail.To v66.Mail.Body v66.Mail.Quiet v66.Mail.Helo v66.Mail.At)) 3 v66.Pack)) T_Item.ilen hv66 rfl (by decide)).trans (congrArg (fun l=>flatten (map T_Item.ienc l)) (Option.some.inj hv67))) rfl⟩ ?_
          refine ye [0,3,78,79,80,0] ?_
          refine pt_inb ?_
          exact hl218 _ (zi h).symm
         ·have h:=cond_f hb220 h
          refine ht_skip ?_
          refine pt_inb ?_
          refine pt_pick [0,1,2,3,4,7] (by kernel_rfl) (es':=[(_,_),(_,_),(_,_),(_,_),(_,_),(_,_)]) rfl ?_
          exact hl218 _ (zi h).symm
       ·have h:=cond_f hb214 h
        refine ht_exit ?_
        refine pt_x_then ?_
        refine pt_x_then ?_
        refine pt_x_in ?_
        refine pt_pick [0,1,6] (by kernel_rfl) (es':=[(_,_),(_,_),(_,_)]) rfl ?_
        exact hl209 _ (ho211 _ (zi h).symm).symm
     ·have h:=cond_f hb181 h
      refine yyy hn 2 [0,3,12,109,0] ?_
      refine ht_cond _ rfl (fun hb221 => ?_) (fun hb221 => ?_)
      ·have h:=cond_t hb221 h
       obtain ⟨v108, hv108, h⟩:=zn h
       obtain ⟨v109, hv109, h⟩:=zn h
       obtain ⟨v110, hv110, h⟩:=zn h
       obtain ⟨v111, hv111, h⟩:=zn h
       refine wb [[],[111,0],[112,0],[113,0],[],[115,0],[116,0],[3],[118,3]] ?_
       refine wN [117,0,119] ?_
       refine wo [] ⟨lk call43 (ok_spool_find _ _ _ hv108)⟩ ?_
       refine wN [114,0,120] ?_
       refine wo [[121,0]] ⟨lI hv109⟩ ?_
       refine wK [0] [122] ?_
       refine wt [(0,.box 33 [.fr (.own 88) false 11 (flatten (map T_Item.ienc v111)),vi s.Packs,.fl (.own 3) 1 (map (int .i64) s.Sent),.fl (.own 5) 1 (map (int .u8) s.Part),vi s.Of,.fl (.own 3) 1 (map (int .i64) s.Done)])] [] ⟨op_store_fr_cell _ _ _ 0 0 _ 1 _ sz3 rfl rfl (zl rfl) rfl rfl (by decide) (gflat_fit (q:=9) (s:=1) T_Item.ilen hv110 (by decide)) ((gflat_setc (q:=9) (s:=1) (y:=(T_Item.mk v110.Id ((T_Mail.mk (T_Path.mk v110.Mail.From.Null v110.Mail.From.Local v110.Mail.From.Domain) v110.Mail.To v110.Mail.Body v110.Mail.Quiet v110.Mail.Helo v110.Mail.At)) 4 v110.Pack)) T_Item.ilen hv110 rfl (by decide)).trans (congrArg (fun l=>flatten (map T_Item.ienc l)) (Option.some.inj hv111))) rfl⟩ ?_
       refine we hn [0,0] ?_
       refine pt_inb ?_
       exact hl132 _ (zi h).symm
      ·have h:=cond_f hb221 h
       refine yyy hn 2 [0,3,12,123,0] ?_
       refine ht_cond _ rfl (fun hb222 => ?_) (fun hb222 => ?_)
       ·have h:=cond_t hb222 h
        refine ht_seq ?_
        refine ht_joinS h (fun ((s224,s225):(List Int)×Int)=>[(0,.box 33 [.fr (.own 88) false 11 (flatten (map T_Item.ienc s.Items)),vi s.Packs,.fl (.own 3) 1 (map (int .i64) s.Sent),.fl (.own 5) 1 (map (int .u8) s224),vi s225,.fl (.own 3) 1 (map (int .i64) s.Done)]),(3,.box 53 (T_Rec.c p_r [])),(0,.v (List.getD args0 0 undef))]) ?_ ?_
        ·rintro ⟨s224, s225⟩ h
         refine pt_then ?_
         obtain ⟨v120, hv120, h⟩:=zn h
         refine wb [[],[],[137,0],[138,0],[139,0],[3],[141,3]] ?_
         refine wK [0] [140,142] ?_
         refine wt [(0,.box 33 [.fr (.own 88) false 11 (flatten (map T_Item.ienc s.Items)),vi s.Packs,.fl (.own 3) 1 (map (int .i64) s.Sent),.any,vi s225,.fl (.own 3) 1 (map (int .i64) s.Done)]),(143,.fl (.own 5) 1 (map (int .u8) v120))] [[136,0],[144,0]] ⟨op_app_cell _ _ _ _ _ _ el22 rfl rfl (zl rfl) rfl (map_len _) (map_len _) hv120 ((List.map_append).symm.trans (congrArg (map _) (app_eq hv120))) (Nat.ne_of_beq_eq_false rfl) rfl rfl⟩ ?_
         refine wK [140,143,0] [145] ?_
         refine wt [(0,.box 33 [.fr (.own 88) false 11 (flatten (map T_Item.ienc s.Items)),vi s.Packs,.fl (.own 3) 1 (map (int .i64) s.Sent),.fl (.own 5) 1 (map (int .u8) v120),vi s225,.fl (.own 3) 1 (map (int .i64) s.Done)])] [] ⟨LOp.drop [_] (op_store_take _ _ _ _ _ _ _ _ sz22 rfl rfl rfl (zl rfl) rfl rfl)⟩ ?_
         refine we hn [0,0] ?_
         refine pt_inb ?_
         exact hl132 _ (zi h).symm
        ·intro u226 h hl227 hr228
         refine yyy hn 3 [0,3,127,0] ?_
         refine ht_cond _ rfl (fun hb229 => ?_) (fun hb229 => ?_)
         ·have h:=cond_t hb229 h
          refine yy hn 10 [0,3,0] ?_
          refine pt_sub (fs:=[(0,.box 33 [.fr (.own 88) false 11 (flatten (map T_Item.ienc s.Items)),vi s.Packs,.fl (.own 3) 1 (map (int .i64) s.Sent),.fl (.own 5) 1 (map (int .u8) []),vi p_r.Number,.fl (.own 3) 1 (map (int .i64) s.Done)]),(3,.box 53 (T_Rec.c p_r [])),(0,.v (List.getD args0 0 undef))]) (.box _ _ (subs_cons (sub_refl _) (subs_cons (sub_refl _) (subs_cons (sub_refl _) (subs_cons (sub_nil 5 1) (subs_cons (sub_refl _) (subs_cons (sub_refl _) (subs_nil))))))) rfl (.same _ (.same _ .nil))) ?_
          exact hl227 _ (zi h).symm
         ·have h:=cond_f hb229 h
          refine ht_skip ?_
          refine pt_pick [0,1,3] (by kernel_rfl) (es':=[(_,_),(_,_),(_,_)]) rfl ?_
          exact hl227 _ (zi h).symm
       ·have h:=cond_f hb222 h
        refine yyy hn 2 [0,3,146,0] ?_
        refine ht_cond _ rfl (fun hb230 => ?_) (fun hb230 => ?_)
        ·have h:=cond_t hb230 h
         refine ht_seq ?_
         obtain ⟨v122, hv122, h⟩:=zn h
         refine wb [[],[149,0],[150,0],[151,0],[3],[153,3]] ?_
         refine wN [152,0,154] ?_
         refine wo [] ⟨lk call44 (ok_slices_BinarySearch_int_int _ _ _ hv122)⟩ ?_
         refine wK [155] [] ?_
         refine wt [(148,.tup [vi v122.1,vb v122.2])] [[148],[148],[156],[157]] ⟨op_move_take _ _ _ _ rfl⟩ ?_
         refine wee hn [0,3,9,0] ?_
         refine ht_seq ?_
         obtain ⟨v123, hv123, h⟩:=zn h
         refine wb [[],[],[159,0],[160,0],[161,0],[9],[3],[164,3]] ?_
         refine wN [165] ?_
         refine wS (.fl (.own 3) 1 (map (int .i64) [p_r.Number])) [] ⟨op_buildSlice _ _ 1 (.int .i64 0) (map (int .i64) [p_r.Number]) [(0,.int .i64 p_r.Number)] underlying31 sz3 zr3 (fun _ V w o a hv hes=>by have e0:=rd_v hv hes (x := .tmp 165) rfl; simp only [List.map_toArray,List.map_cons,List.map_nil,e0]; try rfl) (litfill (by simp [Instr.fill,Value.cells]; rfl) (by simp [List.range,List.range.loop] <;> rfl)) (by simp [Value.oneCell']) rfl (by decide) (by decide) (by decide)⟩ ?_
         refine wK [0] [162,163,166] ?_
         refine wt [(0,.box 33 [.fr (.own 88) false 11 (flatten (map T_Item.ienc s.Items)),vi s.Packs,.fl (.own 3) 1 (map (int .i64) s.Sent),.fl (.own 5) 1 (map (int .u8) s.Part),vi s.Of,.any]),(167,.fl (.own 3) 1 (map (int .i64) v123))] [[158,0],[168,0]] ⟨op_ins_cell _ 167 0 5 166 _ rfl call45 ins45 rfl rfl (zl rfl) rfl rfl rfl rfl hv123 rfl (by decide) rfl rfl⟩ ?_
         refine wK [162,167,0] [169] ?_
         refine wt [(0,.box 33 [.fr (.own 88) false 11 (flatten (map T_Item.ienc s.Items)),vi s.Packs,.fl (.own 3) 1 (map (int .i64) s.Sent),.fl (.own 5) 1 (map (int .u8) s.Part),vi s.Of,.fl (.own 3) 1 (map (int .i64) v123)])] [] ⟨LOp.drop [_] (op_store_take _ _ _ _ _ _ _ _ sz31 rfl rfl rfl (zl rfl) rfl rfl)⟩ ?_
         refine wee hn [0,3,0] ?_
         refine ht_seq ?_
         refine wb [[],[170,0],[171,0],[172,0],[3],[174,3],[173,175]] ?_
         refine wee hn [0,176,0] ?_
         refine ht_cond _ rfl (fun hb231 => ?_) (fun hb231 => ?_)
         ·have h:=cond_t hb231 h
          refine yy hn 8 [0,0] ?_
          refine pt_inb ?_
          refine pt_sub (fs:=[(0,.box 33 [.fr (.own 88) false 11 (flatten (map T_Item.ienc s.Items)),vi s.Packs,.fl (.own 3) 1 (map (int .i64) s.Sent),.fl (.own 5) 1 (map (int .u8) []),vi (-1),.fl (.own 3) 1 (map (int .i64) v123)]),(0,.v (List.getD args0 0 undef))]) (.box _ _ (subs_cons (sub_refl _) (subs_cons (sub_refl _) (subs_cons (sub_refl _) (subs_cons (sub_nil 5 1) (subs_cons (sub_refl _) (subs_cons (sub_refl _) (subs_nil))))))) rfl (.same _ .nil)) ?_
          exact hl132 _ (zi h).symm
         ·have h:=cond_f hb231 h
          refine ht_skip ?_
          refine pt_inb ?_
          refine pt_pick [0,2] (by kernel_rfl) (es':=[(_,_),(_,_)]) rfl ?_
          exact hl132 _ (zi h).symm
        ·have h:=cond_f hb230 h
         refine ht_skip ?_
         refine pt_inb ?_
         refine pt_pick [0,3] (by kernel_rfl) (es':=[(_,_),(_,_)]) rfl ?_
         exact hl132 _ (zi h).symm
end Go.Proofs.YthhebpiaknfnhaaGreatDoor
