/-
  The model's runs are what is told in Lean.
-/
import Derived.Test.YtjdmcbkkacnmdaaGreatDoorProg
import Derived.KernelRfl
import Derived.Test.YtjdmcbkkacnmdaaGreatDoorShelf
import Derived.Test.YtjdmcbkkacnmdaaGreatDoorIdx
import Derived.Test.YtjdmcbkkacnmdaaGreatDoorIns
import Derived.Test.YtjdmcbkkacnmdaaGreatDoorB1
import Derived.Test.YtjdmcbkkacnmdaaGreatDoorC1
import Derived.Test.YtjdmcbkkacnmdaaGreatDoorOkc6
set_option linter.unusedVariables false
set_option linter.unusedSimpArgs false
set_option maxHeartbeats 1000000
namespace Go.Proofs.YtjdmcbkkacnmdaaGreatDoor
open Go.Abs Go.Abs.Sh Tryz
open List (map flatten)
open Value (int)
theorem ok_spool_Add (mx : Int) (s : T_Spool) (p_r : T_Rec) (r : (T_Spool × Int)) (h : Sh.spool_Add s p_r = some r) : FnG Tryz.prog (GL mx) 15 [.agg [.fr .shr true 11 (flatten (map T_Item.ienc s.Items)), .v (.int .i64 s.Packs), .fl .shr 1 (map (int .i64) s.Sent), .fl .shr 1 (map (int .u8) s.Part), .v (.int .i64 s.Of), .fl .shr 1 (map (int .i64) s.Done)], .agg [.v (.int .i64 p_r.Kind), .v (.bool p_r.Mail.From.Null), .v (.string p_r.Mail.From.Local), .v (.string p_r.Mail.From.Domain), .fl .shr 3 (flatten (map T_Path.enc p_r.Mail.To)), .fl .shr 1 (map (int .u8) p_r.Mail.Body), .v (.bool p_r.Mail.Quiet), .v (.string p_r.Mail.Helo), .v (.int .i64 p_r.Mail.At), .v (.int .i64 p_r.Id), .fl .shr 1 (map (int .i64) p_r.Ids), .v (.int .i64 p_r.Origin), .v (.int .i64 p_r.Number), .v (.int .i64 p_r.Offset), .fl .shr 1 (map (int .u8) p_r.Data)]] (.tup [.agg [.fr (.own 47) false 11 (flatten (map T_Item.ienc r.1.Items)), .v (.int .i64 r.1.Packs), .fl (.own 3) 1 (map (int .i64) r.1.Sent), .fl (.own 5) 1 (map (int .u8) r.1.Part), .v (.int .i64 r.1.Of), .fl (.own 3) 1 (map (int .i64) r.1.Done)], .v (.int .i64 r.2)]) := by
  unfold Sh.spool_Add at h
  refine yG 16 func15 fun g0 hn hio => ?_
  refine yxx hn 2 ?_
  refine yS (.box 37 [vz,vi 0,vz,vz,vi 0,vz]) 1 ⟨oA (op_alloc _ _ zr37)⟩ ?_
  refine yee [16,2,3,4] ?_
  refine ht_seq ?_
  refine ht_seq ?_
  obtain ⟨v1, hv1, h⟩ := zn h
  refine yx hn 2 ?_
  refine ys 1 ⟨lg call25 (ok_spool_valid _ _ _ _ hv1) 16⟩ ?_
  refine yee [16,2,3,4,9] ?_
  refine ht_cond _ rfl (fun hb2 => ?_) (fun hb2 => ?_)
  ·have h := cond_t hb2 h
   refine yxx hn 0 ?_
   refine yS (.agg [vz,vi 0,vz,vz,vi 0,vz]) 0 ⟨op_build _ _ _ _ [1,1,1,1,1,1] _ _ underlying37 zr37 (fs37 _ underlying37) Src.nil rfl rfl rfl⟩ ?_
   refine yk [10,4] [] ?_
   refine yt (4,.box 37 [vz,vi 0,vz,vz,vi 0,vz]) 1 ⟨op_store_self _ _ _ 10 4 6 sz37 rfl rfl rfl rfl rfl (.eq _ (.eq _ (.eq _ (.eq _ (.eq _ (.eq _ (.nil _))))))) rfl⟩ ?_
   refine yee [16,4,5] ?_
   refine ht_ret ?_
   refine pt_pick [1,2] (by kernel_rfl) (es' := [(_,_),(_,_)]) rfl ?_
   refine pt_sub (fs := [(4,.box 37 [.fr (.own 47) false 11 (flatten (map T_Item.ienc [])),vi 0,.fl (.own 3) 1 (map (int .i64) []),.fl (.own 5) 1 (map (int .u8) []),vi 0,.fl (.own 3) 1 (map (int .i64) [])]),(5,vi 5)]) (.box _ _ (subs_cons (sub_nil_fr 47 false 11) (subs_cons (sub_refl _) (subs_cons (sub_nil 3 1) (subs_cons (sub_nil 5 1) (subs_cons (sub_refl _) (subs_cons (sub_nil 3 1) (subs_nil))))))) rfl (.same _ .nil)) ?_
   refine pt_r_then ?_
   obtain rfl := zi h
   exact pt_ret hio rfl (.cellA _ _ _ _ underlying37 rfl sz37 (.tmp _ _ .nil)) rfl rfl
  ·have h := cond_f hb2 h
   refine ht_skip ?_
   refine pt_then (ht_seq ?_)
   obtain ⟨v3, hv3, h⟩ := zn h
   refine yx hn 1 ?_
   refine ys 0 ⟨lk call33 (ok_clone_Spool _ _ hv3)⟩ ?_
   refine yk [12,2] [] ?_
   refine yt (2,.box 37 [.fr (.own 47) false 11 (flatten (map T_Item.ienc v3.Items)),vi v3.Packs,.fl (.own 3) 1 (map (int .i64) v3.Sent),.fl (.own 5) 1 (map (int .u8) v3.Part),vi v3.Of,.fl (.own 3) 1 (map (int .i64) v3.Done)]) 0 ⟨op_store_take _ _ _ _ _ _ _ _ sz37 rfl rfl rfl (zl rfl) rfl rfl⟩ ?_
   refine yee [16,2,3,4] ?_
   refine ht_seq ?_
   obtain ⟨v4, hv4, h⟩ := zn h
   refine yx hn 1 ?_
   refine yQ call26 (ok_spool_apply _ _ _ hv4) 2 [13] 0 ?_
   refine yee [16,2,4] ?_
   refine yxx hn 0 ?_
   refine yk [2] [] ?_
   refine yt (15,.agg [.fr (.own 47) false 11 (flatten (map T_Item.ienc v4.Items)),vi v4.Packs,.fl (.own 3) 1 (map (int .i64) v4.Sent),.fl (.own 5) 1 (map (int .u8) v4.Part),vi v4.Of,.fl (.own 3) 1 (map (int .i64) v4.Done)]) 0 ⟨op_loadA_take _ _ _ _ underlying37 rfl sz37 rfl rfl⟩ ?_
   refine yk [15,4] [] ?_
   refine yt (4,.box 37 [.fr (.own 47) false 11 (flatten (map T_Item.ienc v4.Items)),vi v4.Packs,.fl (.own 3) 1 (map (int .i64) v4.Sent),.fl (.own 5) 1 (map (int .u8) v4.Part),vi v4.Of,.fl (.own 3) 1 (map (int .i64) v4.Done)]) 1 ⟨op_store_take _ _ _ _ _ _ _ _ sz37 rfl rfl rfl (zl rfl) rfl rfl⟩ ?_
   refine yee [16,4,5] ?_
   refine ht_ret ?_
   refine pt_pick [1,2] (by kernel_rfl) (es' := [(_,_),(_,_)]) rfl ?_
   obtain rfl := zi h
   exact pt_ret hio rfl (.cellA _ _ _ _ underlying37 rfl sz37 (.tmp _ _ .nil)) rfl rfl
theorem ok_wherrykeep_Spool (a : T_Spool) (b : T_Spool) (r : Bool) (h : Sh.wherrykeep_Spool a b = some r) : FnOK Tryz.prog 11 [.agg [.fr .shr true 11 (flatten (map T_Item.ienc a.Items)), .v (.int .i64 a.Packs), .fl .shr 1 (map (int .i64) a.Sent), .fl .shr 1 (map (int .u8) a.Part), .v (.int .i64 a.Of), .fl .shr 1 (map (int .i64) a.Done)], .agg [.fr .shr true 11 (flatten (map T_Item.ienc b.Items)), .v (.int .i64 b.Packs), .fl .shr 1 (map (int .i64) b.Sent), .fl .shr 1 (map (int .u8) b.Part), .v (.int .i64 b.Of), .fl .shr 1 (map (int .i64) b.Done)]] (.v (.bool r)) := by
  unfold Sh.wherrykeep_Spool at h
  refine yO 97 func11 fun g0 hn hio => ?_
  refine yyy hn 3 [2,3] ?_
  refine ht_seq ?_
  refine ht_seq ?_
  refine ht_joinS h (fun (s4 : Bool) => [(2,.box 37 (T_Spool.c a [])),(3,.box 37 (T_Spool.c b [])),(52,vb s4)]) ?_ ?_
  ·rintro s4 h
   refine pt_then ?_
   refine ht_cond _ rfl (fun hb8 => ?_) (fun hb8 => ?_)
   ·have h := cond_t hb8 h
    refine yyy hn 1 [4] ?_
    refine ht_ret ?_
    refine pt_r_then ?_
    obtain rfl := zi h
    exact pt_ret hio rfl (.tmp _ _ .nil) rfl rfl
   ·have h := cond_f hb8 h
    refine ht_skip ?_
    refine pt_then (ht_seq ?_)
    refine yyy hn 1 [2,3,5] ?_
    refine ht_loopS h (fun (s28 : Int) => [(2,.box 37 (T_Spool.c a [])),(3,.box 37 (T_Spool.c b [])),(5,vi s28)]) (fun (() : Unit) => []) ?_ ?_
    ·rintro ⟨⟩ h
     refine pt_then ?_
     refine yyy hn 1 [4] ?_
     refine ht_ret ?_
     obtain rfl := zi h
     exact pt_ret hio rfl (.tmp _ _ .nil) rfl rfl
    ·rintro u35 hl36 hr37 s28 rr40 h ho38
     refine ht_seq ?_
     refine yyy hn 5 [2,3,5,57] ?_
     refine ht_cond _ rfl (fun hb41 => ?_) (fun hb41 => ?_)
     ·have h := cond_t hb41 h
      refine ht_skip ?_
      refine pt_then (ht_seq ?_)
      refine ht_block ?_
      refine ht_seq ?_
      obtain ⟨v10, hv10, h⟩ := zn h
      obtain ⟨v11, hv11, h⟩ := zn h
      obtain ⟨v12, hv12, h⟩ := zn h
      obtain ⟨v13, hv13, h⟩ := zn h
      refine wb [[2],[60,2],[5]] ?_
      refine wN [61,62] ?_
      refine wo [] ⟨lI hv10⟩ ?_
      refine wN [63,61] ?_
      refine wS (.agg (T_Item.c v11 [])) [[3],[65,3],[5]] ⟨op_loadA_fr _ _ _ _ _ _ _ _ underlying47 rfl sz47 rfl rfl (gflat_get T_Item.ilen hv11) (.cons (.v _) (.cons (.v _) (.cons (.v _) (.cons (.v _) (.cons (.fl _ _ rfl) (.cons (.fl _ _ rfl) (.cons (.v _) (.cons (.v _) (.cons (.v _) (.cons (.v _) (.cons (.v _) (.nil)))))))))))) rfl (by decide)⟩ ?_
      refine wN [66,67] ?_
      refine wo [] ⟨lI hv12⟩ ?_
      refine wN [68,66] ?_
      refine wS (.agg (T_Item.c v13 [])) [] ⟨op_loadA_fr _ _ _ _ _ _ _ _ underlying47 rfl sz47 rfl rfl (gflat_get T_Item.ilen hv13) (.cons (.v _) (.cons (.v _) (.cons (.v _) (.cons (.v _) (.cons (.fl _ _ rfl) (.cons (.fl _ _ rfl) (.cons (.v _) (.cons (.v _) (.cons (.v _) (.cons (.v _) (.cons (.v _) (.nil)))))))))))) rfl (by decide)⟩ ?_
      refine wN [] ?_
      refine wS (.box 47 [vi 0,vb false,vs z0,vs z0,vz,vz,vb false,vs z0,vi 0,vi 0,vi 0]) [] ⟨oA (op_alloc _ _ zr47)⟩ ?_
      refine wN [] ?_
      refine wS (.box 47 [vi 0,vb false,vs z0,vs z0,vz,vz,vb false,vs z0,vi 0,vi 0,vi 0]) [] ⟨oA (op_alloc _ _ zr47)⟩ ?_
      refine wK [6] [64] ?_
      refine wt [(6,.box 47 (T_Item.c v11 []))] [] ⟨op_store _ _ _ _ _ _ _ _ sz47 rfl rfl rfl rfl (zl rfl) rfl rfl⟩ ?_
      refine wK [7] [69] ?_
      refine wt [(7,.box 47 (T_Item.c v13 []))] [] ⟨op_store _ _ _ _ _ _ _ _ sz47 rfl rfl rfl rfl (zl rfl) rfl rfl⟩ ?_
      refine wee hn [2,3,5,6,7] ?_
      refine ht_seq ?_
      refine ht_joinS h (fun (s42 : Bool) => [(2,.box 37 (T_Spool.c a [])),(3,.box 37 (T_Spool.c b [])),(5,vi s28),(96,vb s42)]) ?_ ?_
      ·rintro s42 h
       refine pt_then ?_
       refine ht_cond _ rfl (fun hb46 => ?_) (fun hb46 => ?_)
       ·have h := cond_t hb46 h
        refine yyy hn 1 [4] ?_
        refine ht_ret ?_
        refine pt_r_in ?_
        refine pt_r_then ?_
        refine pt_r_then ?_
        refine pt_r_in ?_
        refine pt_r_then ?_
        have h := hr37 _ (ho38 _ (zi h).symm).symm
        obtain rfl := zi h
        exact pt_ret hio rfl (.tmp _ _ .nil) rfl rfl
       ·have h := cond_f hb46 h
        refine ht_skip ?_
        refine pt_inb ?_
        refine pt_then ?_
        obtain ⟨v20, hv20, h⟩ := zn h
        refine yx hn 1 ?_
        refine ys 0 ⟨lb hv20⟩ ?_
        refine yw [5] 1 ?_
        refine ye [2,3,5] ?_
        exact pt_next _ (zi h).symm rfl
      ·intro u43 h hl44 hr45
       refine cond_some h (fun hg7_5 h => ?_) (fun hg7_5 h => ?_)
       ·refine yx hn 6 ?_
        refine yd hg7_5 21 ?_
        refine ye [2,3,5,96] ?_
        exact hl44 _ (zi h).symm
       ·obtain ⟨v14, hv14, h⟩ := zn h
        refine cond_some h (fun hg7_13 h => ?_) (fun hg7_13 h => ?_)
        ·refine yx hn 6 ?_
         refine yd hg7_5 4 ?_
         refine ys 3 ⟨lk call30 (ok_wherrykeep_Mail _ _ _ hv14)⟩ ?_
         refine yd hg7_13 13 ?_
         refine ye [2,3,5,96] ?_
         exact hl44 _ (zi h).symm
        ·refine cond_some h (fun hg7_20 h => ?_) (fun hg7_20 h => ?_)
         ·refine yx hn 6 ?_
          refine yd hg7_5 4 ?_
          refine ys 3 ⟨lk call30 (ok_wherrykeep_Mail _ _ _ hv14)⟩ ?_
          refine yd hg7_13 7 ?_
          refine yd hg7_20 6 ?_
          refine ye [2,3,5,96] ?_
          exact hl44 _ (zi h).symm
         ·refine yx hn 6 ?_
          refine yd hg7_5 4 ?_
          refine ys 3 ⟨lk call30 (ok_wherrykeep_Mail _ _ _ hv14)⟩ ?_
          refine yd hg7_13 7 ?_
          refine yd hg7_20 6 ?_
          refine ye [2,3,5,96] ?_
          exact hl44 _ (zi h).symm
     ·have h := cond_f hb41 h
      refine ht_exit ?_
      refine pt_x_then ?_
      refine pt_x_then ?_
      refine pt_x_in ?_
      refine pt_pick [] (by kernel_rfl) (es' := []) rfl ?_
      exact hl36 _ (ho38 _ (zi h).symm).symm
  ·intro u5 h hl6 hr7
   refine cond_some h (fun hg1_7 h => ?_) (fun hg1_7 h => ?_)
   ·refine yx hn 8 ?_
    refine yd hg1_7 37 ?_
    refine ye [2,3,52] ?_
    exact hl6 _ (zi h).symm
   ·refine cond_some h (fun hg1_14 h => ?_) (fun hg1_14 h => ?_)
    ·refine yx hn 8 ?_
     refine yd hg1_7 7 ?_
     refine yd hg1_14 30 ?_
     refine ye [2,3,52] ?_
     exact hl6 _ (zi h).symm
    ·obtain ⟨v1, hv1, h⟩ := zn h
     refine cond_some h (fun hg1_22 h => ?_) (fun hg1_22 h => ?_)
     ·refine yx hn 8 ?_
      refine yd hg1_7 7 ?_
      refine yd hg1_14 4 ?_
      refine ys 3 ⟨lk call28 (ok_wherrykeep_Ints _ _ _ hv1)⟩ ?_
      refine yd hg1_22 22 ?_
      refine ye [2,3,52] ?_
      exact hl6 _ (zi h).symm
     ·obtain ⟨v2, hv2, h⟩ := zn h
      refine cond_some h (fun hg1_30 h => ?_) (fun hg1_30 h => ?_)
      ·refine yx hn 8 ?_
       refine yd hg1_7 7 ?_
       refine yd hg1_14 4 ?_
       refine ys 3 ⟨lk call28 (ok_wherrykeep_Ints _ _ _ hv1)⟩ ?_
       refine yd hg1_22 4 ?_
       refine ys 3 ⟨lk call29 (ok_wherrykeep_Bytes _ _ _ hv2)⟩ ?_
       refine yd hg1_30 14 ?_
       refine ye [2,3,52] ?_
       exact hl6 _ (zi h).symm
      ·refine cond_some h (fun hg1_37 h => ?_) (fun hg1_37 h => ?_)
       ·refine yx hn 8 ?_
        refine yd hg1_7 7 ?_
        refine yd hg1_14 4 ?_
        refine ys 3 ⟨lk call28 (ok_wherrykeep_Ints _ _ _ hv1)⟩ ?_
        refine yd hg1_22 4 ?_
        refine ys 3 ⟨lk call29 (ok_wherrykeep_Bytes _ _ _ hv2)⟩ ?_
        refine yd hg1_30 7 ?_
        refine yd hg1_37 7 ?_
        refine ye [2,3,52] ?_
        exact hl6 _ (zi h).symm
       ·obtain ⟨v3, hv3, h⟩ := zn h
        refine yx hn 8 ?_
        refine yd hg1_7 7 ?_
        refine yd hg1_14 4 ?_
        refine ys 3 ⟨lk call28 (ok_wherrykeep_Ints _ _ _ hv1)⟩ ?_
        refine yd hg1_22 4 ?_
        refine ys 3 ⟨lk call29 (ok_wherrykeep_Bytes _ _ _ hv2)⟩ ?_
        refine yd hg1_30 7 ?_
        refine yd hg1_37 4 ?_
        refine ys 2 ⟨lk call28 (ok_wherrykeep_Ints _ _ _ hv3)⟩ ?_
        refine ye [2,3,52] ?_
        exact hl6 _ (zi h).symm
theorem ok_wherrylaw19_some (p_id : Int) (origin : Int) (r : T_Rec) (h : Sh.wherrylaw19_some p_id origin = some r) : FnOK Tryz.prog 38 [.v (.int .i64 p_id), .v (.int .i64 origin)] (.agg [.v (.int .i64 r.Kind), .v (.bool r.Mail.From.Null), .v (.string r.Mail.From.Local), .v (.string r.Mail.From.Domain), .fl (.own 24) 3 (flatten (map T_Path.enc r.Mail.To)), .fl (.own 5) 1 (map (int .u8) r.Mail.Body), .v (.bool r.Mail.Quiet), .v (.string r.Mail.Helo), .v (.int .i64 r.Mail.At), .v (.int .i64 r.Id), .fl (.own 3) 1 (map (int .i64) r.Ids), .v (.int .i64 r.Origin), .v (.int .i64 r.Number), .v (.int .i64 r.Offset), .fl (.own 5) 1 (map (int .u8) r.Data)]) := by
  unfold Sh.wherrylaw19_some at h
  refine yO 12 func38 fun g0 hn hio => ?_
  refine yxx hn 0 ?_
  refine yS (.box 31 [vi 0,vb false,vs z0,vs z0,vz,vz,vb false,vs z0,vi 0,vi 0,vz,vi 0,vi 0,vi 0,vz]) 0 ⟨oA (op_alloc _ _ zr31)⟩ ?_
  refine yee [0,1,4] ?_
  refine yxx hn 2 ?_
  refine yS (.agg [vb true,vs z0,vs z0]) 0 ⟨op_build _ _ _ _ [1,1,1] _ _ underlying24 zr24 (fs24 _ underlying24) (.copy _ Src.nil) rfl rfl rfl⟩ ?_
  refine yS (.agg [vb false,vs (⟨#[97]⟩ : ByteArray),vs (⟨#[98]⟩ : ByteArray)]) 0 ⟨op_build _ _ _ _ [1,1,1] _ _ underlying24 zr24 (fs24 _ underlying24) (.copy _ (.copy _ Src.nil)) rfl rfl rfl⟩ ?_
  refine yS (.fl (.own 24) 3 (flatten (map T_Path.enc ([(T_Path.mk false (⟨#[97]⟩ : ByteArray) (⟨#[98]⟩ : ByteArray))])))) 0 ⟨op_buildSlice _ _ 3 (.agg #[.bool false,.string ByteArray.empty,.string ByteArray.empty]) (flatten (map T_Path.enc ([(T_Path.mk false (⟨#[97]⟩ : ByteArray) (⟨#[98]⟩ : ByteArray))]))) [(0,.agg #[.bool false,.string (⟨#[97]⟩ : ByteArray),.string (⟨#[98]⟩ : ByteArray)])] underlying25 sz24 zr24 (fun _ V w o a hv hes => by have e0 := agg_v (ys := [.bool false,.string (⟨#[97]⟩ : ByteArray),.string (⟨#[98]⟩ : ByteArray)]) hv hes (x := .tmp 8) rfl; simp only [List.map_toArray,List.map_cons,List.map_nil,e0]; try rfl) (litfill (by simp [Instr.fill,Value.cells]; rfl) (by simp [List.range,List.range.loop,T_Path.enc] <;> rfl)) (by simp [Value.oneCell',T_Path.enc]) rfl (by decide) (by decide) (by decide)⟩ ?_
  refine yk [9] [7] ?_
  refine yt (10,.agg [vb true,vs z0,vs z0,.fl (.own 24) 3 (flatten (map T_Path.enc ([(T_Path.mk false (⟨#[97]⟩ : ByteArray) (⟨#[98]⟩ : ByteArray))]))),vz,vb false,vs z0,vi 0]) 0 ⟨op_build _ _ _ _ [3,1,1,1,1,1] _ _ underlying28 zr28 (fs28 _ underlying28) (.copy _ (.take _ _ Src.nil)) rfl rfl rfl⟩ ?_
  refine yk [10] [5,6] ?_
  refine yt (11,.agg [vi 1,vb true,vs z0,vs z0,.fl (.own 24) 3 (flatten (map T_Path.enc ([(T_Path.mk false (⟨#[97]⟩ : ByteArray) (⟨#[98]⟩ : ByteArray))]))),vz,vb false,vs z0,vi 0,vi p_id,vz,vi origin,vi 0,vi 0,vz]) 0 ⟨op_build _ _ _ _ [1,8,1,1,1,1,1,1] _ _ underlying31 zr31 (fs31 _ underlying31) (.copy _ (.copy _ (.copy _ (.take _ _ Src.nil)))) rfl rfl rfl⟩ ?_
  refine yk [11,4] [] ?_
  refine yt (4,.box 31 [vi 1,vb true,vs z0,vs z0,.fl (.own 24) 3 (flatten (map T_Path.enc ([(T_Path.mk false (⟨#[97]⟩ : ByteArray) (⟨#[98]⟩ : ByteArray))]))),vz,vb false,vs z0,vi 0,vi p_id,vz,vi origin,vi 0,vi 0,vz]) 0 ⟨op_store_take _ _ _ _ _ _ _ _ sz31 rfl rfl rfl (zl rfl) rfl rfl⟩ ?_
  refine yee [4] ?_
  refine ht_ret ?_
  refine pt_sub (fs := [(4,.box 31 [vi 1,vb true,vs z0,vs z0,.fl (.own 24) 3 (flatten (map T_Path.enc ([(T_Path.mk false (⟨#[97]⟩ : ByteArray) (⟨#[98]⟩ : ByteArray))]))),.fl (.own 5) 1 (map (int .u8) []),vb false,vs z0,vi 0,vi p_id,.fl (.own 3) 1 (map (int .i64) []),vi origin,vi 0,vi 0,.fl (.own 5) 1 (map (int .u8) [])])]) (.box _ _ (subs_cons (sub_refl _) (subs_cons (sub_refl _) (subs_cons (sub_refl _) (subs_cons (sub_refl _) (subs_cons (sub_refl _) (subs_cons (sub_nil 5 1) (subs_cons (sub_refl _) (subs_cons (sub_refl _) (subs_cons (sub_refl _) (subs_cons (sub_refl _) (subs_cons (sub_nil 3 1) (subs_cons (sub_refl _) (subs_cons (sub_refl _) (subs_cons (sub_refl _) (subs_cons (sub_nil 5 1) (subs_nil)))))))))))))))) rfl .nil) ?_
  obtain rfl := zi h
  exact pt_ret hio rfl (.cellA _ _ _ _ underlying31 rfl sz31 .nil) rfl rfl
theorem ok_spool_New (r : T_Spool) (h : Sh.spool_New  = some r) : FnOK Tryz.prog 24 [] (.agg [.fr (.own 47) false 11 (flatten (map T_Item.ienc r.Items)), .v (.int .i64 r.Packs), .fl (.own 3) 1 (map (int .i64) r.Sent), .fl (.own 5) 1 (map (int .u8) r.Part), .v (.int .i64 r.Of), .fl (.own 3) 1 (map (int .i64) r.Done)]) := by
  unfold Sh.spool_New at h
  refine yO 2 func24 fun g0 hn hio => ?_
  refine yxx hn 0 ?_
  refine yS (.box 37 [vz,vi 0,vz,vz,vi 0,vz]) 0 ⟨oA (op_alloc _ _ zr37)⟩ ?_
  refine yee [0] ?_
  refine yxx hn 0 ?_
  refine yS (.agg [vz,vi 0,vz,vz,vi (-1),vz]) 1 ⟨op_build _ _ _ _ [1,1,1,1,1,1] _ _ underlying37 zr37 (fs37 _ underlying37) (.copy _ Src.nil) rfl rfl rfl⟩ ?_
  refine yee [0] ?_
  refine ht_ret ?_
  refine pt_sub (fs := [(0,.box 37 [.fr (.own 47) false 11 (flatten (map T_Item.ienc [])),vi 0,.fl (.own 3) 1 (map (int .i64) []),.fl (.own 5) 1 (map (int .u8) []),vi (-1),.fl (.own 3) 1 (map (int .i64) [])])]) (.box _ _ (subs_cons (sub_nil_fr 47 false 11) (subs_cons (sub_refl _) (subs_cons (sub_nil 3 1) (subs_cons (sub_nil 5 1) (subs_cons (sub_refl _) (subs_cons (sub_nil 3 1) (subs_nil))))))) rfl .nil) ?_
  obtain rfl := zi h
  exact pt_ret hio rfl (.cellA _ _ _ _ underlying37 rfl sz37 .nil) rfl rfl
theorem ok_spool_Fold (mx : Int) (l : (List T_Rec)) (r : (T_Spool × Int)) (h : Sh.spool_Fold l = some r) : FnG Tryz.prog (GL mx) 9 [.fr .shr true 15 (flatten (map T_Rec.ienc l))] (.tup [.agg [.fr (.own 47) false 11 (flatten (map T_Item.ienc r.1.Items)), .v (.int .i64 r.1.Packs), .fl (.own 3) 1 (map (int .i64) r.1.Sent), .fl (.own 5) 1 (map (int .u8) r.1.Part), .v (.int .i64 r.1.Of), .fl (.own 3) 1 (map (int .i64) r.1.Done)], .v (.int .i64 r.2)]) := by
  unfold Sh.spool_Fold at h
  refine yG 27 func9 fun g0 hn hio => ?_
  refine yxx hn 0 ?_
  refine yS (.box 37 [vz,vi 0,vz,vz,vi 0,vz]) 1 ⟨oA (op_alloc _ _ zr37)⟩ ?_
  refine yee [0,27,2] ?_
  refine ht_seq ?_
  obtain ⟨v1, hv1, h⟩ := zn h
  refine yx hn 0 ?_
  refine ys 0 ⟨lk call24 (ok_spool_New _ hv1)⟩ ?_
  refine yS (.box 37 [vz,vi 0,vz,vz,vi 0,vz]) 0 ⟨oA (op_alloc _ _ zr37)⟩ ?_
  refine yk [7,4] [] ?_
  refine yt (4,.box 37 [.fr (.own 47) false 11 (flatten (map T_Item.ienc v1.Items)),vi v1.Packs,.fl (.own 3) 1 (map (int .i64) v1.Sent),.fl (.own 5) 1 (map (int .u8) v1.Part),vi v1.Of,.fl (.own 3) 1 (map (int .i64) v1.Done)]) 0 ⟨op_store_take _ _ _ _ _ _ _ _ sz37 rfl rfl rfl (zl rfl) rfl rfl⟩ ?_
  refine yee [0,27,2,4] ?_
  refine ht_seq ?_
  refine yyy hn 3 [0,27,2,4,8,9,10] ?_
  refine ht_loopS h (fun ((s18,s19,s20,s21,s22,s23,s24) : (List T_Item) × Int × (List Int) × (List Int) × Int × (List Int) × Int) => [(0,.fr .shr true 15 (flatten (map T_Rec.ienc l))),(27,.glob (GL mx)),(2,.box 37 [vz,vi 0,vz,vz,vi 0,vz]),(4,.box 37 [.fr (.own 47) false 11 (flatten (map T_Item.ienc s18)),vi s19,.fl (.own 3) 1 (map (int .i64) s20),.fl (.own 5) 1 (map (int .u8) s21),vi s22,.fl (.own 3) 1 (map (int .i64) s23)]),(8,.fr .shr true 15 (flatten (map T_Rec.ienc l))),(9,vi (l.length : Int)),(10,vi s24)]) (fun ((s27,s28,s29,s30,s31,s32) : (List T_Item) × Int × (List Int) × (List Int) × Int × (List Int)) => [(0,.fr .shr true 15 (flatten (map T_Rec.ienc l))),(27,.glob (GL mx)),(2,.box 37 [vz,vi 0,vz,vz,vi 0,vz]),(4,.box 37 [.fr (.own 47) false 11 (flatten (map T_Item.ienc s27)),vi s28,.fl (.own 3) 1 (map (int .i64) s29),.fl (.own 5) 1 (map (int .u8) s30),vi s31,.fl (.own 3) 1 (map (int .i64) s32)])]) ?_ ?_
  ·rintro ⟨s27, s28, s29, s30, s31, s32⟩ h
   refine pt_then ?_
   refine yxx hn 0 ?_
   refine yk [4] [] ?_
   refine yt (24,.agg [.fr (.own 47) false 11 (flatten (map T_Item.ienc s27)),vi s28,.fl (.own 3) 1 (map (int .i64) s29),.fl (.own 5) 1 (map (int .u8) s30),vi s31,.fl (.own 3) 1 (map (int .i64) s32)]) 2 ⟨op_loadA_take _ _ _ _ underlying37 rfl sz37 rfl rfl⟩ ?_
   refine yk [24,2] [] ?_
   refine yt (2,.box 37 [.fr (.own 47) false 11 (flatten (map T_Item.ienc s27)),vi s28,.fl (.own 3) 1 (map (int .i64) s29),.fl (.own 5) 1 (map (int .u8) s30),vi s31,.fl (.own 3) 1 (map (int .i64) s32)]) 1 ⟨op_store_take _ _ _ _ _ _ _ _ sz37 rfl rfl rfl (zl rfl) rfl rfl⟩ ?_
   refine yee [27,2,3] ?_
   refine ht_ret ?_
   refine pt_pick [1,2] (by kernel_rfl) (es' := [(_,_),(_,_)]) rfl ?_
   obtain rfl := zi h
   exact pt_ret hio rfl (.cellA _ _ _ _ underlying37 rfl sz37 (.tmp _ _ .nil)) rfl rfl
  ·rintro u33 hl34 hr35 ⟨s18, s19, s20, s21, s22, s23, s24⟩ rr38 h ho36
   refine yyy hn 1 [0,27,2,4,8,9,10,11] ?_
   refine ht_seq ?_
   refine ht_cond _ rfl (fun hb39 => ?_) (fun hb39 => ?_)
   ·have h := cond_t hb39 h
    refine ht_skip ?_
    refine pt_then (ht_seq ?_)
    refine ht_block ?_
    refine ht_seq ?_
    obtain ⟨v3, hv3, h⟩ := zn h
    obtain ⟨v4, hv4, h⟩ := zn h
    refine yx hn 1 ?_
    refine ys 0 ⟨lI hv3⟩ ?_
    refine yS (.agg (T_Rec.c v4 [])) 0 ⟨op_loadA_fr _ _ _ _ _ _ _ _ underlying31 rfl sz31 rfl rfl (gflat_get T_Rec.ilen hv4) (.cons (.v _) (.cons (.v _) (.cons (.v _) (.cons (.v _) (.cons (.fl _ _ rfl) (.cons (.fl _ _ rfl) (.cons (.v _) (.cons (.v _) (.cons (.v _) (.cons (.v _) (.cons (.fl _ _ rfl) (.cons (.v _) (.cons (.v _) (.cons (.v _) (.cons (.fl _ _ rfl) (.nil)))))))))))))))) rfl (by decide)⟩ ?_
    refine yS (.box 31 [vi 0,vb false,vs z0,vs z0,vz,vz,vb false,vs z0,vi 0,vi 0,vz,vi 0,vi 0,vi 0,vz]) 2 ⟨oA (op_alloc _ _ zr31)⟩ ?_
    refine yee [0,27,2,4,8,9,10,6,5] ?_
    refine ht_seq ?_
    refine ht_seq ?_
    obtain ⟨v5, hv5, h⟩ := zn h
    refine yx hn 2 ?_
    refine ys 1 ⟨lg call25 (ok_spool_valid _ _ _ _ hv5) 27⟩ ?_
    refine yee [0,27,2,4,8,9,10,6,5,18] ?_
    refine ht_cond _ rfl (fun hb40 => ?_) (fun hb40 => ?_)
    ·have h := cond_t hb40 h
     refine yxx hn 0 ?_
     refine yk [4] [] ?_
     refine yt (19,.agg [.fr (.own 47) false 11 (flatten (map T_Item.ienc s18)),vi s19,.fl (.own 3) 1 (map (int .i64) s20),.fl (.own 5) 1 (map (int .u8) s21),vi s22,.fl (.own 3) 1 (map (int .i64) s23)]) 1 ⟨op_loadA_take _ _ _ _ underlying37 rfl sz37 rfl rfl⟩ ?_
     refine yk [19,2] [] ?_
     refine yt (2,.box 37 [.fr (.own 47) false 11 (flatten (map T_Item.ienc s18)),vi s19,.fl (.own 3) 1 (map (int .i64) s20),.fl (.own 5) 1 (map (int .u8) s21),vi s22,.fl (.own 3) 1 (map (int .i64) s23)]) 1 ⟨op_store_take _ _ _ _ _ _ _ _ sz37 rfl rfl rfl (zl rfl) rfl rfl⟩ ?_
     refine yee [27,2,3] ?_
     refine ht_ret ?_
     refine pt_pick [1,2] (by kernel_rfl) (es' := [(_,_),(_,_)]) rfl ?_
     refine pt_r_then ?_
     refine pt_r_in ?_
     refine pt_r_then ?_
     refine pt_r_then ?_
     refine pt_r_in ?_
     refine pt_r_then ?_
     have h := hr35 _ (ho36 _ (zi h).symm).symm
     obtain rfl := zi h
     exact pt_ret hio rfl (.cellA _ _ _ _ underlying37 rfl sz37 (.tmp _ _ .nil)) rfl rfl
    ·have h := cond_f hb40 h
     refine ht_skip ?_
     refine pt_then ?_
     obtain ⟨v7, hv7, h⟩ := zn h
     refine yx hn 1 ?_
     refine yQ call26 (ok_spool_apply _ _ _ hv7) 4 [21] 0 ?_
     refine ye [0,27,2,4,8,9,10] ?_
     refine pt_inb ?_
     refine pt_then ?_
     obtain ⟨v8, hv8, h⟩ := zn h
     refine yx hn 0 ?_
     refine ys 0 ⟨lb hv8⟩ ?_
     refine yw [10] 1 ?_
     refine ye [0,27,2,4,8,9,10] ?_
     exact pt_next _ (zi h).symm rfl
   ·have h := cond_f hb39 h
    refine ht_exit ?_
    refine pt_x_then ?_
    refine pt_x_then ?_
    refine pt_x_in ?_
    refine pt_pick [0,1,2,3] (by kernel_rfl) (es' := [(_,_),(_,_),(_,_),(_,_)]) rfl ?_
    exact hl34 _ (ho36 _ (zi h).symm).symm
theorem ok_clone_Rec (p_r : T_Rec) (r : T_Rec) (h : Sh.clone_Rec p_r = some r) : FnOK Tryz.prog 32 [.agg [.v (.int .i64 p_r.Kind), .v (.bool p_r.Mail.From.Null), .v (.string p_r.Mail.From.Local), .v (.string p_r.Mail.From.Domain), .fl .shr 3 (flatten (map T_Path.enc p_r.Mail.To)), .fl .shr 1 (map (int .u8) p_r.Mail.Body), .v (.bool p_r.Mail.Quiet), .v (.string p_r.Mail.Helo), .v (.int .i64 p_r.Mail.At), .v (.int .i64 p_r.Id), .fl .shr 1 (map (int .i64) p_r.Ids), .v (.int .i64 p_r.Origin), .v (.int .i64 p_r.Number), .v (.int .i64 p_r.Offset), .fl .shr 1 (map (int .u8) p_r.Data)]] (.agg [.v (.int .i64 r.Kind), .v (.bool r.Mail.From.Null), .v (.string r.Mail.From.Local), .v (.string r.Mail.From.Domain), .fl (.own 24) 3 (flatten (map T_Path.enc r.Mail.To)), .fl (.own 5) 1 (map (int .u8) r.Mail.Body), .v (.bool r.Mail.Quiet), .v (.string r.Mail.Helo), .v (.int .i64 r.Mail.At), .v (.int .i64 r.Id), .fl (.own 3) 1 (map (int .i64) r.Ids), .v (.int .i64 r.Origin), .v (.int .i64 r.Number), .v (.int .i64 r.Offset), .fl (.own 5) 1 (map (int .u8) r.Data)]) := by
  unfold Sh.clone_Rec at h
  refine yO 16 func32 fun g0 hn hio => ?_
  refine yxx hn 1 ?_
  refine yS (.box 31 [vi 0,vb false,vs z0,vs z0,vz,vz,vb false,vs z0,vi 0,vi 0,vz,vi 0,vi 0,vi 0,vz]) 0 ⟨oA (op_alloc _ _ zr31)⟩ ?_
  refine yee [1,2] ?_
  refine ht_seq ?_
  obtain ⟨v1, hv1, h⟩ := zn h
  refine yx hn 2 ?_
  refine ys 1 ⟨lk call47 (ok_clone_Mail _ _ hv1)⟩ ?_
  refine yk [5,1] [6] ?_
  refine yt (1,.box 31 [vi p_r.Kind,vb v1.From.Null,vs v1.From.Local,vs v1.From.Domain,.fl (.own 24) 3 (flatten (map T_Path.enc v1.To)),.fl (.own 5) 1 (map (int .u8) v1.Body),vb v1.Quiet,vs v1.Helo,vi v1.At,vi p_r.Id,fi p_r.Ids,vi p_r.Origin,vi p_r.Number,vi p_r.Offset,fb p_r.Data]) 0 ⟨op_store_take _ _ _ _ _ _ _ _ sz28 rfl rfl rfl (zl rfl) rfl rfl⟩ ?_
  refine yee [1,2] ?_
  refine ht_seq ?_
  obtain ⟨v2, hv2, h⟩ := zn h
  refine yx hn 2 ?_
  refine ys 1 ⟨lk call54 (ok_clone_List_int _ _ hv2)⟩ ?_
  refine yk [9,1] [10] ?_
  refine yt (1,.box 31 [vi p_r.Kind,vb v1.From.Null,vs v1.From.Local,vs v1.From.Domain,.fl (.own 24) 3 (flatten (map T_Path.enc v1.To)),.fl (.own 5) 1 (map (int .u8) v1.Body),vb v1.Quiet,vs v1.Helo,vi v1.At,vi p_r.Id,.fl (.own 3) 1 (map (int .i64) v2),vi p_r.Origin,vi p_r.Number,vi p_r.Offset,fb p_r.Data]) 0 ⟨op_store_take _ _ _ _ _ _ _ _ sz29 rfl rfl rfl (zl rfl) rfl rfl⟩ ?_
  refine yee [1,2] ?_
  refine ht_seq ?_
  obtain ⟨v3, hv3, h⟩ := zn h
  refine yx hn 2 ?_
  refine ys 1 ⟨lk call55 (ok_clone_List_byte _ _ hv3)⟩ ?_
  refine yk [13,1] [14] ?_
  refine yt (1,.box 31 [vi p_r.Kind,vb v1.From.Null,vs v1.From.Local,vs v1.From.Domain,.fl (.own 24) 3 (flatten (map T_Path.enc v1.To)),.fl (.own 5) 1 (map (int .u8) v1.Body),vb v1.Quiet,vs v1.Helo,vi v1.At,vi p_r.Id,.fl (.own 3) 1 (map (int .i64) v2),vi p_r.Origin,vi p_r.Number,vi p_r.Offset,.fl (.own 5) 1 (map (int .u8) v3)]) 0 ⟨op_store_take _ _ _ _ _ _ _ _ sz26 rfl rfl rfl (zl rfl) rfl rfl⟩ ?_
  refine yee [1,2] ?_
  refine yxx hn 0 ?_
  refine yk [1] [] ?_
  refine yt (15,.agg [vi p_r.Kind,vb v1.From.Null,vs v1.From.Local,vs v1.From.Domain,.fl (.own 24) 3 (flatten (map T_Path.enc v1.To)),.fl (.own 5) 1 (map (int .u8) v1.Body),vb v1.Quiet,vs v1.Helo,vi v1.At,vi p_r.Id,.fl (.own 3) 1 (map (int .i64) v2),vi p_r.Origin,vi p_r.Number,vi p_r.Offset,.fl (.own 5) 1 (map (int .u8) v3)]) 0 ⟨op_loadA_take _ _ _ _ underlying31 rfl sz31 rfl rfl⟩ ?_
  refine yk [15,2] [] ?_
  refine yt (2,.box 31 [vi p_r.Kind,vb v1.From.Null,vs v1.From.Local,vs v1.From.Domain,.fl (.own 24) 3 (flatten (map T_Path.enc v1.To)),.fl (.own 5) 1 (map (int .u8) v1.Body),vb v1.Quiet,vs v1.Helo,vi v1.At,vi p_r.Id,.fl (.own 3) 1 (map (int .i64) v2),vi p_r.Origin,vi p_r.Number,vi p_r.Offset,.fl (.own 5) 1 (map (int .u8) v3)]) 0 ⟨op_store_take _ _ _ _ _ _ _ _ sz31 rfl rfl rfl (zl rfl) rfl rfl⟩ ?_
  refine yee [2] ?_
  refine ht_ret ?_
  obtain rfl := zi h
  exact pt_ret hio rfl (.cellA _ _ _ _ underlying31 rfl sz31 .nil) rfl rfl
theorem ok_spool_Lean (mx : Int) (l : (List T_Rec)) (r : (List T_Rec)) (h : Sh.spool_Lean l = some r) : FnG Tryz.prog (GL mx) 13 [.fr .shr true 15 (flatten (map T_Rec.ienc l))] (.fr (.own 31) false 15 (flatten (map T_Rec.ienc r))) := by
  unfold Sh.spool_Lean at h
  refine yG 65 func13 fun g0 hn hio => ?_
  refine yyy hn 1 [0,65] ?_
  refine ht_seq ?_
  obtain ⟨v1, hv1, h⟩ := zn h
  refine yx hn 1 ?_
  refine ys 0 ⟨lg call9 (ok_spool_Fold _ _ _ hv1) 65⟩ ?_
  refine ym 0 ?_
  refine yx_ 1 ?_
  refine yS (.box 37 [vz,vi 0,vz,vz,vi 0,vz]) 0 ⟨oA (op_alloc _ _ zr37)⟩ ?_
  refine yk [14,3] [] ?_
  refine yt (3,.box 37 [.fr (.own 47) false 11 (flatten (map T_Item.ienc v1.1.Items)),vi v1.1.Packs,.fl (.own 3) 1 (map (int .i64) v1.1.Sent),.fl (.own 5) 1 (map (int .u8) v1.1.Part),vi v1.1.Of,.fl (.own 3) 1 (map (int .i64) v1.1.Done)]) 1 ⟨op_store_take _ _ _ _ _ _ _ _ sz37 rfl rfl rfl (zl rfl) rfl rfl⟩ ?_
  refine yee [0,65,3,4] ?_
  refine ht_seq ?_
  obtain ⟨v2, hv2, h⟩ := zn h
  refine yx hn 2 ?_
  refine yS (.fr .shr true 15 (flatten (map T_Rec.ienc v2))) 0 ⟨op_slice_fr _ _ (Int.toNat 0) (Int.toNat v1.2) _ underlying22 sz31 (by decide) rfl rfl rfl ⟨_,congrArg (fun j => AV.v (int .i64 j)) (sli_bd hv2).2.1⟩ (sli_bd hv2).2.2.1 (by rw [gflat_len T_Rec.ilen]; exact Nat.mul_le_mul_right _ (sli_bd hv2).2.2.2) (gflat_sli T_Rec.ilen hv2)⟩ ?_
  refine yw [0] 1 ?_
  refine yee [65,3,0] ?_
  refine yyy hn 1 [65,3,0,5] ?_
  refine ht_seq ?_
  refine yyy hn 3 [65,3,0,5,19,20,21] ?_
  refine ht_loopS h (fun ((s53,s54) : Int × Int) => [(65,.glob (GL mx)),(3,.box 37 [.fr (.own 47) false 11 (flatten (map T_Item.ienc v1.1.Items)),vi v1.1.Packs,.fl (.own 3) 1 (map (int .i64) v1.1.Sent),.fl (.own 5) 1 (map (int .u8) v1.1.Part),vi v1.1.Of,.fl (.own 3) 1 (map (int .i64) v1.1.Done)]),(0,.fr .shr true 15 (flatten (map T_Rec.ienc v2))),(5,vi s53),(19,.fr .shr true 15 (flatten (map T_Rec.ienc v2))),(20,vi (v2.length : Int)),(21,vi s54)]) (fun (s70 : Int) => [(65,.glob (GL mx)),(3,.box 37 [.fr (.own 47) false 11 (flatten (map T_Item.ienc v1.1.Items)),vi v1.1.Packs,.fl (.own 3) 1 (map (int .i64) v1.1.Sent),.fl (.own 5) 1 (map (int .u8) v1.1.Part),vi v1.1.Of,.fl (.own 3) 1 (map (int .i64) v1.1.Done)]),(0,.fr .shr true 15 (flatten (map T_Rec.ienc v2))),(5,vi s70)]) ?_ ?_
  ·rintro s70 h
   refine pt_then ?_
   refine yyy hn 1 [65,3,0,5,8] ?_
   refine ht_seq ?_
   refine yyy hn 3 [65,3,5,8,36,37,38] ?_
   refine ht_sub (fs := [(65,.glob (GL mx)),(3,.box 37 [.fr (.own 47) false 11 (flatten (map T_Item.ienc v1.1.Items)),vi v1.1.Packs,.fl (.own 3) 1 (map (int .i64) v1.1.Sent),.fl (.own 5) 1 (map (int .u8) v1.1.Part),vi v1.1.Of,.fl (.own 3) 1 (map (int .i64) v1.1.Done)]),(5,vi s70),(8,.fr (.own 31) false 15 (flatten (map T_Rec.ienc []))),(36,.fr .shr true 15 (flatten (map T_Rec.ienc v2))),(37,vi (v2.length : Int)),(38,vi 0)]) (.same _ (.same _ (.same _ (.sub _ (sub_nil_fr 31 false 15) rfl (.same _ (.same _ (.same _ .nil))))))) ?_
   refine ht_loopS h (fun ((s130,s131) : (List T_Rec) × Int) => [(65,.glob (GL mx)),(3,.box 37 [.fr (.own 47) false 11 (flatten (map T_Item.ienc v1.1.Items)),vi v1.1.Packs,.fl (.own 3) 1 (map (int .i64) v1.1.Sent),.fl (.own 5) 1 (map (int .u8) v1.1.Part),vi v1.1.Of,.fl (.own 3) 1 (map (int .i64) v1.1.Done)]),(5,vi s70),(8,.fr (.own 31) false 15 (flatten (map T_Rec.ienc s130))),(36,.fr .shr true 15 (flatten (map T_Rec.ienc v2))),(37,vi (v2.length : Int)),(38,vi s131)]) (fun (s147 : (List T_Rec)) => [(65,.glob (GL mx)),(8,.fr (.own 31) false 15 (flatten (map T_Rec.ienc s147)))]) ?_ ?_
   ·rintro s147 h
    refine pt_then ?_
    refine yxx hn 0 ?_
    refine ym 0 ?_
    refine ya 0 ?_
    refine yee [65,2] ?_
    refine ht_ret ?_
    refine pt_pick [1] (by kernel_rfl) (es' := [(_,_)]) rfl ?_
    obtain rfl := zi h
    exact pt_ret hio rfl (.tmp _ _ .nil) rfl rfl
   ·rintro u148 hl149 hr150 ⟨s130, s131⟩ rr153 h ho151
    refine yyy hn 1 [65,3,5,8,36,37,38,39] ?_
    refine ht_seq ?_
    refine ht_cond _ rfl (fun hb154 => ?_) (fun hb154 => ?_)
    ·have h := cond_t hb154 h
     refine ht_skip ?_
     refine pt_then (ht_seq ?_)
     refine ht_joinS h (fun (s160 : (List T_Rec)) => [(65,.glob (GL mx)),(3,.box 37 [.fr (.own 47) false 11 (flatten (map T_Item.ienc v1.1.Items)),vi v1.1.Packs,.fl (.own 3) 1 (map (int .i64) v1.1.Sent),.fl (.own 5) 1 (map (int .u8) v1.1.Part),vi v1.1.Of,.fl (.own 3) 1 (map (int .i64) v1.1.Done)]),(5,vi s70),(8,.fr (.own 31) false 15 (flatten (map T_Rec.ienc s160))),(36,.fr .shr true 15 (flatten (map T_Rec.ienc v2))),(37,vi (v2.length : Int)),(38,vi s131)]) ?_ ?_
     ·rintro s160 h
      refine pt_then ?_
      obtain ⟨v112, hv112, h⟩ := zn h
      refine yx hn 0 ?_
      refine ys 0 ⟨lb hv112⟩ ?_
      refine yw [38] 1 ?_
      refine ye [65,3,5,8,36,37,38] ?_
      exact pt_next _ (zi h).symm rfl
     ·intro u161 h hl162 hr163
      refine ht_block ?_
      refine ht_seq ?_
      obtain ⟨v93, hv93, h⟩ := zn h
      obtain ⟨v94, hv94, h⟩ := zn h
      refine yx hn 1 ?_
      refine ys 0 ⟨lI hv93⟩ ?_
      refine yS (.agg (T_Rec.c v94 [])) 0 ⟨op_loadA_fr _ _ _ _ _ _ _ _ underlying31 rfl sz31 rfl rfl (gflat_get T_Rec.ilen hv94) (.cons (.v _) (.cons (.v _) (.cons (.v _) (.cons (.v _) (.cons (.fl _ _ rfl) (.cons (.fl _ _ rfl) (.cons (.v _) (.cons (.v _) (.cons (.v _) (.cons (.v _) (.cons (.fl _ _ rfl) (.cons (.v _) (.cons (.v _) (.cons (.v _) (.cons (.fl _ _ rfl) (.nil)))))))))))))))) rfl (by decide)⟩ ?_
      refine yS (.box 31 [vi 0,vb false,vs z0,vs z0,vz,vz,vb false,vs z0,vi 0,vi 0,vz,vi 0,vi 0,vi 0,vz]) 2 ⟨oA (op_alloc _ _ zr31)⟩ ?_
      refine yee [65,3,5,8,36,37,38,10,9] ?_
      refine ht_seq ?_
      refine ht_seq ?_
      refine ht_joinS h (fun (s164 : Bool) => [(65,.glob (GL mx)),(3,.box 37 [.fr (.own 47) false 11 (flatten (map T_Item.ienc v1.1.Items)),vi v1.1.Packs,.fl (.own 3) 1 (map (int .i64) v1.1.Sent),.fl (.own 5) 1 (map (int .u8) v1.1.Part),vi v1.1.Of,.fl (.own 3) 1 (map (int .i64) v1.1.Done)]),(5,vi s70),(8,.fr (.own 31) false 15 (flatten (map T_Rec.ienc s130))),(36,.fr .shr true 15 (flatten (map T_Rec.ienc v2))),(37,vi (v2.length : Int)),(38,vi s131),(10,.box 31 (T_Rec.c v94 [])),(57,vb s164)]) ?_ ?_
      ·rintro s164 h
       refine pt_then ?_
       refine ht_cond _ rfl (fun hb168 => ?_) (fun hb168 => ?_)
       ·have h := cond_t hb168 h
        refine ht_exit ?_
        refine pt_x_then ?_
        refine pt_x_in ?_
        refine pt_pick [0,1,2,3,4,5,6] (by kernel_rfl) (es' := [(_,_),(_,_),(_,_),(_,_),(_,_),(_,_),(_,_)]) rfl ?_
        exact hl162 _ (zi h).symm
       ·have h := cond_f hb168 h
        refine ht_skip ?_
        refine pt_then ?_
        obtain ⟨v101, hv101, h⟩ := zn h
        obtain ⟨v102, hv102, h⟩ := zn h
        refine yx hn 0 ?_
        refine ym 1 ?_
        refine ys 0 ⟨lk call32 (ok_clone_Rec _ _ hv101)⟩ ?_
        refine yk [60] [] ?_
        refine yt (61,.fr (.own 31) false 15 (flatten (map T_Rec.ienc [(T_Rec.mk v101.Kind ((T_Mail.mk (T_Path.mk v101.Mail.From.Null v101.Mail.From.Local v101.Mail.From.Domain) v101.Mail.To v101.Mail.Body v101.Mail.Quiet v101.Mail.Helo v101.Mail.At)) v101.Id v101.Ids v101.Origin v101.Number v101.Offset v101.Data)]))) 0 ⟨op_build1_fr_take _ _ _ 15 (.agg #[.int .i64 0,.bool false,.string ByteArray.empty,.string ByteArray.empty,.slice none 0 0,.slice none 0 0,.bool false,.string ByteArray.empty,.int .i64 0,.int .i64 0,.slice none 0 0,.int .i64 0,.int .i64 0,.int .i64 0,.slice none 0 0]) false _ _ underlying22 sz31 zr31 rfl (.cons (.v _) (.cons (.v _) (.cons (.v _) (.cons (.v _) (.cons (.ro _ _ rfl) (.cons (.ro _ _ rfl) (.cons (.v _) (.cons (.v _) (.cons (.v _) (.cons (.v _) (.cons (.ro _ _ rfl) (.cons (.v _) (.cons (.v _) (.cons (.v _) (.cons (.ro _ _ rfl) (.nil)))))))))))))))) rfl (by decide) (by decide)⟩ ?_
        refine yk [58] [61] ?_
        refine ytt (58,.any) (62,.fr (.own 31) false 15 (flatten (map T_Rec.ienc v102))) 0 ⟨op_app_fr _ _ _ _ _ el22 rfl rfl (gflat_len T_Rec.ilen _) (gflat_len T_Rec.ilen _) hv102 (gflat_app (app_eq hv102)) (by decide) (by decide)⟩ ?_
        refine ya 0 ?_
        refine ye [65,3,5,36,37,38,8] ?_
        refine pt_inb ?_
        refine pt_pick [0,1,2,6,3,4,5] (by kernel_rfl) (es' := [(_,_),(_,_),(_,_),(_,_),(_,_),(_,_),(_,_)]) rfl ?_
        exact hl162 _ (zi h).symm
      ·intro u165 h hl166 hr167
       refine cond_some h (fun hg14_3 h => ?_) (fun hg14_3 h => ?_)
       ·refine cond_some h (fun hg14_7 h => ?_) (fun hg14_7 h => ?_)
        ·refine yx hn 4 ?_
         refine yd hg14_3 4 ?_
         refine yd hg14_7 7 ?_
         refine ye [65,3,5,8,36,37,38,10,57] ?_
         exact hl166 _ (zi h).symm
        ·obtain ⟨v95, hv95, h⟩ := zn h
         refine yx hn 4 ?_
         refine yd hg14_3 4 ?_
         refine yd hg14_7 4 ?_
         refine ys 2 ⟨lk call31 (ok_slices_Contains_int_int _ _ _ hv95)⟩ ?_
         refine ye [65,3,5,8,36,37,38,10,57] ?_
         exact hl166 _ (zi h).symm
       ·refine yx hn 4 ?_
        refine yd hg14_3 11 ?_
        refine ye [65,3,5,8,36,37,38,10,57] ?_
        exact hl166 _ (zi h).symm
    ·have h := cond_f hb154 h
     refine ht_exit ?_
     refine pt_x_then ?_
     refine pt_x_then ?_
     refine pt_x_in ?_
     refine pt_pick [0,3] (by kernel_rfl) (es' := [(_,_),(_,_)]) rfl ?_
     exact hl149 _ (ho151 _ (zi h).symm).symm
  ·rintro u71 hl72 hr73 ⟨s53, s54⟩ rr76 h ho74
   refine yyy hn 1 [65,3,0,5,19,20,21,22] ?_
   refine ht_seq ?_
   refine ht_cond _ rfl (fun hb77 => ?_) (fun hb77 => ?_)
   ·have h := cond_t hb77 h
    refine ht_skip ?_
    refine pt_then (ht_seq ?_)
    refine ht_joinS h (fun (s83 : Int) => [(65,.glob (GL mx)),(3,.box 37 [.fr (.own 47) false 11 (flatten (map T_Item.ienc v1.1.Items)),vi v1.1.Packs,.fl (.own 3) 1 (map (int .i64) v1.1.Sent),.fl (.own 5) 1 (map (int .u8) v1.1.Part),vi v1.1.Of,.fl (.own 3) 1 (map (int .i64) v1.1.Done)]),(0,.fr .shr true 15 (flatten (map T_Rec.ienc v2))),(19,.fr .shr true 15 (flatten (map T_Rec.ienc v2))),(20,vi (v2.length : Int)),(21,vi s54),(5,vi s83)]) ?_ ?_
    ·rintro s83 h
     refine pt_then ?_
     obtain ⟨v19, hv19, h⟩ := zn h
     refine yx hn 0 ?_
     refine ys 0 ⟨lb hv19⟩ ?_
     refine yw [21] 1 ?_
     refine ye [65,3,0,19,20,5,21] ?_
     refine pt_pick [0,1,2,5,3,4,6] (by kernel_rfl) (es' := [(_,_),(_,_),(_,_),(_,_),(_,_),(_,_),(_,_)]) rfl ?_
     exact pt_next _ (zi h).symm rfl
    ·intro u84 h hl85 hr86
     refine ht_block ?_
     refine ht_seq ?_
     obtain ⟨v4, hv4, h⟩ := zn h
     obtain ⟨v5, hv5, h⟩ := zn h
     refine yx hn 1 ?_
     refine ys 0 ⟨lI hv4⟩ ?_
     refine yS (.agg (T_Rec.c v5 [])) 0 ⟨op_loadA_fr _ _ _ _ _ _ _ _ underlying31 rfl sz31 rfl rfl (gflat_get T_Rec.ilen hv5) (.cons (.v _) (.cons (.v _) (.cons (.v _) (.cons (.v _) (.cons (.fl _ _ rfl) (.cons (.fl _ _ rfl) (.cons (.v _) (.cons (.v _) (.cons (.v _) (.cons (.v _) (.cons (.fl _ _ rfl) (.cons (.v _) (.cons (.v _) (.cons (.v _) (.cons (.fl _ _ rfl) (.nil)))))))))))))))) rfl (by decide)⟩ ?_
     refine yS (.box 31 [vi 0,vb false,vs z0,vs z0,vz,vz,vb false,vs z0,vi 0,vi 0,vz,vi 0,vi 0,vi 0,vz]) 2 ⟨oA (op_alloc _ _ zr31)⟩ ?_
     refine yee [65,3,0,5,19,20,21,7,6] ?_
     refine ht_seq ?_
     refine ht_joinS h (fun (s87 : Bool) => [(65,.glob (GL mx)),(3,.box 37 [.fr (.own 47) false 11 (flatten (map T_Item.ienc v1.1.Items)),vi v1.1.Packs,.fl (.own 3) 1 (map (int .i64) v1.1.Sent),.fl (.own 5) 1 (map (int .u8) v1.1.Part),vi v1.1.Of,.fl (.own 3) 1 (map (int .i64) v1.1.Done)]),(0,.fr .shr true 15 (flatten (map T_Rec.ienc v2))),(5,vi s53),(19,.fr .shr true 15 (flatten (map T_Rec.ienc v2))),(20,vi (v2.length : Int)),(21,vi s54),(6,vi s54),(33,vb s87)]) ?_ ?_
     ·rintro s87 h
      refine pt_then ?_
      refine ht_cond _ rfl (fun hb91 => ?_) (fun hb91 => ?_)
      ·have h := cond_t hb91 h
       refine yx hn 1 ?_
       refine yw [5] 1 ?_
       refine ye [65,3,0,19,20,21,5] ?_
       refine pt_inb ?_
       exact hl85 _ (zi h).symm
      ·have h := cond_f hb91 h
       refine ht_skip ?_
       refine pt_inb ?_
       refine pt_pick [0,1,2,4,5,6,3] (by kernel_rfl) (es' := [(_,_),(_,_),(_,_),(_,_),(_,_),(_,_),(_,_)]) rfl ?_
       exact hl85 _ (zi h).symm
     ·intro u88 h hl89 hr90
      refine cond_some h (fun hg7_3 h => ?_) (fun hg7_3 h => ?_)
      ·refine yx hn 4 ?_
       refine yd hg7_3 4 ?_
       refine ye [65,3,0,5,19,20,21,6,33] ?_
       exact hl89 _ (zi h).symm
      ·refine yx hn 4 ?_
       refine yd hg7_3 4 ?_
       refine ye [65,3,0,5,19,20,21,6,33] ?_
       exact hl89 _ (zi h).symm
   ·have h := cond_f hb77 h
    refine ht_exit ?_
    refine pt_x_then ?_
    refine pt_x_then ?_
    refine pt_x_in ?_
    refine pt_pick [0,1,2,3] (by kernel_rfl) (es' := [(_,_),(_,_),(_,_),(_,_)]) rfl ?_
    exact hl72 _ (ho74 _ (zi h).symm).symm
theorem ok_wherrylaw19_wakes (mx : Int) (r : Bool) (h : Sh.wherrylaw19_wakes  = some r) : FnG Tryz.prog (GL mx) 19 [] (.v (.bool r)) := by
  unfold Sh.wherrylaw19_wakes at h
  refine yG 58 func19 fun g0 hn hio => ?_
  refine yyy hn 1 [58] ?_
  refine ht_seq ?_
  obtain ⟨v1, hv1, h⟩ := zn h
  refine yx hn 0 ?_
  refine yS (.agg [vi v1.Kind,vb v1.Mail.From.Null,vs v1.Mail.From.Local,vs v1.Mail.From.Domain,.fl .ro 3 (flatten (map T_Path.enc v1.Mail.To)),.fl .ro 1 (map (int .u8) v1.Mail.Body),vb v1.Mail.Quiet,vs v1.Mail.Helo,vi v1.Mail.At,vi v1.Id,.fl .ro 1 (map (int .i64) v1.Ids),vi v1.Origin,vi v1.Number,vi v1.Offset,.fl .ro 1 (map (int .u8) v1.Data)]) 0 ⟨LOp.frzG 0 (op_call _ _ 38 _ _ rfl call38 rfl (ok_wherrylaw19_some 1 1 _ hv1) rfl rfl) (zl rfl) rfl⟩ ?_
  refine yS (.fl (.own 3) 1 (map (int .i64) [1])) 0 ⟨op_buildSlice _ _ 1 (.int .i64 0) (map (int .i64) [1]) [(0,.int .i64 1)] underlying29 sz3 zr3 (fun _ V w o a hv hes => by simp only [List.map_toArray,List.map_cons,List.map_nil]; try rfl) (litfill (by simp [Instr.fill,Value.cells]; rfl) (by simp [List.range,List.range.loop] <;> rfl)) (by simp [Value.oneCell']) rfl (by decide) (by decide) (by decide)⟩ ?_
  refine yk [7] [] ?_
  refine yt (8,.agg [vi 2,vb false,vs z0,vs z0,vz,vz,vb false,vs z0,vi 0,vi 0,.fl .ro 1 (map (int .i64) [1]),vi 0,vi 1,vi 0,vz]) 0 ⟨LOp.frzG 0 (op_build _ _ _ _ [1,8,1,1,1,1,1,1] _ _ underlying31 zr31 (fs31 _ underlying31) (.copy _ (.copy _ (.take _ _ Src.nil))) rfl rfl rfl) (zl rfl) rfl⟩ ?_
  refine yS (.agg [vi 3,vb false,vs z0,vs z0,vz,vz,vb false,vs z0,vi 0,vi 0,vz,vi 0,vi 1,vi 0,vz]) 0 ⟨op_build _ _ _ _ [1,8,1,1,1,1,1,1] _ _ underlying31 zr31 (fs31 _ underlying31) (.copy _ (.copy _ Src.nil)) rfl rfl rfl⟩ ?_
  refine yS (.fr (.own 31) false 15 (flatten (map T_Rec.ienc ([(T_Rec.mk v1.Kind ((T_Mail.mk (T_Path.mk v1.Mail.From.Null v1.Mail.From.Local v1.Mail.From.Domain) v1.Mail.To v1.Mail.Body v1.Mail.Quiet v1.Mail.Helo v1.Mail.At)) v1.Id v1.Ids v1.Origin v1.Number v1.Offset v1.Data),(T_Rec.mk 2 ((T_Mail.mk ((T_Path.mk false z0 z0)) [] [] false z0 0)) 0 [1] 0 1 0 []),(T_Rec.mk 3 ((T_Mail.mk ((T_Path.mk false z0 z0)) [] [] false z0 0)) 0 [] 0 1 0 [])])))) 0 ⟨op_buildn_fr _ _ 3 15 (.agg #[.int .i64 0,.bool false,.string ByteArray.empty,.string ByteArray.empty,.slice none 0 0,.slice none 0 0,.bool false,.string ByteArray.empty,.int .i64 0,.int .i64 0,.slice none 0 0,.int .i64 0,.int .i64 0,.int .i64 0,.slice none 0 0]) false [some (.tmp 6),some (.tmp 8),some (.tmp 9)] _ underlying22 sz31 zr31 rfl rfl (by kernel_rfl) rfl rfl (.some (ics := T_Rec.ienc ((T_Rec.mk v1.Kind ((T_Mail.mk (T_Path.mk v1.Mail.From.Null v1.Mail.From.Local v1.Mail.From.Domain) v1.Mail.To v1.Mail.Body v1.Mail.Quiet v1.Mail.Helo v1.Mail.At)) v1.Id v1.Ids v1.Origin v1.Number v1.Offset v1.Data))) (jcs := (flatten (map T_Rec.ienc ([(T_Rec.mk 2 ((T_Mail.mk ((T_Path.mk false z0 z0)) [] [] false z0 0)) 0 [1] 0 1 0 []),(T_Rec.mk 3 ((T_Mail.mk ((T_Path.mk false z0 z0)) [] [] false z0 0)) 0 [] 0 1 0 [])] : List T_Rec)))) _ rfl rfl (.cons (.v _) (.cons (.v _) (.cons (.v _) (.cons (.v _) (.cons (.ro _ _ rfl) (.cons (.ro _ _ rfl) (.cons (.v _) (.cons (.v _) (.cons (.v _) (.cons (.v _) (.cons (.ro _ _ rfl) (.cons (.v _) (.cons (.v _) (.cons (.v _) (.cons (.ro _ _ rfl) (.nil)))))))))))))))) rfl (.some (ics := T_Rec.ienc ((T_Rec.mk 2 ((T_Mail.mk ((T_Path.mk false z0 z0)) [] [] false z0 0)) 0 [1] 0 1 0 []))) (jcs := (flatten (map T_Rec.ienc ([(T_Rec.mk 3 ((T_Mail.mk ((T_Path.mk false z0 z0)) [] [] false z0 0)) 0 [] 0 1 0 [])] : List T_Rec)))) _ rfl rfl (.cons (.v _) (.cons (.v _) (.cons (.v _) (.cons (.v _) (.cons (.nil 3) (.cons (.nil 1) (.cons (.v _) (.cons (.v _) (.cons (.v _) (.cons (.v _) (.cons (.ro _ _ rfl) (.cons (.v _) (.cons (.v _) (.cons (.v _) (.cons (.nil 1) (.nil)))))))))))))))) rfl (.some (ics := T_Rec.ienc ((T_Rec.mk 3 ((T_Mail.mk ((T_Path.mk false z0 z0)) [] [] false z0 0)) 0 [] 0 1 0 []))) (jcs := (flatten (map T_Rec.ienc ([] : List T_Rec)))) _ rfl rfl (.cons (.v _) (.cons (.v _) (.cons (.v _) (.cons (.v _) (.cons (.nil 3) (.cons (.nil 1) (.cons (.v _) (.cons (.v _) (.cons (.v _) (.cons (.v _) (.cons (.nil 1) (.cons (.v _) (.cons (.v _) (.cons (.v _) (.cons (.nil 1) (.nil)))))))))))))))) rfl (.nil)))) (by decide) (by decide) (by decide)⟩ ?_
  refine ya 0 ?_
  refine yee [58,1] ?_
  refine ht_seq ?_
  obtain ⟨v2, hv2, h⟩ := zn h
  refine yx hn 1 ?_
  refine ys 0 ⟨lg call9 (ok_spool_Fold _ _ _ hv2) 58⟩ ?_
  refine ym 0 ?_
  refine yx_ 1 ?_
  refine yS (.box 37 [vz,vi 0,vz,vz,vi 0,vz]) 0 ⟨oA (op_alloc _ _ zr37)⟩ ?_
  refine yk [14,2] [] ?_
  refine yt (2,.box 37 [.fr (.own 47) false 11 (flatten (map T_Item.ienc v2.1.Items)),vi v2.1.Packs,.fl (.own 3) 1 (map (int .i64) v2.1.Sent),.fl (.own 5) 1 (map (int .u8) v2.1.Part),vi v2.1.Of,.fl (.own 3) 1 (map (int .i64) v2.1.Done)]) 1 ⟨op_store_take _ _ _ _ _ _ _ _ sz37 rfl rfl rfl (zl rfl) rfl rfl⟩ ?_
  refine yee [58,1,2,3] ?_
  refine ht_seq ?_
  obtain ⟨v3, hv3, h⟩ := zn h
  refine yx hn 1 ?_
  refine yS (.agg [vi 4,vb false,vs z0,vs z0,vz,vz,vb false,vs z0,vi 0,vi 1,vz,vi 0,vi 0,vi 0,vz]) 0 ⟨op_build _ _ _ _ [1,8,1,1,1,1,1,1] _ _ underlying31 zr31 (fs31 _ underlying31) (.copy _ (.copy _ Src.nil)) rfl rfl rfl⟩ ?_
  refine yS (.tup [.agg [.fr (.own 47) false 11 (flatten (map T_Item.ienc v3.1.Items)),vi v3.1.Packs,.fl (.own 3) 1 (map (int .i64) v3.1.Sent),.fl (.own 5) 1 (map (int .u8) v3.1.Part),vi v3.1.Of,.fl (.own 3) 1 (map (int .i64) v3.1.Done)],vi v3.2]) 0 ⟨op_callG _ _ 58 15 _ _ rfl call15 rfl rfl (fun _ h => h) ((ok_spool_Add mx v2.1 ((T_Rec.mk 4 ((T_Mail.mk ((T_Path.mk false z0 z0)) [] [] false z0 0)) 1 [] 0 0 0 [])) _ hv3).args (subs_cons (sub_refl _) (subs_cons (sub_agg (subs_cons (sub_refl _) (subs_cons (sub_refl _) (subs_cons (sub_refl _) (subs_cons (sub_refl _) (subs_cons (sub_nil_shr 3) (subs_cons (sub_nil_shr 1) (subs_cons (sub_refl _) (subs_cons (sub_refl _) (subs_cons (sub_refl _) (subs_cons (sub_refl _) (subs_cons (sub_nil_shr 1) (subs_cons (sub_refl _) (subs_cons (sub_refl _) (subs_cons (sub_refl _) (subs_cons (sub_nil_shr 1) (subs_nil))))))))))))))))) (subs_nil)))) rfl rfl⟩ ?_
  refine ym 0 ?_
  refine yx_ 1 ?_
  refine yS (.box 37 [vz,vi 0,vz,vz,vi 0,vz]) 0 ⟨oA (op_alloc _ _ zr37)⟩ ?_
  refine yk [20,4] [] ?_
  refine yt (4,.box 37 [.fr (.own 47) false 11 (flatten (map T_Item.ienc v3.1.Items)),vi v3.1.Packs,.fl (.own 3) 1 (map (int .i64) v3.1.Sent),.fl (.own 5) 1 (map (int .u8) v3.1.Part),vi v3.1.Of,.fl (.own 3) 1 (map (int .i64) v3.1.Done)]) 1 ⟨op_store_take _ _ _ _ _ _ _ _ sz37 rfl rfl rfl (zl rfl) rfl rfl⟩ ?_
  refine yee [58,1,2,3,5] ?_
  refine ht_seq ?_
  refine ht_joinS h (fun (s8 : Bool) => [(58,.glob (GL mx)),(0,vb s8)]) ?_ ?_
  ·rintro s8 h
   refine pt_then (ht_ret ?_)
   refine pt_pick [1] (by kernel_rfl) (es' := [(_,_)]) rfl ?_
   obtain rfl := zi h
   exact pt_ret hio rfl (.tmp _ _ .nil) rfl rfl
  ·intro u9 h hl10 hr11
   refine cond_some h (fun hg4_2 h => ?_) (fun hg4_2 h => ?_)
   ·refine cond_some h (fun hg4_8 h => ?_) (fun hg4_8 h => ?_)
    ·obtain ⟨v4, hv4, h⟩ := zn h
     obtain ⟨v5, hv5, h⟩ := zn h
     refine cond_some h (fun hg4_16 h => ?_) (fun hg4_16 h => ?_)
     ·refine cond_some h (fun hg4_21 h => ?_) (fun hg4_21 h => ?_)
      ·refine cond_some h (fun hg4_25 h => ?_) (fun hg4_25 h => ?_)
       ·obtain ⟨v6, hv6, h⟩ := zn h
        refine cond_some h (fun hg4_31 h => ?_) (fun hg4_31 h => ?_)
        ·obtain ⟨v7, hv7, h⟩ := zn h
         refine yx hn 3 ?_
         refine yd hg4_2 6 ?_
         refine yd hg4_8 2 ?_
         refine ys 1 ⟨lI hv4⟩ ?_
         refine yS (vi v5.State) 3 ⟨op_load_fr _ _ _ _ _ _ _ underlying3 rfl rfl rfl (gflat_cell T_Item.ilen hv5 rfl) (.v _)⟩ ?_
         refine yd hg4_16 5 ?_
         refine yd hg4_21 4 ?_
         refine yd hg4_25 0 ?_
         refine ym 0 ?_
         refine ys 4 ⟨lg call13 (ok_spool_Lean _ _ _ hv6) 58⟩ ?_
         refine yd hg4_31 0 ?_
         refine ys 0 ⟨lk call24 (ok_spool_New _ hv7)⟩ ?_
         refine yS (vi v7.Of) 3 ⟨op_field1 _ _ 54 4 _ underlying37 rfl underlying3 rfl rfl rfl (zl rfl)⟩ ?_
         refine ye [58,0] ?_
         exact hl10 _ (zi h).symm
        ·refine yx hn 3 ?_
         refine yd hg4_2 6 ?_
         refine yd hg4_8 2 ?_
         refine ys 1 ⟨lI hv4⟩ ?_
         refine yS (vi v5.State) 3 ⟨op_load_fr _ _ _ _ _ _ _ underlying3 rfl rfl rfl (gflat_cell T_Item.ilen hv5 rfl) (.v _)⟩ ?_
         refine yd hg4_16 5 ?_
         refine yd hg4_21 4 ?_
         refine yd hg4_25 0 ?_
         refine ym 0 ?_
         refine ys 4 ⟨lg call13 (ok_spool_Lean _ _ _ hv6) 58⟩ ?_
         refine yd hg4_31 5 ?_
         refine ye [58,0] ?_
         exact hl10 _ (zi h).symm
       ·refine yx hn 3 ?_
        refine yd hg4_2 6 ?_
        refine yd hg4_8 2 ?_
        refine ys 1 ⟨lI hv4⟩ ?_
        refine yS (vi v5.State) 3 ⟨op_load_fr _ _ _ _ _ _ _ underlying3 rfl rfl rfl (gflat_cell T_Item.ilen hv5 rfl) (.v _)⟩ ?_
        refine yd hg4_16 5 ?_
        refine yd hg4_21 4 ?_
        refine yd hg4_25 11 ?_
        refine ye [58,0] ?_
        exact hl10 _ (zi h).symm
      ·refine yx hn 3 ?_
       refine yd hg4_2 6 ?_
       refine yd hg4_8 2 ?_
       refine ys 1 ⟨lI hv4⟩ ?_
       refine yS (vi v5.State) 3 ⟨op_load_fr _ _ _ _ _ _ _ underlying3 rfl rfl rfl (gflat_cell T_Item.ilen hv5 rfl) (.v _)⟩ ?_
       refine yd hg4_16 5 ?_
       refine yd hg4_21 15 ?_
       refine ye [58,0] ?_
       exact hl10 _ (zi h).symm
     ·refine yx hn 3 ?_
      refine yd hg4_2 6 ?_
      refine yd hg4_8 2 ?_
      refine ys 1 ⟨lI hv4⟩ ?_
      refine yS (vi v5.State) 3 ⟨op_load_fr _ _ _ _ _ _ _ underlying3 rfl rfl rfl (gflat_cell T_Item.ilen hv5 rfl) (.v _)⟩ ?_
      refine yd hg4_16 20 ?_
      refine ye [58,0] ?_
      exact hl10 _ (zi h).symm
    ·refine yx hn 3 ?_
     refine yd hg4_2 6 ?_
     refine yd hg4_8 28 ?_
     refine ye [58,0] ?_
     exact hl10 _ (zi h).symm
   ·refine yx hn 3 ?_
    refine yd hg4_2 34 ?_
    refine ye [58,0] ?_
    exact hl10 _ (zi h).symm
end Go.Proofs.YtjdmcbkkacnmdaaGreatDoor
