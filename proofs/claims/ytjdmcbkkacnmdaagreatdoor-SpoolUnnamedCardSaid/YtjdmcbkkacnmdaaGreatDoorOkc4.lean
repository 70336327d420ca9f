/-
  The model's runs are what is told in Lean.
-/
import Derived.Test.YtjdmcbkkacnmdaaGreatDoorProg
import Derived.KernelRfl
import Derived.Test.YtjdmcbkkacnmdaaGreatDoorShelf
import Derived.Test.YtjdmcbkkacnmdaaGreatDoorIdx
import Derived.Test.YtjdmcbkkacnmdaaGreatDoorIns
import Derived.Test.YtjdmcbkkacnmdaaGreatDoorB1
import Derived.Test.YtjdmcbkkacnmdaaGreatDoorC1
import Derived.Test.YtjdmcbkkacnmdaaGreatDoorOkc3
set_option linter.unusedVariables false
set_option linter.unusedSimpArgs false
set_option maxHeartbeats 1000000
namespace Go.Proofs.YtjdmcbkkacnmdaaGreatDoor
open Go.Abs Go.Abs.Sh Tryz
open List (map flatten)
open Value (int)
theorem ok_wherryref18_Fold (l : (List T_Rec)) (r : (T_Spool × Int)) (h : Sh.wherryref18_Fold l = some r) : FnOK Tryz.prog 10 [.fr .shr true 15 (flatten (map T_Rec.ienc l))] (.tup [.agg [.fr (.own 47) false 11 (flatten (map T_Item.ienc r.1.Items)), .v (.int .i64 r.1.Packs), .fl (.own 3) 1 (map (int .i64) r.1.Sent), .fl (.own 5) 1 (map (int .u8) r.1.Part), .v (.int .i64 r.1.Of), .fl (.own 3) 1 (map (int .i64) r.1.Done)], .v (.int .i64 r.2)]) := by
  unfold Sh.wherryref18_Fold at h
  refine yO 32 func10 fun g0 hn hio => ?_
  refine yxx hn 0 ?_
  refine yS (.box 37 [vz,vi 0,vz,vz,vi 0,vz]) 1 ⟨oA (op_alloc _ _ zr37)⟩ ?_
  refine yee [0,2] ?_
  refine ht_seq ?_
  obtain ⟨v1, hv1, h⟩ := zn h
  refine yx hn 0 ?_
  refine ys 0 ⟨lk call27 (ok_wherryref18_Nothing _ hv1)⟩ ?_
  refine yS (.box 37 [vz,vi 0,vz,vz,vi 0,vz]) 0 ⟨oA (op_alloc _ _ zr37)⟩ ?_
  refine yk [8,4] [] ?_
  refine yt (4,.box 37 [.fr (.own 47) false 11 (flatten (map T_Item.ienc v1.Items)),vi v1.Packs,.fl (.own 3) 1 (map (int .i64) v1.Sent),.fl (.own 5) 1 (map (int .u8) v1.Part),vi v1.Of,.fl (.own 3) 1 (map (int .i64) v1.Done)]) 0 ⟨op_store_take _ _ _ _ _ _ _ _ sz37 rfl rfl rfl (zl rfl) rfl rfl⟩ ?_
  refine yee [0,2,4] ?_
  refine ht_seq ?_
  refine yyy hn 1 [0,2,4,5] ?_
  refine ht_loopS h (fun ((s17,s18,s19,s20,s21,s22,s23) : (List T_Item) × Int × (List Int) × (List Int) × Int × (List Int) × Int) => [(0,.fr .shr true 15 (flatten (map T_Rec.ienc l))),(2,.box 37 [vz,vi 0,vz,vz,vi 0,vz]),(4,.box 37 [.fr (.own 47) false 11 (flatten (map T_Item.ienc s17)),vi s18,.fl (.own 3) 1 (map (int .i64) s19),.fl (.own 5) 1 (map (int .u8) s20),vi s21,.fl (.own 3) 1 (map (int .i64) s22)]),(5,vi s23)]) (fun ((s26,s27,s28,s29,s30,s31) : (List T_Item) × Int × (List Int) × (List Int) × Int × (List Int)) => [(0,.fr .shr true 15 (flatten (map T_Rec.ienc l))),(2,.box 37 [vz,vi 0,vz,vz,vi 0,vz]),(4,.box 37 [.fr (.own 47) false 11 (flatten (map T_Item.ienc s26)),vi s27,.fl (.own 3) 1 (map (int .i64) s28),.fl (.own 5) 1 (map (int .u8) s29),vi s30,.fl (.own 3) 1 (map (int .i64) s31)])]) ?_ ?_
  ·rintro ⟨s26, s27, s28, s29, s30, s31⟩ h
   refine pt_then ?_
   refine yxx hn 0 ?_
   refine yk [4] [] ?_
   refine yt (29,.agg [.fr (.own 47) false 11 (flatten (map T_Item.ienc s26)),vi s27,.fl (.own 3) 1 (map (int .i64) s28),.fl (.own 5) 1 (map (int .u8) s29),vi s30,.fl (.own 3) 1 (map (int .i64) s31)]) 2 ⟨op_loadA_take _ _ _ _ underlying37 rfl sz37 rfl rfl⟩ ?_
   refine yk [29,2] [] ?_
   refine yt (2,.box 37 [.fr (.own 47) false 11 (flatten (map T_Item.ienc s26)),vi s27,.fl (.own 3) 1 (map (int .i64) s28),.fl (.own 5) 1 (map (int .u8) s29),vi s30,.fl (.own 3) 1 (map (int .i64) s31)]) 1 ⟨op_store_take _ _ _ _ _ _ _ _ sz37 rfl rfl rfl (zl rfl) rfl rfl⟩ ?_
   refine yee [2,3] ?_
   refine ht_ret ?_
   obtain rfl := zi h
   exact pt_ret hio rfl (.cellA _ _ _ _ underlying37 rfl sz37 (.tmp _ _ .nil)) rfl rfl
  ·rintro u32 hl33 hr34 ⟨s17, s18, s19, s20, s21, s22, s23⟩ rr37 h ho35
   refine ht_seq ?_
   refine yyy hn 4 [0,2,4,5,12] ?_
   refine ht_cond _ rfl (fun hb38 => ?_) (fun hb38 => ?_)
   ·have h := cond_t hb38 h
    refine ht_skip ?_
    refine pt_then (ht_seq ?_)
    refine ht_block ?_
    refine ht_seq ?_
    obtain ⟨v3, hv3, h⟩ := zn h
    obtain ⟨v4, hv4, h⟩ := zn h
    obtain ⟨v5, hv5, h⟩ := zn h
    refine ht_anyR (by kernel_rfl) hn (El := (_ :: _ :: _ :: _ :: _ :: (16,.agg [.same (.cell 4 0),vi s18,.same (.cell 4 2),.same (.cell 4 3),vi s21,.same (.cell 4 5)]) :: (17,.fr .shr true 15 (flatten (map T_Rec.ienc l))) :: (18,vi s23) :: (19,.eref (.slot 17) (v3 * 15)) :: (20,.agg (T_Rec.c v4 [])) :: (21,.tup [.agg [.fr (.own 47) false 11 (flatten (map T_Item.ienc v5.1.Items)),vi v5.1.Packs,.fl (.own 3) 1 (map (int .i64) v5.1.Sent),.fl (.own 5) 1 (map (int .u8) v5.1.Part),vi v5.1.Of,.fl (.own 3) 1 (map (int .i64) v5.1.Done)],vi v5.2]) :: (15,.tup [.agg [.fr (.own 47) false 11 (flatten (map T_Item.ienc v5.1.Items)),vi v5.1.Packs,.fl (.own 3) 1 (map (int .i64) v5.1.Sent),.fl (.own 5) 1 (map (int .u8) v5.1.Part),vi v5.1.Of,.fl (.own 3) 1 (map (int .i64) v5.1.Done)],.any]) :: (15,.tup [.any,vi v5.2]) :: (22,.agg [.fr (.own 47) false 11 (flatten (map T_Item.ienc v5.1.Items)),vi v5.1.Packs,.fl (.own 3) 1 (map (int .i64) v5.1.Sent),.fl (.own 5) 1 (map (int .u8) v5.1.Part),vi v5.1.Of,.fl (.own 3) 1 (map (int .i64) v5.1.Done)]) :: (15,.tup [.any,.any]) :: (23,vi v5.2) :: (6,.box 37 [vz,vi 0,vz,vz,vi 0,vz]) :: (6,.box 37 [.fr (.own 47) false 11 (flatten (map T_Item.ienc v5.1.Items)),vi v5.1.Packs,.fl (.own 3) 1 (map (int .i64) v5.1.Sent),.fl (.own 5) 1 (map (int .u8) v5.1.Part),vi v5.1.Of,.fl (.own 3) 1 (map (int .i64) v5.1.Done)]) :: (7,vi v5.2) :: [])) (init := [0,1,2,3,4]) (fin := [0,1,2,3,17,18]) (sps := [zq [2] 5 16,zq [0] 6 17,zq [3] 7 18,zq [6,7] 8 19,zq [8,6] 9 20,zq [5,2,9] 10 21,⟨[],[10],[11,12],[(.slot 15)]⟩,⟨[],[11],[14,13],[(.slot 22)]⟩,zq [12] 15 23,zq [] 16 6,⟨[],[13,16],[17],[.cell 6 0,.cell 6 1,.cell 6 2,.cell 6 3,.cell 6 4,.cell 6 5]⟩,zq [15] 18 7]) (es' := [(_,_),(_,_),(_,_),(_,_),(6,.box 37 [.fr (.own 47) false 11 (flatten (map T_Item.ienc v5.1.Items)),vi v5.1.Packs,.fl (.own 3) 1 (map (int .i64) v5.1.Sent),.fl (.own 5) 1 (map (int .u8) v5.1.Part),vi v5.1.Of,.fl (.own 3) 1 (map (int .i64) v5.1.Done)]),(7,vi v5.2)]) (by kernel_rfl) rfl rfl ⟨zp rfl (op_loadA _ _ _ _ _ _ _ underlying37 rfl sz37 rfl rfl (zl rfl) rfl rfl),z1 rfl,z1 rfl,zp rfl (op_ix_fr _ _ _ _ _ _ _ _ underlying22 sz31 (by decide) rfl rfl rfl (ix_ok hv3).1 (gflat_lt T_Rec.ilen (ix_ok hv3).2) rfl),zp rfl (op_loadA_fr _ _ _ _ _ _ _ _ underlying31 rfl sz31 rfl rfl (gflat_get T_Rec.ilen hv4) (.cons (.v _) (.cons (.v _) (.cons (.v _) (.cons (.v _) (.cons (.fl _ _ rfl) (.cons (.fl _ _ rfl) (.cons (.v _) (.cons (.v _) (.cons (.v _) (.cons (.v _) (.cons (.fl _ _ rfl) (.cons (.v _) (.cons (.v _) (.cons (.v _) (.cons (.fl _ _ rfl) (.nil)))))))))))))))) rfl (by decide)),zp rfl (op_call _ _ 16 _ _ rfl call16 rfl (ok_wherryref18_Add (T_Spool.mk s17 s18 s19 s20 s21 s22) ((T_Rec.mk v4.Kind ((T_Mail.mk (T_Path.mk v4.Mail.From.Null v4.Mail.From.Local v4.Mail.From.Domain) v4.Mail.To v4.Mail.Body v4.Mail.Quiet v4.Mail.Helo v4.Mail.At)) v4.Id v4.Ids v4.Origin v4.Number v4.Offset v4.Data)) _ hv5) rfl rfl),zp rfl (LOp.split (A := []) 15 0 _ _ _ (op_move_take _ _ _ _ rfl) (zl rfl) rfl rfl),zp rfl (op_extract_take _ _ _ _ _ rfl (zl rfl) rfl rfl (by decide) rfl),zp rfl (oE rfl),zp rfl (op_alloc _ _ zr37),zp rfl (op_store_take _ _ _ _ _ _ _ _ sz37 rfl rfl rfl (zl rfl) rfl rfl),z2 rfl,zz⟩ ?_
    refine pt_then (ht_seq ?_)
    refine yyy hn 2 [0,2,4,5,6,25] ?_
    refine ht_cond _ rfl (fun hb39 => ?_) (fun hb39 => ?_)
    ·have h := cond_t hb39 h
     refine yxx hn 0 ?_
     refine yk [4] [] ?_
     refine yt (26,.agg [.fr (.own 47) false 11 (flatten (map T_Item.ienc s17)),vi s18,.fl (.own 3) 1 (map (int .i64) s19),.fl (.own 5) 1 (map (int .u8) s20),vi s21,.fl (.own 3) 1 (map (int .i64) s22)]) 1 ⟨op_loadA_take _ _ _ _ underlying37 rfl sz37 rfl rfl⟩ ?_
     refine yk [26,2] [] ?_
     refine yt (2,.box 37 [.fr (.own 47) false 11 (flatten (map T_Item.ienc s17)),vi s18,.fl (.own 3) 1 (map (int .i64) s19),.fl (.own 5) 1 (map (int .u8) s20),vi s21,.fl (.own 3) 1 (map (int .i64) s22)]) 1 ⟨op_store_take _ _ _ _ _ _ _ _ sz37 rfl rfl rfl (zl rfl) rfl rfl⟩ ?_
     refine yee [2,3] ?_
     refine ht_ret ?_
     refine pt_r_then ?_
     refine pt_r_in ?_
     refine pt_r_then ?_
     refine pt_r_then ?_
     refine pt_r_in ?_
     refine pt_r_then ?_
     have h := hr34 _ (ho35 _ (zi h).symm).symm
     obtain rfl := zi h
     exact pt_ret hio rfl (.cellA _ _ _ _ underlying37 rfl sz37 (.tmp _ _ .nil)) rfl rfl
    ·have h := cond_f hb39 h
     refine ht_skip ?_
     refine pt_then ?_
     refine yx hn 0 ?_
     refine yk [6] [] ?_
     refine yt (28,.agg [.fr (.own 47) false 11 (flatten (map T_Item.ienc v5.1.Items)),vi v5.1.Packs,.fl (.own 3) 1 (map (int .i64) v5.1.Sent),.fl (.own 5) 1 (map (int .u8) v5.1.Part),vi v5.1.Of,.fl (.own 3) 1 (map (int .i64) v5.1.Done)]) 0 ⟨op_loadA_take _ _ _ _ underlying37 rfl sz37 rfl rfl⟩ ?_
     refine yk [28,4] [] ?_
     refine yt (4,.box 37 [.fr (.own 47) false 11 (flatten (map T_Item.ienc v5.1.Items)),vi v5.1.Packs,.fl (.own 3) 1 (map (int .i64) v5.1.Sent),.fl (.own 5) 1 (map (int .u8) v5.1.Part),vi v5.1.Of,.fl (.own 3) 1 (map (int .i64) v5.1.Done)]) 0 ⟨op_store_take _ _ _ _ _ _ _ _ sz37 rfl rfl rfl (zl rfl) rfl rfl⟩ ?_
     refine ye [0,2,4,5] ?_
     refine pt_inb ?_
     refine pt_then ?_
     obtain ⟨v7, hv7, h⟩ := zn h
     refine yx hn 1 ?_
     refine ys 0 ⟨lb hv7⟩ ?_
     refine yw [5] 1 ?_
     refine ye [0,2,4,5] ?_
     exact pt_next _ (zi h).symm rfl
   ·have h := cond_f hb38 h
    refine ht_exit ?_
    refine pt_x_then ?_
    refine pt_x_then ?_
    refine pt_x_in ?_
    refine pt_pick [0,1,2] (by kernel_rfl) (es' := [(_,_),(_,_),(_,_)]) rfl ?_
    exact hl33 _ (ho35 _ (zi h).symm).symm
theorem ok_wherrykeep_TwinRec (p_r : T_Rec) (r : T_Rec) (h : Sh.wherrykeep_TwinRec p_r = some r) : FnOK Tryz.prog 8 [.agg [.v (.int .i64 p_r.Kind), .v (.bool p_r.Mail.From.Null), .v (.string p_r.Mail.From.Local), .v (.string p_r.Mail.From.Domain), .fl .shr 3 (flatten (map T_Path.enc p_r.Mail.To)), .fl .shr 1 (map (int .u8) p_r.Mail.Body), .v (.bool p_r.Mail.Quiet), .v (.string p_r.Mail.Helo), .v (.int .i64 p_r.Mail.At), .v (.int .i64 p_r.Id), .fl .shr 1 (map (int .i64) p_r.Ids), .v (.int .i64 p_r.Origin), .v (.int .i64 p_r.Number), .v (.int .i64 p_r.Offset), .fl .shr 1 (map (int .u8) p_r.Data)]] (.agg [.v (.int .i64 r.Kind), .v (.bool r.Mail.From.Null), .v (.string r.Mail.From.Local), .v (.string r.Mail.From.Domain), .fl (.own 24) 3 (flatten (map T_Path.enc r.Mail.To)), .fl (.own 5) 1 (map (int .u8) r.Mail.Body), .v (.bool r.Mail.Quiet), .v (.string r.Mail.Helo), .v (.int .i64 r.Mail.At), .v (.int .i64 r.Id), .fl (.own 3) 1 (map (int .i64) r.Ids), .v (.int .i64 r.Origin), .v (.int .i64 r.Number), .v (.int .i64 r.Offset), .fl (.own 5) 1 (map (int .u8) r.Data)]) := by
  unfold Sh.wherrykeep_TwinRec at h
  refine yO 16 func8 fun g0 hn hio => ?_
  refine yxx hn 1 ?_
  refine yS (.box 31 [vi 0,vb false,vs z0,vs z0,vz,vz,vb false,vs z0,vi 0,vi 0,vz,vi 0,vi 0,vi 0,vz]) 0 ⟨oA (op_alloc _ _ zr31)⟩ ?_
  refine yee [1,2] ?_
  refine ht_seq ?_
  obtain ⟨v1, hv1, h⟩ := zn h
  obtain ⟨v2, hv2, h⟩ := zn h
  obtain ⟨v3, hv3, h⟩ := zn h
  refine wb [[1],[3,1]] ?_
  refine wN [4] ?_
  refine wo [[1],[6,1]] ⟨lk call21 (ok_wherrykeep_TwinMail _ _ hv1)⟩ ?_
  refine wN [7] ?_
  refine wo [[1],[9,1]] ⟨lk call22 (ok_wherrykeep_TwinInts _ _ hv2)⟩ ?_
  refine wN [10] ?_
  refine wo [[1]] ⟨lk call23 (ok_wherrykeep_Twin _ _ hv3)⟩ ?_
  refine wK [5,1] [12] ?_
  refine wt [(1,.box 31 [vi p_r.Kind,vb v1.From.Null,vs v1.From.Local,vs v1.From.Domain,.fl (.own 24) 3 (flatten (map T_Path.enc v1.To)),.fl (.own 5) 1 (map (int .u8) v1.Body),vb v1.Quiet,vs v1.Helo,vi v1.At,vi p_r.Id,fi p_r.Ids,vi p_r.Origin,vi p_r.Number,vi p_r.Offset,fb p_r.Data])] [[1]] ⟨op_store_take _ _ _ _ _ _ _ _ sz28 rfl rfl rfl (zl rfl) rfl rfl⟩ ?_
  refine wK [8,1] [13] ?_
  refine wt [(1,.box 31 [vi p_r.Kind,vb v1.From.Null,vs v1.From.Local,vs v1.From.Domain,.fl (.own 24) 3 (flatten (map T_Path.enc v1.To)),.fl (.own 5) 1 (map (int .u8) v1.Body),vb v1.Quiet,vs v1.Helo,vi v1.At,vi p_r.Id,.fl (.own 3) 1 (map (int .i64) v2),vi p_r.Origin,vi p_r.Number,vi p_r.Offset,fb p_r.Data])] [[1]] ⟨op_store_take _ _ _ _ _ _ _ _ sz29 rfl rfl rfl (zl rfl) rfl rfl⟩ ?_
  refine wK [11,1] [14] ?_
  refine wt [(1,.box 31 [vi p_r.Kind,vb v1.From.Null,vs v1.From.Local,vs v1.From.Domain,.fl (.own 24) 3 (flatten (map T_Path.enc v1.To)),.fl (.own 5) 1 (map (int .u8) v1.Body),vb v1.Quiet,vs v1.Helo,vi v1.At,vi p_r.Id,.fl (.own 3) 1 (map (int .i64) v2),vi p_r.Origin,vi p_r.Number,vi p_r.Offset,.fl (.own 5) 1 (map (int .u8) v3)])] [] ⟨op_store_take _ _ _ _ _ _ _ _ sz26 rfl rfl rfl (zl rfl) rfl rfl⟩ ?_
  refine wee hn [1,2] ?_
  refine yxx hn 0 ?_
  refine yk [1] [] ?_
  refine yt (15,.agg [vi p_r.Kind,vb v1.From.Null,vs v1.From.Local,vs v1.From.Domain,.fl (.own 24) 3 (flatten (map T_Path.enc v1.To)),.fl (.own 5) 1 (map (int .u8) v1.Body),vb v1.Quiet,vs v1.Helo,vi v1.At,vi p_r.Id,.fl (.own 3) 1 (map (int .i64) v2),vi p_r.Origin,vi p_r.Number,vi p_r.Offset,.fl (.own 5) 1 (map (int .u8) v3)]) 0 ⟨op_loadA_take _ _ _ _ underlying31 rfl sz31 rfl rfl⟩ ?_
  refine yk [15,2] [] ?_
  refine yt (2,.box 31 [vi p_r.Kind,vb v1.From.Null,vs v1.From.Local,vs v1.From.Domain,.fl (.own 24) 3 (flatten (map T_Path.enc v1.To)),.fl (.own 5) 1 (map (int .u8) v1.Body),vb v1.Quiet,vs v1.Helo,vi v1.At,vi p_r.Id,.fl (.own 3) 1 (map (int .i64) v2),vi p_r.Origin,vi p_r.Number,vi p_r.Offset,.fl (.own 5) 1 (map (int .u8) v3)]) 0 ⟨op_store_take _ _ _ _ _ _ _ _ sz31 rfl rfl rfl (zl rfl) rfl rfl⟩ ?_
  refine yee [2] ?_
  refine ht_ret ?_
  obtain rfl := zi h
  exact pt_ret hio rfl (.cellA _ _ _ _ underlying31 rfl sz31 .nil) rfl rfl
theorem ok_spool_rest_sh (p_r : T_Rec) (r : T_Rec) (h : Sh.spool_rest_sh p_r = some r) : FnOK Tryz.prog 41 [.agg [.v (.int .i64 p_r.Kind), .v (.bool p_r.Mail.From.Null), .v (.string p_r.Mail.From.Local), .v (.string p_r.Mail.From.Domain), .fl .shr 3 (flatten (map T_Path.enc p_r.Mail.To)), .fl .shr 1 (map (int .u8) p_r.Mail.Body), .v (.bool p_r.Mail.Quiet), .v (.string p_r.Mail.Helo), .v (.int .i64 p_r.Mail.At), .v (.int .i64 p_r.Id), .fl .shr 1 (map (int .i64) p_r.Ids), .v (.int .i64 p_r.Origin), .v (.int .i64 p_r.Number), .v (.int .i64 p_r.Offset), .fl .shr 1 (map (int .u8) p_r.Data)]] (.agg [.v (.int .i64 r.Kind), .v (.bool r.Mail.From.Null), .v (.string r.Mail.From.Local), .v (.string r.Mail.From.Domain), .fl .shr 3 (flatten (map T_Path.enc r.Mail.To)), .fl .shr 1 (map (int .u8) r.Mail.Body), .v (.bool r.Mail.Quiet), .v (.string r.Mail.Helo), .v (.int .i64 r.Mail.At), .v (.int .i64 r.Id), .fl .shr 1 (map (int .i64) r.Ids), .v (.int .i64 r.Origin), .v (.int .i64 r.Number), .v (.int .i64 r.Offset), .fl .shr 1 (map (int .u8) r.Data)]) := by
  unfold Sh.spool_rest_sh at h
  refine yO 29 func41 fun g0 hn hio => ?_
  refine yxx hn 1 ?_
  refine yS (.box 31 [vi 0,vb false,vs z0,vs z0,vz,vz,vb false,vs z0,vi 0,vi 0,vz,vi 0,vi 0,vi 0,vz]) 0 ⟨oA (op_alloc _ _ zr31)⟩ ?_
  refine yee [1,2] ?_
  refine ht_seq ?_
  refine ht_joinS h (fun ((s40,s41,s42,s43,s44,s45,s46,s47,s48,s49,s50,s51,s52,s53) : Bool × ByteArray × ByteArray × (List T_Path) × (List Int) × Bool × ByteArray × Int × Int × (List Int) × Int × Int × Int × (List Int)) => [(1,.box 31 [vi p_r.Kind,vb s40,vs s41,vs s42,.fl .shr 3 (flatten (map T_Path.enc s43)),fb s44,vb s45,vs s46,vi s47,vi s48,fi s49,vi s50,vi s51,vi s52,fb s53]),(2,.box 31 [vi 0,vb false,vs z0,vs z0,vz,vz,vb false,vs z0,vi 0,vi 0,vz,vi 0,vi 0,vi 0,vz])]) ?_ ?_
  ·rintro ⟨s40, s41, s42, s43, s44, s45, s46, s47, s48, s49, s50, s51, s52, s53⟩ h
   refine pt_then ?_
   refine yyy hn 2 [1,2] ?_
   refine yyy hn 2 [2] ?_
   refine ht_ret ?_
   obtain rfl := zi h
   exact pt_ret hio rfl (.cellA _ _ _ _ underlying31 rfl sz31 .nil) rfl rfl
  ·intro u54 h hl55 hr56
   refine yyy hn 2 [1,2,4] ?_
   refine ht_joinS h (fun ((s68,s69,s70,s71,s72,s73,s74,s75,s76,s77,s78,s79,s80,s81) : Bool × ByteArray × ByteArray × (List T_Path) × (List Int) × Bool × ByteArray × Int × Int × (List Int) × Int × Int × Int × (List Int)) => [(1,.box 31 [vi p_r.Kind,vb s68,vs s69,vs s70,.fl .shr 3 (flatten (map T_Path.enc s71)),fb s72,vb s73,vs s74,vi s75,vi s76,fi s77,vi s78,vi s79,vi s80,fb s81]),(2,.box 31 [vi 0,vb false,vs z0,vs z0,vz,vz,vb false,vs z0,vi 0,vi 0,vz,vi 0,vi 0,vi 0,vz])]) ?_ ?_
   ·rintro ⟨s68, s69, s70, s71, s72, s73, s74, s75, s76, s77, s78, s79, s80, s81⟩ h
    exact hl55 _ (zi h).symm
   ·intro u82 h hl83 hr84
    refine ht_block ?_
    refine yyy hn 2 [1,2,4,5] ?_
    refine ht_cond _ rfl (fun hb85 => ?_) (fun hb85 => ?_)
    ·have h := cond_t hb85 h
     refine yx hn 0 ?_
     refine yS (.agg [vb false,vs z0,vs z0,vz,vz,vb false,vs z0,vi 0]) 6 ⟨op_build _ _ _ _ [3,1,1,1,1,1] _ _ underlying28 zr28 (fs28 _ underlying28) Src.nil rfl rfl rfl⟩ ?_
     refine ye [1,2] ?_
     refine pt_inb ?_
     refine pt_sub (fs := [(1,.box 31 [vi p_r.Kind,vb false,vs z0,vs z0,.fl .shr 3 (flatten (map T_Path.enc [])),fb [],vb false,vs z0,vi 0,vi 0,fi p_r.Ids,vi 0,vi p_r.Number,vi p_r.Offset,fb p_r.Data]),(2,.box 31 [vi 0,vb false,vs z0,vs z0,vz,vz,vb false,vs z0,vi 0,vi 0,vz,vi 0,vi 0,vi 0,vz])]) (.box _ _ (subs_cons (sub_refl _) (subs_cons (sub_refl _) (subs_cons (sub_refl _) (subs_cons (sub_refl _) (subs_cons (sub_nil_shr 3) (subs_cons (sub_nil_shr 1) (subs_cons (sub_refl _) (subs_cons (sub_refl _) (subs_cons (sub_refl _) (subs_cons (sub_refl _) (subs_cons (sub_refl _) (subs_cons (sub_refl _) (subs_cons (sub_refl _) (subs_cons (sub_refl _) (subs_cons (sub_refl _) (subs_nil)))))))))))))))) rfl (.same _ .nil)) ?_
     exact hl83 _ (zi h).symm
    ·have h := cond_f hb85 h
     refine yyy hn 2 [1,2,4,11] ?_
     refine ht_cond _ rfl (fun hb86 => ?_) (fun hb86 => ?_)
     ·have h := cond_t hb86 h
      refine yy hn 4 [1,2] ?_
      refine pt_inb ?_
      refine pt_sub (fs := [(1,.box 31 (vi p_r.Kind::T_Mail.c p_r.Mail [vi p_r.Id,fi [],vi p_r.Origin,vi 0,vi p_r.Offset,fb p_r.Data])),(2,.box 31 [vi 0,vb false,vs z0,vs z0,vz,vz,vb false,vs z0,vi 0,vi 0,vz,vi 0,vi 0,vi 0,vz])]) (.box _ _ (subs_cons (sub_refl _) (subs_cons (sub_refl _) (subs_cons (sub_refl _) (subs_cons (sub_refl _) (subs_cons (sub_refl _) (subs_cons (sub_refl _) (subs_cons (sub_refl _) (subs_cons (sub_refl _) (subs_cons (sub_refl _) (subs_cons (sub_refl _) (subs_cons (sub_nil_shr 1) (subs_cons (sub_refl _) (subs_cons (sub_refl _) (subs_cons (sub_refl _) (subs_cons (sub_refl _) (subs_nil)))))))))))))))) rfl (.same _ .nil)) ?_
      exact hl83 _ (zi h).symm
     ·have h := cond_f hb86 h
      refine ht_seq ?_
      refine ht_joinS h (fun (s88 : Bool) => [(1,.box 31 (T_Rec.c p_r [])),(2,.box 31 [vi 0,vb false,vs z0,vs z0,vz,vz,vb false,vs z0,vi 0,vi 0,vz,vi 0,vi 0,vi 0,vz]),(4,vi p_r.Kind),(15,vb s88)]) ?_ ?_
      ·rintro s88 h
       refine pt_then ?_
       refine ht_cond _ rfl (fun hb93 => ?_) (fun hb93 => ?_)
       ·have h := cond_t hb93 h
        refine yy hn 2 [1,2] ?_
        refine pt_inb ?_
        exact hl83 _ (zi h).symm
       ·have h := cond_f hb93 h
        refine yyy hn 2 [1,2,4,19] ?_
        refine ht_cond _ rfl (fun hb94 => ?_) (fun hb94 => ?_)
        ·have h := cond_t hb94 h
         refine yy hn 2 [1,2] ?_
         refine pt_inb ?_
         exact hl83 _ (zi h).symm
        ·have h := cond_f hb94 h
         refine yyy hn 2 [1,2,22] ?_
         refine ht_cond _ rfl (fun hb95 => ?_) (fun hb95 => ?_)
         ·have h := cond_t hb95 h
          refine yy hn 6 [1,2] ?_
          refine pt_inb ?_
          refine pt_sub (fs := [(1,.box 31 (vi p_r.Kind::T_Mail.c p_r.Mail [vi p_r.Id,fi p_r.Ids,vi p_r.Origin,vi 0,vi 0,fb []])),(2,.box 31 [vi 0,vb false,vs z0,vs z0,vz,vz,vb false,vs z0,vi 0,vi 0,vz,vi 0,vi 0,vi 0,vz])]) (.box _ _ (subs_cons (sub_refl _) (subs_cons (sub_refl _) (subs_cons (sub_refl _) (subs_cons (sub_refl _) (subs_cons (sub_refl _) (subs_cons (sub_refl _) (subs_cons (sub_refl _) (subs_cons (sub_refl _) (subs_cons (sub_refl _) (subs_cons (sub_refl _) (subs_cons (sub_refl _) (subs_cons (sub_refl _) (subs_cons (sub_refl _) (subs_cons (sub_refl _) (subs_cons (sub_nil_shr 1) (subs_nil)))))))))))))))) rfl (.same _ .nil)) ?_
          exact hl83 _ (zi h).symm
         ·have h := cond_f hb95 h
          refine ht_skip ?_
          refine pt_inb ?_
          refine pt_pick [0,1] (by kernel_rfl) (es' := [(_,_),(_,_)]) rfl ?_
          exact hl83 _ (zi h).symm
      ·intro u89 h hl90 hr91
       refine yyy hn 2 [1,2,4,15] ?_
       refine ht_cond _ rfl (fun hb92 => ?_) (fun hb92 => ?_)
       ·have h := cond_t hb92 h
        refine ht_skip ?_
        exact hl90 _ (zi h).symm
       ·have h := cond_f hb92 h
        refine yx hn 1 ?_
        refine yw [15] 1 ?_
        refine ye [1,2,4,15] ?_
        exact hl90 _ (zi h).symm
theorem ok_spool_empty (p_r : T_Rec) (r : Bool) (h : Sh.spool_empty p_r = some r) : FnOK Tryz.prog 40 [.agg [.v (.int .i64 p_r.Kind), .v (.bool p_r.Mail.From.Null), .v (.string p_r.Mail.From.Local), .v (.string p_r.Mail.From.Domain), .fl .shr 3 (flatten (map T_Path.enc p_r.Mail.To)), .fl .shr 1 (map (int .u8) p_r.Mail.Body), .v (.bool p_r.Mail.Quiet), .v (.string p_r.Mail.Helo), .v (.int .i64 p_r.Mail.At), .v (.int .i64 p_r.Id), .fl .shr 1 (map (int .i64) p_r.Ids), .v (.int .i64 p_r.Origin), .v (.int .i64 p_r.Number), .v (.int .i64 p_r.Offset), .fl .shr 1 (map (int .u8) p_r.Data)]] (.v (.bool r)) := by
  unfold Sh.spool_empty at h
  refine yO 76 func40 fun g0 hn hio => ?_
  refine yyy hn 2 [1] ?_
  refine yxx hn 2 ?_
  refine yS (.box 28 [vb false,vs z0,vs z0,vz,vz,vb false,vs z0,vi 0]) 1 ⟨oA (op_alloc _ _ zr28)⟩ ?_
  refine yee [1,3] ?_
  refine ht_seq ?_
  refine ht_joinS h (fun (s1 : Bool) => [(1,.box 31 (T_Rec.c p_r [])),(4,vb s1)]) ?_ ?_
  ·rintro s1 h
   refine pt_then (ht_seq ?_)
   refine ht_joinS h (fun (s5 : Bool) => [(2,vb s5)]) ?_ ?_
   ·rintro s5 h
    refine pt_then (ht_ret ?_)
    obtain rfl := zi h
    exact pt_ret hio rfl (.tmp _ _ .nil) rfl rfl
   ·intro u6 h hl7 hr8
    refine cond_some h (fun hg3_1 h => ?_) (fun hg3_1 h => ?_)
    ·refine cond_some h (fun hg3_6 h => ?_) (fun hg3_6 h => ?_)
     ·refine cond_some h (fun hg3_11 h => ?_) (fun hg3_11 h => ?_)
      ·refine cond_some h (fun hg3_17 h => ?_) (fun hg3_17 h => ?_)
       ·refine cond_some h (fun hg3_22 h => ?_) (fun hg3_22 h => ?_)
        ·refine cond_some h (fun hg3_27 h => ?_) (fun hg3_27 h => ?_)
         ·refine cond_some h (fun hg3_32 h => ?_) (fun hg3_32 h => ?_)
          ·refine yx hn 2 ?_
           refine yd hg3_1 5 ?_
           refine yd hg3_6 5 ?_
           refine yd hg3_11 6 ?_
           refine yd hg3_17 5 ?_
           refine yd hg3_22 5 ?_
           refine yd hg3_27 5 ?_
           refine yd hg3_32 6 ?_
           refine ye [2] ?_
           exact hl7 _ (zi h).symm
          ·refine yx hn 2 ?_
           refine yd hg3_1 5 ?_
           refine yd hg3_6 5 ?_
           refine yd hg3_11 6 ?_
           refine yd hg3_17 5 ?_
           refine yd hg3_22 5 ?_
           refine yd hg3_27 5 ?_
           refine yd hg3_32 6 ?_
           refine ye [2] ?_
           exact hl7 _ (zi h).symm
         ·refine yx hn 2 ?_
          refine yd hg3_1 5 ?_
          refine yd hg3_6 5 ?_
          refine yd hg3_11 6 ?_
          refine yd hg3_17 5 ?_
          refine yd hg3_22 5 ?_
          refine yd hg3_27 11 ?_
          refine ye [2] ?_
          exact hl7 _ (zi h).symm
        ·refine yx hn 2 ?_
         refine yd hg3_1 5 ?_
         refine yd hg3_6 5 ?_
         refine yd hg3_11 6 ?_
         refine yd hg3_17 5 ?_
         refine yd hg3_22 16 ?_
         refine ye [2] ?_
         exact hl7 _ (zi h).symm
       ·refine yx hn 2 ?_
        refine yd hg3_1 5 ?_
        refine yd hg3_6 5 ?_
        refine yd hg3_11 6 ?_
        refine yd hg3_17 21 ?_
        refine ye [2] ?_
        exact hl7 _ (zi h).symm
      ·refine yx hn 2 ?_
       refine yd hg3_1 5 ?_
       refine yd hg3_6 5 ?_
       refine yd hg3_11 27 ?_
       refine ye [2] ?_
       exact hl7 _ (zi h).symm
     ·refine yx hn 2 ?_
      refine yd hg3_1 5 ?_
      refine yd hg3_6 32 ?_
      refine ye [2] ?_
      exact hl7 _ (zi h).symm
    ·refine yx hn 2 ?_
     refine yd hg3_1 37 ?_
     refine ye [2] ?_
     exact hl7 _ (zi h).symm
  ·intro u2 h hl3 hr4
   refine cond_some h (fun hg2_4 h => ?_) (fun hg2_4 h => ?_)
   ·refine cond_some h (fun hg2_10 h => ?_) (fun hg2_10 h => ?_)
    ·refine cond_some h (fun hg2_16 h => ?_) (fun hg2_16 h => ?_)
     ·refine cond_some h (fun hg2_21 h => ?_) (fun hg2_21 h => ?_)
      ·refine cond_some h (fun hg2_26 h => ?_) (fun hg2_26 h => ?_)
       ·refine yx hn 2 ?_
        refine yS (.agg [vb false,vs z0,vs z0]) 0 ⟨op_build _ _ _ _ [1,1,1] _ _ underlying24 zr24 (fs24 _ underlying24) Src.nil rfl rfl rfl⟩ ?_
        refine yS (vb ((p_r.Mail.From.Null == false) && ((p_r.Mail.From.Local.toList == z0.toList) && ((p_r.Mail.From.Domain.toList == z0.toList) && true)))) 1 ⟨op_eq_st _ _ [.bool p_r.Mail.From.Null,.string p_r.Mail.From.Local,.string p_r.Mail.From.Domain] [.bool false,.string z0,.string z0] (((p_r.Mail.From.Null == false) && ((p_r.Mail.From.Local.toList == z0.toList) && ((p_r.Mail.From.Domain.toList == z0.toList) && true)))) _ false (by kernel_rfl) (by kernel_rfl) (by kernel_rfl) (by kernel_rfl) (by kernel_rfl) rfl rfl rfl rfl (by kernel_rfl) rfl⟩ ?_
        refine yd hg2_4 6 ?_
        refine yd hg2_10 6 ?_
        refine yd hg2_16 5 ?_
        refine yd hg2_21 5 ?_
        refine yd hg2_26 5 ?_
        refine ye [1,4] ?_
        exact hl3 _ (zi h).symm
       ·refine yx hn 2 ?_
        refine yS (.agg [vb false,vs z0,vs z0]) 0 ⟨op_build _ _ _ _ [1,1,1] _ _ underlying24 zr24 (fs24 _ underlying24) Src.nil rfl rfl rfl⟩ ?_
        refine yS (vb ((p_r.Mail.From.Null == false) && ((p_r.Mail.From.Local.toList == z0.toList) && ((p_r.Mail.From.Domain.toList == z0.toList) && true)))) 1 ⟨op_eq_st _ _ [.bool p_r.Mail.From.Null,.string p_r.Mail.From.Local,.string p_r.Mail.From.Domain] [.bool false,.string z0,.string z0] (((p_r.Mail.From.Null == false) && ((p_r.Mail.From.Local.toList == z0.toList) && ((p_r.Mail.From.Domain.toList == z0.toList) && true)))) _ false (by kernel_rfl) (by kernel_rfl) (by kernel_rfl) (by kernel_rfl) (by kernel_rfl) rfl rfl rfl rfl (by kernel_rfl) rfl⟩ ?_
        refine yd hg2_4 6 ?_
        refine yd hg2_10 6 ?_
        refine yd hg2_16 5 ?_
        refine yd hg2_21 5 ?_
        refine yd hg2_26 5 ?_
        refine ye [1,4] ?_
        exact hl3 _ (zi h).symm
      ·refine yx hn 2 ?_
       refine yS (.agg [vb false,vs z0,vs z0]) 0 ⟨op_build _ _ _ _ [1,1,1] _ _ underlying24 zr24 (fs24 _ underlying24) Src.nil rfl rfl rfl⟩ ?_
       refine yS (vb ((p_r.Mail.From.Null == false) && ((p_r.Mail.From.Local.toList == z0.toList) && ((p_r.Mail.From.Domain.toList == z0.toList) && true)))) 1 ⟨op_eq_st _ _ [.bool p_r.Mail.From.Null,.string p_r.Mail.From.Local,.string p_r.Mail.From.Domain] [.bool false,.string z0,.string z0] (((p_r.Mail.From.Null == false) && ((p_r.Mail.From.Local.toList == z0.toList) && ((p_r.Mail.From.Domain.toList == z0.toList) && true)))) _ false (by kernel_rfl) (by kernel_rfl) (by kernel_rfl) (by kernel_rfl) (by kernel_rfl) rfl rfl rfl rfl (by kernel_rfl) rfl⟩ ?_
       refine yd hg2_4 6 ?_
       refine yd hg2_10 6 ?_
       refine yd hg2_16 5 ?_
       refine yd hg2_21 10 ?_
       refine ye [1,4] ?_
       exact hl3 _ (zi h).symm
     ·refine yx hn 2 ?_
      refine yS (.agg [vb false,vs z0,vs z0]) 0 ⟨op_build _ _ _ _ [1,1,1] _ _ underlying24 zr24 (fs24 _ underlying24) Src.nil rfl rfl rfl⟩ ?_
      refine yS (vb ((p_r.Mail.From.Null == false) && ((p_r.Mail.From.Local.toList == z0.toList) && ((p_r.Mail.From.Domain.toList == z0.toList) && true)))) 1 ⟨op_eq_st _ _ [.bool p_r.Mail.From.Null,.string p_r.Mail.From.Local,.string p_r.Mail.From.Domain] [.bool false,.string z0,.string z0] (((p_r.Mail.From.Null == false) && ((p_r.Mail.From.Local.toList == z0.toList) && ((p_r.Mail.From.Domain.toList == z0.toList) && true)))) _ false (by kernel_rfl) (by kernel_rfl) (by kernel_rfl) (by kernel_rfl) (by kernel_rfl) rfl rfl rfl rfl (by kernel_rfl) rfl⟩ ?_
      refine yd hg2_4 6 ?_
      refine yd hg2_10 6 ?_
      refine yd hg2_16 15 ?_
      refine ye [1,4] ?_
      exact hl3 _ (zi h).symm
    ·refine yx hn 2 ?_
     refine yS (.agg [vb false,vs z0,vs z0]) 0 ⟨op_build _ _ _ _ [1,1,1] _ _ underlying24 zr24 (fs24 _ underlying24) Src.nil rfl rfl rfl⟩ ?_
     refine yS (vb ((p_r.Mail.From.Null == false) && ((p_r.Mail.From.Local.toList == z0.toList) && ((p_r.Mail.From.Domain.toList == z0.toList) && true)))) 1 ⟨op_eq_st _ _ [.bool p_r.Mail.From.Null,.string p_r.Mail.From.Local,.string p_r.Mail.From.Domain] [.bool false,.string z0,.string z0] (((p_r.Mail.From.Null == false) && ((p_r.Mail.From.Local.toList == z0.toList) && ((p_r.Mail.From.Domain.toList == z0.toList) && true)))) _ false (by kernel_rfl) (by kernel_rfl) (by kernel_rfl) (by kernel_rfl) (by kernel_rfl) rfl rfl rfl rfl (by kernel_rfl) rfl⟩ ?_
     refine yd hg2_4 6 ?_
     refine yd hg2_10 21 ?_
     refine ye [1,4] ?_
     exact hl3 _ (zi h).symm
   ·refine yx hn 2 ?_
    refine yS (.agg [vb false,vs z0,vs z0]) 0 ⟨op_build _ _ _ _ [1,1,1] _ _ underlying24 zr24 (fs24 _ underlying24) Src.nil rfl rfl rfl⟩ ?_
    refine yS (vb ((p_r.Mail.From.Null == false) && ((p_r.Mail.From.Local.toList == z0.toList) && ((p_r.Mail.From.Domain.toList == z0.toList) && true)))) 1 ⟨op_eq_st _ _ [.bool p_r.Mail.From.Null,.string p_r.Mail.From.Local,.string p_r.Mail.From.Domain] [.bool false,.string z0,.string z0] (((p_r.Mail.From.Null == false) && ((p_r.Mail.From.Local.toList == z0.toList) && ((p_r.Mail.From.Domain.toList == z0.toList) && true)))) _ false (by kernel_rfl) (by kernel_rfl) (by kernel_rfl) (by kernel_rfl) (by kernel_rfl) rfl rfl rfl rfl (by kernel_rfl) rfl⟩ ?_
    refine yd hg2_4 27 ?_
    refine ye [1,4] ?_
    exact hl3 _ (zi h).symm
theorem ok_strings_splitSeq (s : ByteArray) (sep : ByteArray) (sepSave : Int) (r : (ByteArray × ByteArray × Int)) (h : Sh.strings_splitSeq s sep sepSave = some r) : FnOK Tryz.prog 111 [.v (.string s), .v (.string sep), .v (.int .i64 sepSave)] (.cloB 116 [.box 9 [.v (.string r.1)], .box 9 [.v (.string r.2.1)], .box 3 [.v (.int .i64 r.2.2)]]) := by
  unfold Sh.strings_splitSeq at h
  refine yO 8 func111 fun g0 hn hio => ?_
  refine yyy hn 4 [3,4,5] ?_
  refine yxx hn 0 ?_
  refine yk [4,3,5] [] ?_
  refine yt (7,.cloB 116 [.box 9 [vs sep],.box 9 [vs s],.box 3 [vi sepSave]]) 0 ⟨op_mkclo _ _ [4,3,5] [.box 9 [vs sep],.box 9 [vs s],.box 3 [vi sepSave]] rfl rfl rfl⟩ ?_
  refine ya 0 ?_
  refine yee [6] ?_
  refine ht_ret ?_
  obtain rfl := zi h
  exact pt_ret hio rfl (.tmp _ _ .nil) rfl rfl
theorem ok_strings_SplitSeq (s : ByteArray) (sep : ByteArray) (r : (ByteArray × ByteArray × Int)) (h : Sh.strings_SplitSeq s sep = some r) : FnOK Tryz.prog 97 [.v (.string s), .v (.string sep)] (.cloB 116 [.box 9 [.v (.string r.1)], .box 9 [.v (.string r.2.1)], .box 3 [.v (.int .i64 r.2.2)]]) := by
  unfold Sh.strings_SplitSeq at h
  refine yO 8 func97 fun g0 hn hio => ?_
  refine yyy hn 1 [0,1] ?_
  refine ht_seq ?_
  obtain ⟨v1, hv1, h⟩ := zn h
  refine yx hn 2 ?_
  refine yk [] [5,6] ?_
  refine yt (7,.cloB 116 [.box 9 [vs v1.1],.box 9 [vs v1.2.1],.box 3 [vi v1.2.2]]) 0 ⟨op_callS _ _ 111 _ _ rfl call111 rfl rfl (ok_strings_splitSeq s sep 0 _ hv1) rfl⟩ ?_
  refine ya 0 ?_
  refine yee [4] ?_
  refine ht_ret ?_
  obtain rfl := zi h
  exact pt_ret hio rfl (.tmp _ _ .nil) rfl rfl
theorem ok_unicode_utf8_decodeRuneInStringSlow (mx : Int) (s : ByteArray) (r : (Int × Int)) (h : Sh.unicode_utf8_decodeRuneInStringSlow s = some r) : FnG Tryz.prog (GL mx) 119 [.v (.string s)] (.tup [.v (.int .i32 r.1), .v (.int .i64 r.2)]) := by
  unfold Sh.unicode_utf8_decodeRuneInStringSlow at h
  refine yG 117 func119 fun g0 hn hio => ?_
  refine yyy hn 2 [0,117] ?_
  refine yyy hn 3 [0,117,4] ?_
  refine ht_seq ?_
  refine yyy hn 2 [0,117,4,16] ?_
  refine ht_cond _ rfl (fun hb1 => ?_) (fun hb1 => ?_)
  ·have h := cond_t hb1 h
   refine yyy hn 2 [117,2,3] ?_
   refine ht_ret ?_
   refine pt_pick [1,2] (by kernel_rfl) (es' := [(_,_),(_,_)]) rfl ?_
   refine pt_r_then ?_
   obtain rfl := zi h
   exact pt_ret hio rfl (.tmp _ _ (.tmp _ _ .nil)) rfl rfl
  ·have h := cond_f hb1 h
   refine ht_skip ?_
   refine pt_then (ht_seq ?_)
   obtain ⟨v2, hv2, h⟩ := zn h
   refine yx hn 1 ?_
   refine ys 1 ⟨lh hv2⟩ ?_
   refine yee [0,117,4,5] ?_
   refine ht_seq ?_
   obtain ⟨v3, hv3, h⟩ := zn h
   obtain ⟨v4, hv4, h⟩ := zn h
   refine yx hn 1 ?_
   refine yS (.v (.pointer (some ⟨1,(0 + v3 * 1),none⟩))) 0 ⟨op_ix_globz _ _ _ _ 256 1 0 _ 1 _ underlying126 sz5 rfl rfl (ix_ok hv3).1 (ix_ok hv3).2⟩ ?_
   refine yS (.v (.int .u8 v4)) 1 ⟨op_load_glob _ _ 117 1 _ _ _ underlying5 rfl rfl rfl (gl_mem1 mx) (map_get1 hv4)⟩ ?_
   refine yee [0,117,4,5,6] ?_
   refine ht_seq ?_
   refine yyy hn 2 [0,117,4,5,6,23] ?_
   refine ht_cond _ rfl (fun hb5 => ?_) (fun hb5 => ?_)
   ·have h := cond_t hb5 h
    refine ht_seq ?_
    obtain ⟨v6, hv6, h⟩ := zn h
    obtain ⟨v7, hv7, h⟩ := zn h
    obtain ⟨v8, hv8, h⟩ := zn h
    refine yx hn 1 ?_
    refine ys 0 ⟨lv hv6⟩ ?_
    refine ys 0 ⟨lB (shl_ok hv7)⟩ ?_
    refine ys 1 ⟨lB (shr_ok hv8)⟩ ?_
    refine yee [0,117,7] ?_
    refine ht_seq ?_
    obtain ⟨v9, hv9, h⟩ := zn h
    obtain ⟨v10, hv10, h⟩ := zn h
    obtain ⟨v11, hv11, h⟩ := zn h
    obtain ⟨v12, hv12, h⟩ := zn h
    obtain ⟨v13, hv13, h⟩ := zn h
    refine yx hn 1 ?_
    refine ys 0 ⟨lh hv9⟩ ?_
    refine ys 1 ⟨lv hv10⟩ ?_
    refine ys 1 ⟨lb hv11⟩ ?_
    refine ys 0 ⟨lb hv12⟩ ?_
    refine ys 2 ⟨lb hv13⟩ ?_
    refine yee [117,2,3] ?_
    refine ht_ret ?_
    refine pt_pick [1,2] (by kernel_rfl) (es' := [(_,_),(_,_)]) rfl ?_
    refine pt_r_then ?_
    obtain rfl := zi h
    exact pt_ret hio rfl (.tmp _ _ (.tmp _ _ .nil)) rfl rfl
   ·have h := cond_f hb5 h
    cases h
theorem ok_unicode_utf8_DecodeRuneInString (mx : Int) (s : ByteArray) (r : (Int × Int)) (h : Sh.unicode_utf8_DecodeRuneInString s = some r) : FnG Tryz.prog (GL mx) 117 [.v (.string s)] (.tup [.v (.int .i32 r.1), .v (.int .i64 r.2)]) := by
  unfold Sh.unicode_utf8_DecodeRuneInString at h
  refine yG 19 func117 fun g0 hn hio => ?_
  refine yyy hn 2 [0,19] ?_
  refine ht_seq ?_
  refine ht_seq ?_
  refine ht_joinS h (fun (s2 : Bool) => [(0,vs s),(19,.glob (GL mx)),(10,vb s2)]) ?_ ?_
  ·rintro s2 h
   refine pt_then ?_
   refine ht_cond _ rfl (fun hb6 => ?_) (fun hb6 => ?_)
   ·have h := cond_t hb6 h
    refine ht_seq ?_
    obtain ⟨v7, hv7, h⟩ := zn h
    obtain ⟨v8, hv8, h⟩ := zn h
    refine yx hn 1 ?_
    refine ys 0 ⟨lh hv7⟩ ?_
    refine ys 2 ⟨lv hv8⟩ ?_
    refine yee [19,2,3] ?_
    refine ht_ret ?_
    refine pt_pick [1,2] (by kernel_rfl) (es' := [(_,_),(_,_)]) rfl ?_
    refine pt_r_then ?_
    obtain rfl := zi h
    exact pt_ret hio rfl (.tmp _ _ (.tmp _ _ .nil)) rfl rfl
   ·have h := cond_f hb6 h
    obtain ⟨v9, hv9, h⟩ := zn h
    refine yx hn 1 ?_
    refine ys 0 ⟨lg call119 (ok_unicode_utf8_decodeRuneInStringSlow _ _ _ hv9) 19⟩ ?_
    refine ym 4 ?_
    refine yee [19,2,3] ?_
    refine ht_ret ?_
    refine pt_pick [1,2] (by kernel_rfl) (es' := [(_,_),(_,_)]) rfl ?_
    obtain rfl := zi h
    exact pt_ret hio rfl (.tmp _ _ (.tmp _ _ .nil)) rfl rfl
  ·intro u3 h hl4 hr5
   refine cond_some h (fun hg1_2 h => ?_) (fun hg1_2 h => ?_)
   ·obtain ⟨v1, hv1, h⟩ := zn h
    refine yx hn 3 ?_
    refine yd hg1_2 1 ?_
    refine ys 2 ⟨lh hv1⟩ ?_
    refine ye [0,19,10] ?_
    exact hl4 _ (zi h).symm
   ·refine yx hn 3 ?_
    refine yd hg1_2 4 ?_
    refine ye [0,19,10] ?_
    exact hl4 _ (zi h).symm
theorem ok_strings_Index (s sub : ByteArray) (r : Int) (h : Sh.strings_Index s sub = some r) : FnOK Tryz.prog 118 [.v (.string s), .v (.string sub)] (.v (.int .i64 r)) := lib_strings_Index Tryz.strings_Index_one s sub r h
theorem ok_strings_splitSeq_1 (mx : Int) (l : Nat) {S : Type} (J : S → InvT) (Y : ByteArray → S → Option (S × Bool)) (hY : YieldOK Tryz.prog l (fun x => .v (.string x)) Y J) (c0 : ByteArray) (c1 : ByteArray) (c2 : Int) (st r : S) (h : Sh.strings_splitSeq_1 Y c0 c1 c2 st = some r) : FnI Tryz.prog (GL mx) 116 l [.box 9 [.v (.string c0)], .box 9 [.v (.string c1)], .box 3 [.v (.int .i64 c2)]] (J st) (J r) := by
  unfold Sh.strings_splitSeq_1 at h
  refine yI 52 func116 fun g0 hn hio => ?_
  refine ht_seq ?_
  refine yyy hn 3 [0,1,2,3,52,53,11] ?_
  refine ht_cond _ rfl (fun hb1 => ?_) (fun hb1 => ?_)
  ·have h := cond_t hb1 h
   refine ht_seq ?_
   refine ht_pick [0,2,4,5] (by kernel_rfl) (es' := [(_,_),(_,_),(_,_),(_,_)]) rfl ?_
   refine ht_loopS h (fun ((s12,s13) : ByteArray × S) => [(0,.v (.func (.yield l) #[] #[])),(2,.box 9 [vs s12]),(52,.glob (GL mx)),(53,.inv (J s13))]) (fun (s16 : S) => [(52,.glob (GL mx)),(53,.inv (J s16))]) ?_ ?_
   ·rintro s16 h
    refine pt_then (ht_ret ?_)
    refine pt_pick [1] (by kernel_rfl) (es' := [(53,.inv (J s16))]) rfl ?_
    refine pt_r_then ?_
    obtain rfl := zi h
    exact pt_retI hio rfl rfl rfl
   ·rintro u17 hl18 hr19 ⟨s12, s13⟩ rr22 h ho20
    refine ht_seq ?_
    refine yyy hn 3 [0,2,52,53,14] ?_
    refine ht_cond _ rfl (fun hb23 => ?_) (fun hb23 => ?_)
    ·have h := cond_t hb23 h
     refine ht_skip ?_
     refine pt_then ?_
     refine ht_block ?_
     refine ht_seq ?_
     obtain ⟨v3, hv3, h⟩ := zn h
     refine yx hn 1 ?_
     refine ys 0 ⟨lg call117 (ok_unicode_utf8_DecodeRuneInString _ _ _ hv3) 52⟩ ?_
     refine ym 4 ?_
     refine yee [0,2,52,53,6] ?_
     refine ht_seq ?_
     refine ht_seq ?_
     obtain ⟨v4, hv4, h⟩ := zn h
     obtain ⟨v5, hv5, h⟩ := zn h
     refine yx hn 3 ?_
     refine yS (vs v4) 0 ⟨op_substr _ _ _ 0 v3.2 _ underlying9 rfl rfl ⟨_,rfl⟩ hv4⟩ ?_
     refine yk [53] [23,20] ?_
     refine ytt (53,.inv (J v5.1)) (24,vb v5.2) 1 ⟨op_yield _ _ 53 l v4 s13 v5 hY hv5 rfl rfl rfl⟩ ?_
     refine yee [0,2,52,53,6,25] ?_
     refine ht_cond _ rfl (fun hb24 => ?_) (fun hb24 => ?_)
     ·have h := cond_t hb24 h
      refine ht_ret ?_
      refine pt_pick [3] (by kernel_rfl) (es' := [(53,.inv (J v5.1))]) rfl ?_
      refine pt_r_then ?_
      refine pt_r_in ?_
      refine pt_r_then ?_
      refine pt_r_in ?_
      refine pt_r_then ?_
      refine pt_r_then ?_
      have h := hr19 _ (ho20 _ (zi h).symm).symm
      obtain rfl := zi h
      exact pt_retI hio rfl rfl rfl
     ·have h := cond_f hb24 h
      refine ht_skip ?_
      refine pt_then ?_
      obtain ⟨v7, hv7, h⟩ := zn h
      refine yx hn 2 ?_
      refine yS (vs v7) 1 ⟨op_substr _ _ _ v3.2 (s12.size : Int) _ underlying9 rfl ⟨_,rfl⟩ rfl hv7⟩ ?_
      refine ye [0,2,52,53] ?_
      refine pt_inb ?_
      exact pt_next _ (zi h).symm rfl
    ·have h := cond_f hb23 h
     refine ht_exit ?_
     refine pt_x_then ?_
     refine pt_x_then ?_
     refine pt_x_in ?_
     refine pt_pick [2,3] (by kernel_rfl) (es' := [(_,_),(_,_)]) rfl ?_
     exact hl18 _ (ho20 _ (zi h).symm).symm
  ·have h := cond_f hb1 h
   refine ht_skip ?_
   refine pt_then (ht_seq ?_)
   refine ht_pick [0,1,2,3,4,5] (by kernel_rfl) (es' := [(_,_),(_,_),(_,_),(_,_),(_,_),(_,_)]) rfl ?_
   refine ht_loopS h (fun ((s37,s38) : ByteArray × S) => [(0,.v (.func (.yield l) #[] #[])),(1,.box 9 [vs c0]),(2,.box 9 [vs s37]),(3,.box 3 [vi c2]),(52,.glob (GL mx)),(53,.inv (J s38))]) (fun ((s41,s42) : ByteArray × S) => [(0,.v (.func (.yield l) #[] #[])),(2,.box 9 [vs s41]),(52,.glob (GL mx)),(53,.inv (J s42))]) ?_ ?_
   ·rintro ⟨s41, s42⟩ h
    refine pt_then ?_
    obtain ⟨v51, hv51, h⟩ := zn h
    refine yx hn 2 ?_
    refine yk [53] [50,49] ?_
    refine ytt (53,.inv (J v51.1)) (51,vb v51.2) 0 ⟨op_yield _ _ 53 l s41 s42 v51 hY hv51 rfl rfl rfl⟩ ?_
    refine ye [52,53] ?_
    refine pt_pick [1] (by kernel_rfl) (es' := [(53,.inv (J v51.1))]) rfl ?_
    obtain rfl := zi h
    exact pt_endI hio rfl rfl rfl
   ·rintro u43 hl44 hr45 ⟨s37, s38⟩ rr48 h ho46
    refine ht_block ?_
    refine ht_seq ?_
    obtain ⟨v25, hv25, h⟩ := zn h
    refine yx hn 2 ?_
    refine ys 1 ⟨lk call118 (ok_strings_Index _ _ _ hv25)⟩ ?_
    refine yee [0,1,2,3,52,53,7] ?_
    refine ht_seq ?_
    refine yyy hn 2 [0,1,2,3,52,53,7,33] ?_
    refine ht_cond _ rfl (fun hb49 => ?_) (fun hb49 => ?_)
    ·have h := cond_t hb49 h
     refine ht_exit ?_
     refine pt_x_then ?_
     refine pt_x_out (by decide) ?_
     refine pt_x_then ?_
     refine pt_x_in ?_
     refine pt_pick [0,2,4,5] (by kernel_rfl) (es' := [(_,_),(_,_),(_,_),(_,_)]) rfl ?_
     exact hl44 _ (ho46 _ (zi h).symm).symm
    ·have h := cond_f hb49 h
     refine ht_skip ?_
     refine pt_then (ht_seq ?_)
     obtain ⟨v27, hv27, h⟩ := zn h
     obtain ⟨v28, hv28, h⟩ := zn h
     refine yx hn 3 ?_
     refine ys 0 ⟨lb hv27⟩ ?_
     refine yS (vs v28) 1 ⟨op_substr _ _ _ 0 v27 _ underlying9 rfl rfl ⟨_,rfl⟩ hv28⟩ ?_
     refine yee [0,1,2,3,52,53,7,8] ?_
     refine ht_seq ?_
     refine ht_seq ?_
     obtain ⟨v29, hv29, h⟩ := zn h
     refine yx hn 2 ?_
     refine yk [53] [40,39] ?_
     refine ytt (53,.inv (J v29.1)) (41,vb v29.2) 1 ⟨op_yield _ _ 53 l v28 s38 v29 hY hv29 rfl rfl rfl⟩ ?_
     refine yee [0,1,2,3,52,53,7,42] ?_
     refine ht_cond _ rfl (fun hb50 => ?_) (fun hb50 => ?_)
     ·have h := cond_t hb50 h
      refine ht_ret ?_
      refine pt_pick [5] (by kernel_rfl) (es' := [(53,.inv (J v29.1))]) rfl ?_
      refine pt_r_then ?_
      refine pt_r_in ?_
      refine pt_r_then ?_
      refine pt_r_in ?_
      refine pt_r_then ?_
      have h := hr45 _ (ho46 _ (zi h).symm).symm
      obtain rfl := zi h
      exact pt_retI hio rfl rfl rfl
     ·have h := cond_f hb50 h
      refine ht_skip ?_
      refine pt_then ?_
      obtain ⟨v31, hv31, h⟩ := zn h
      obtain ⟨v32, hv32, h⟩ := zn h
      refine yx hn 4 ?_
      refine ys 0 ⟨lb hv31⟩ ?_
      refine yS (vs v32) 1 ⟨op_substr _ _ _ v31 (s37.size : Int) _ underlying9 rfl ⟨_,rfl⟩ rfl hv32⟩ ?_
      refine ye [0,1,2,3,52,53] ?_
      refine pt_inb ?_
      exact pt_next _ (zi h).symm rfl
theorem ok_path_alphanumeric (c : Int) (r : Bool) (h : Sh.path_alphanumeric c = some r) : FnOK Tryz.prog 100 [.v (.int .u8 c)] (.v (.bool r)) := by
  unfold Sh.path_alphanumeric at h
  refine yO 25 func100 fun g0 hn hio => ?_
  refine yyy hn 1 [0] ?_
  refine ht_seq ?_
  refine ht_joinS h (fun (s1 : Bool) => [(2,vb s1)]) ?_ ?_
  ·rintro s1 h
   refine pt_then (ht_ret ?_)
   obtain rfl := zi h
   exact pt_ret hio rfl (.tmp _ _ .nil) rfl rfl
  ·intro u2 h hl3 hr4
   refine cond_some h (fun hg1_2 h => ?_) (fun hg1_2 h => ?_)
   ·refine cond_some h (fun hg1_6 h => ?_) (fun hg1_6 h => ?_)
    ·refine yx hn 3 ?_
     refine yd hg1_2 4 ?_
     refine yd hg1_6 16 ?_
     refine ye [2] ?_
     exact hl3 _ (zi h).symm
    ·refine cond_some h (fun hg1_9 h => ?_) (fun hg1_9 h => ?_)
     ·refine cond_some h (fun hg1_14 h => ?_) (fun hg1_14 h => ?_)
      ·refine yx hn 3 ?_
       refine yd hg1_2 4 ?_
       refine yd hg1_6 3 ?_
       refine yd hg1_9 5 ?_
       refine yd hg1_14 8 ?_
       refine ye [2] ?_
       exact hl3 _ (zi h).symm
      ·refine cond_some h (fun hg1_17 h => ?_) (fun hg1_17 h => ?_)
       ·refine yx hn 3 ?_
        refine yd hg1_2 4 ?_
        refine yd hg1_6 3 ?_
        refine yd hg1_9 5 ?_
        refine yd hg1_14 3 ?_
        refine yd hg1_17 5 ?_
        refine ye [2] ?_
        exact hl3 _ (zi h).symm
       ·refine yx hn 3 ?_
        refine yd hg1_2 4 ?_
        refine yd hg1_6 3 ?_
        refine yd hg1_9 5 ?_
        refine yd hg1_14 3 ?_
        refine yd hg1_17 5 ?_
        refine ye [2] ?_
        exact hl3 _ (zi h).symm
     ·refine cond_some h (fun hg1_17 h => ?_) (fun hg1_17 h => ?_)
      ·refine yx hn 3 ?_
       refine yd hg1_2 4 ?_
       refine yd hg1_6 3 ?_
       refine yd hg1_9 8 ?_
       refine yd hg1_17 5 ?_
       refine ye [2] ?_
       exact hl3 _ (zi h).symm
      ·refine yx hn 3 ?_
       refine yd hg1_2 4 ?_
       refine yd hg1_6 3 ?_
       refine yd hg1_9 8 ?_
       refine yd hg1_17 5 ?_
       refine ye [2] ?_
       exact hl3 _ (zi h).symm
   ·refine cond_some h (fun hg1_9 h => ?_) (fun hg1_9 h => ?_)
    ·refine cond_some h (fun hg1_14 h => ?_) (fun hg1_14 h => ?_)
     ·refine yx hn 3 ?_
      refine yd hg1_2 7 ?_
      refine yd hg1_9 5 ?_
      refine yd hg1_14 8 ?_
      refine ye [2] ?_
      exact hl3 _ (zi h).symm
     ·refine cond_some h (fun hg1_17 h => ?_) (fun hg1_17 h => ?_)
      ·refine yx hn 3 ?_
       refine yd hg1_2 7 ?_
       refine yd hg1_9 5 ?_
       refine yd hg1_14 3 ?_
       refine yd hg1_17 5 ?_
       refine ye [2] ?_
       exact hl3 _ (zi h).symm
      ·refine yx hn 3 ?_
       refine yd hg1_2 7 ?_
       refine yd hg1_9 5 ?_
       refine yd hg1_14 3 ?_
       refine yd hg1_17 5 ?_
       refine ye [2] ?_
       exact hl3 _ (zi h).symm
    ·refine cond_some h (fun hg1_17 h => ?_) (fun hg1_17 h => ?_)
     ·refine yx hn 3 ?_
      refine yd hg1_2 7 ?_
      refine yd hg1_9 8 ?_
      refine yd hg1_17 5 ?_
      refine ye [2] ?_
      exact hl3 _ (zi h).symm
     ·refine yx hn 3 ?_
      refine yd hg1_2 7 ?_
      refine yd hg1_9 8 ?_
      refine yd hg1_17 5 ?_
      refine ye [2] ?_
      exact hl3 _ (zi h).symm
theorem ok_strings_IndexByte (s : ByteArray) (c r : Int) (h : Sh.strings_IndexByte s c = some r) : FnOK Tryz.prog 101 [.v (.string s), .v (.int .u8 c)] (.v (.int .i64 r)) := lib_strings_IndexByte Tryz.strings_IndexByte s c r h
theorem ok_path_atom_1 (c : Int) (r : Bool) (h : Sh.path_atom_1 c = some r) : FnOK Tryz.prog 99 [.v (.int .u8 c)] (.v (.bool r)) := by
  unfold Sh.path_atom_1 at h
  refine yO 10 func99 fun g0 hn hio => ?_
  refine yyy hn 1 [0] ?_
  refine ht_seq ?_
  refine ht_joinS h (fun (s3 : Bool) => [(2,vb s3)]) ?_ ?_
  ·rintro s3 h
   refine pt_then (ht_ret ?_)
   obtain rfl := zi h
   exact pt_ret hio rfl (.tmp _ _ .nil) rfl rfl
  ·intro u4 h hl5 hr6
   obtain ⟨v1, hv1, h⟩ := zn h
   refine cond_some h (fun hg1_2 h => ?_) (fun hg1_2 h => ?_)
   ·refine yx hn 1 ?_
    refine ys 1 ⟨lk call100 (ok_path_alphanumeric _ _ hv1)⟩ ?_
    refine yd hg1_2 5 ?_
    refine ye [2] ?_
    exact hl5 _ (zi h).symm
   ·obtain ⟨v2, hv2, h⟩ := zn h
    refine yx hn 1 ?_
    refine ys 1 ⟨lk call100 (ok_path_alphanumeric _ _ hv1)⟩ ?_
    refine yd hg1_2 1 ?_
    refine ys 3 ⟨lk call101 (ok_strings_IndexByte _ _ _ hv2)⟩ ?_
    refine ye [2] ?_
    exact hl5 _ (zi h).symm
theorem ok_path_all_of_path_atom_1 (s : ByteArray) (r : Bool) (h : Sh.path_all_of_path_atom_1 s = some r) : FnOK Tryz.prog 98 [.v (.string s), .v (.func (.func 99) #[] #[])] (.v (.bool r)) := by
  unfold Sh.path_all_of_path_atom_1 at h
  refine yO 18 func98 fun g0 hn hio => ?_
  refine yyy hn 1 [0,1] ?_
  refine ht_seq ?_
  refine yyy hn 3 [0,1,7,8] ?_
  refine ht_loopS h (fun (s9 : Int) => [(0,vs s),(1,.v (.func (.func 99) #[] #[])),(7,vi (s.size : Int)),(8,vi s9)]) (fun (() : Unit) => []) ?_ ?_
  ·rintro ⟨⟩ h
   refine pt_then ?_
   refine yyy hn 1 [4] ?_
   refine ht_ret ?_
   obtain rfl := zi h
   exact pt_ret hio rfl (.tmp _ _ .nil) rfl rfl
  ·rintro u12 hl13 hr14 s9 rr17 h ho15
   refine yyy hn 1 [0,1,7,8,9] ?_
   refine ht_seq ?_
   refine ht_cond _ rfl (fun hb18 => ?_) (fun hb18 => ?_)
   ·have h := cond_t hb18 h
    refine ht_skip ?_
    refine pt_then (ht_seq ?_)
    refine ht_block ?_
    refine yyy hn 2 [0,1,7,8,5] ?_
    refine ht_seq ?_
    obtain ⟨v2, hv2, h⟩ := zn h
    obtain ⟨v3, hv3, h⟩ := zn h
    refine yx hn 3 ?_
    refine ys 0 ⟨lh hv2⟩ ?_
    refine ys 1 ⟨lk call99 (ok_path_atom_1 _ _ hv3)⟩ ?_
    refine yee [0,1,7,8,16] ?_
    refine ht_cond _ rfl (fun hb19 => ?_) (fun hb19 => ?_)
    ·have h := cond_t hb19 h
     refine yyy hn 1 [4] ?_
     refine ht_ret ?_
     refine pt_r_in ?_
     refine pt_r_then ?_
     refine pt_r_then ?_
     refine pt_r_in ?_
     refine pt_r_then ?_
     have h := hr14 _ (ho15 _ (zi h).symm).symm
     obtain rfl := zi h
     exact pt_ret hio rfl (.tmp _ _ .nil) rfl rfl
    ·have h := cond_f hb19 h
     refine ht_skip ?_
     refine pt_inb ?_
     refine pt_then ?_
     obtain ⟨v5, hv5, h⟩ := zn h
     refine yx hn 0 ?_
     refine ys 0 ⟨lb hv5⟩ ?_
     refine yw [8] 1 ?_
     refine ye [0,1,7,8] ?_
     exact pt_next _ (zi h).symm rfl
   ·have h := cond_f hb18 h
    refine ht_exit ?_
    refine pt_x_then ?_
    refine pt_x_then ?_
    refine pt_x_in ?_
    refine pt_pick [] (by kernel_rfl) (es' := []) rfl ?_
    exact hl13 _ (ho15 _ (zi h).symm).symm
theorem ok_path_atom (s : ByteArray) (r : Bool) (h : Sh.path_atom s = some r) : FnOK Tryz.prog 87 [.v (.string s)] (.v (.bool r)) := by
  unfold Sh.path_atom at h
  refine yO 9 func87 fun g0 hn hio => ?_
  refine yyy hn 1 [0] ?_
  refine ht_seq ?_
  refine ht_joinS h (fun (s2 : Bool) => [(2,vb s2)]) ?_ ?_
  ·rintro s2 h
   refine pt_then (ht_ret ?_)
   obtain rfl := zi h
   exact pt_ret hio rfl (.tmp _ _ .nil) rfl rfl
  ·intro u3 h hl4 hr5
   refine cond_some h (fun hg1_2 h => ?_) (fun hg1_2 h => ?_)
   ·obtain ⟨v1, hv1, h⟩ := zn h
    refine yx hn 3 ?_
    refine yd hg1_2 1 ?_
    refine ys 2 ⟨lk call98 (ok_path_all_of_path_atom_1 _ _ hv1)⟩ ?_
    refine ye [2] ?_
    exact hl4 _ (zi h).symm
   ·refine yx hn 3 ?_
    refine yd hg1_2 4 ?_
    refine ye [2] ?_
    exact hl4 _ (zi h).symm
theorem ok_path_dotted_of_path_atom (mx : Int) (s : ByteArray) (r : Bool) (h : Sh.path_dotted_of_path_atom s = some r) : FnG Tryz.prog (GL mx) 86 [.v (.string s), .v (.func (.func 87) #[] #[])] (.v (.bool r)) := by
  unfold Sh.path_dotted_of_path_atom at h
  refine yG 13 func86 fun g0 hn hio => ?_
  refine yxx hn 1 ?_
  refine yS (.box 4 [vb false]) 0 ⟨oA (op_alloc _ _ zr4)⟩ ?_
  refine yee [0,13,3,4] ?_
  refine ht_seq ?_
  refine ht_seq ?_
  obtain ⟨v1, hv1, h⟩ := zn h
  refine yx hn 1 ?_
  refine yk [] [6] ?_
  refine yt (7,.cloB 116 [.box 9 [vs v1.1],.box 9 [vs v1.2.1],.box 3 [vi v1.2.2]]) 0 ⟨op_callS _ _ 97 _ _ rfl call97 rfl rfl (ok_strings_SplitSeq s (⟨#[46]⟩ : ByteArray) _ hv1) rfl⟩ ?_
  refine yee [13,3,4,7] ?_
  refine ht_block ?_
  refine ht_pick [3,0,1,2] (by kernel_rfl) (es' := [(7,.cloB 116 [.box 9 [vs v1.1],.box 9 [vs v1.2.1],.box 3 [vi v1.2.2]]),(13,.glob (GL mx)),(3,.box 91 [.v (.func (.func 87) #[] #[])]),(4,.box 4 [vb false])]) rfl ?_
  refine ht_rangeF h 116 7 8 14 _ [13, 3, 4] call116 (fun (() : Unit) => [(13, .glob (GL mx)), (3, .box 91 [.v (.func (.func 87) #[] #[])]), (4, .box 4 [.v (.bool false)])]) (fun (() : Unit) => [(13, .glob (GL mx)), (3, .box 91 [.v (.func (.func 87) #[] #[])]), (4, .box 4 [.v (.bool false)])]) (fun l J Y hY t t' h => ok_strings_splitSeq_1 mx l J Y hY v1.1 v1.2.1 v1.2.2 t t' h) hn rfl (fun _ => rfl) (fun _ => rfl) (fun _ => rfl) rfl rfl (fun _ => ⟨rfl, rfl⟩) rfl (glIn_look 13 rfl) ?_ ?_ ?_
  ·rintro kk g0 hn hio x ⟨⟩ u h
   refine ht_es (es' := [(8,vs x),(13,.glob (GL mx)),(3,.box 91 [.v (.func (.func 87) #[] #[])]),(4,.box 4 [vb false]),(13,.v (kk.tm.getD 13 undef)),(3,.v (kk.tm.getD 3 undef)),(4,.v (kk.tm.getD 4 undef)),(14,.inv kk.ready)]) rfl ?_
   refine yy hn 1 [13,3,4,14,5,13,3,4] ?_
   refine pt_pick [0,1,2,4,5,6,7,3] (by kernel_rfl) (es' := [(13,.glob (GL mx)),(3,.box 91 [.v (.func (.func 87) #[] #[])]),(4,.box 4 [vb false]),(5,vs x),(13,.v (kk.tm.getD 13 undef)),(3,.v (kk.tm.getD 3 undef)),(4,.v (kk.tm.getD 4 undef)),(14,.inv kk.ready)]) rfl ?_
   refine pt_begin (es := [(13,.glob (GL mx)),(3,.box 91 [.v (.func (.func 87) #[] #[])]),(4,.box 4 [vb false]),(5,vs x),(13,.v (kk.tm.getD 13 undef)),(3,.v (kk.tm.getD 3 undef)),(4,.v (kk.tm.getD 4 undef))]) 14 rfl ?_
   refine ht_block ?_
   refine ht_seq ?_
   obtain ⟨v2, hv2, h⟩ := zn h
   refine yx hn 2 ?_
   refine ys 1 ⟨lk call87 (ok_path_atom _ _ hv2)⟩ ?_
   refine yee [13,3,4,14,12,13,3,4] ?_
   refine ht_cond _ rfl (fun hb5 => ?_) (fun hb5 => ?_)
   ·have h := cond_t hb5 h
    refine yyy hn 1 [13,3,4,14,13,3,4] ?_
    refine ht_ret ?_
    refine pt_r_in ?_
    refine pt_pick [0,1,2,4,5,6,3] (by kernel_rfl) (es' := [(_,_),(_,_),(_,_),(_,_),(_,_),(_,_),(_,_)]) rfl ?_
    obtain rfl := zi h
    exact pt_rret 14 [13, 3, 4] _ rfl rfl (by kernel_rfl)
   ·have h := cond_f hb5 h
    refine ht_skip ?_
    refine pt_inb ?_
    refine pt_pick [0,1,2,5,6,7,3] (by kernel_rfl) (es' := [(_,_),(_,_),(_,_),(_,_),(_,_),(_,_),(_,_)]) rfl ?_
    obtain rfl := zi h
    exact pt_rnext 14 [13, 3, 4] _ rfl rfl (by kernel_rfl)
  ·rintro D ⟨⟩ h
   refine pt_inb ?_
   refine pt_then ?_
   refine yyy hn 1 [13,4] ?_
   refine ht_ret ?_
   refine pt_pick [1] (by kernel_rfl) (es' := [(_,_)]) rfl ?_
   obtain rfl := zi h
   exact pt_ret hio rfl (.cell1 _ _ _ _ underlying4 rfl .nil) rfl rfl
  ·rintro D ⟨⟩ h
   refine pt_pick [2] (by kernel_rfl) (es' := [(_,_)]) rfl ?_
   refine pt_r_in ?_
   refine pt_r_then ?_
   obtain rfl := zi h
   exact pt_ret hio rfl (.cell1 _ _ _ _ underlying4 rfl .nil) rfl rfl
theorem ok_path_local (mx : Int) (s : ByteArray) (r : Bool) (h : Sh.path_local s = some r) : FnG Tryz.prog (GL mx) 80 [.v (.string s)] (.v (.bool r)) := by
  unfold Sh.path_local at h
  refine yG 10 func80 fun g0 hn hio => ?_
  refine yyy hn 1 [0,10] ?_
  refine ht_seq ?_
  refine ht_joinS h (fun (s2 : Bool) => [(10,.glob (GL mx)),(2,vb s2)]) ?_ ?_
  ·rintro s2 h
   refine pt_then (ht_ret ?_)
   refine pt_pick [1] (by kernel_rfl) (es' := [(_,_)]) rfl ?_
   obtain rfl := zi h
   exact pt_ret hio rfl (.tmp _ _ .nil) rfl rfl
  ·intro u3 h hl4 hr5
   refine cond_some h (fun hg1_3 h => ?_) (fun hg1_3 h => ?_)
   ·obtain ⟨v1, hv1, h⟩ := zn h
    refine yx hn 4 ?_
    refine yd hg1_3 1 ?_
    refine ys 2 ⟨lg call86 (ok_path_dotted_of_path_atom _ _ _ hv1) 10⟩ ?_
    refine ye [10,2] ?_
    exact hl4 _ (zi h).symm
   ·refine yx hn 4 ?_
    refine yd hg1_3 4 ?_
    refine ye [10,2] ?_
    exact hl4 _ (zi h).symm
theorem ok_path_label_1 (c : Int) (r : Bool) (h : Sh.path_label_1 c = some r) : FnOK Tryz.prog 102 [.v (.int .u8 c)] (.v (.bool r)) := by
  unfold Sh.path_label_1 at h
  refine yO 9 func102 fun g0 hn hio => ?_
  refine yyy hn 1 [0] ?_
  refine ht_seq ?_
  refine ht_joinS h (fun (s2 : Bool) => [(2,vb s2)]) ?_ ?_
  ·rintro s2 h
   refine pt_then (ht_ret ?_)
   obtain rfl := zi h
   exact pt_ret hio rfl (.tmp _ _ .nil) rfl rfl
  ·intro u3 h hl4 hr5
   obtain ⟨v1, hv1, h⟩ := zn h
   refine cond_some h (fun hg1_2 h => ?_) (fun hg1_2 h => ?_)
   ·refine yx hn 1 ?_
    refine ys 1 ⟨lk call100 (ok_path_alphanumeric _ _ hv1)⟩ ?_
    refine yd hg1_2 4 ?_
    refine ye [2] ?_
    exact hl4 _ (zi h).symm
   ·refine yx hn 1 ?_
    refine ys 1 ⟨lk call100 (ok_path_alphanumeric _ _ hv1)⟩ ?_
    refine yd hg1_2 4 ?_
    refine ye [2] ?_
    exact hl4 _ (zi h).symm
end Go.Proofs.YtjdmcbkkacnmdaaGreatDoor
