/-
  The model's runs are what is told in Lean.
-/
import Derived.Test.YtofbofdggabfiaaGreatDoorProg
import Derived.KernelRfl
import Derived.Test.YtofbofdggabfiaaGreatDoorShelf
import Derived.Test.YtofbofdggabfiaaGreatDoorB3
import Derived.Test.YtofbofdggabfiaaGreatDoorC1
import Derived.Test.YtofbofdggabfiaaGreatDoorOkc5
set_option linter.unusedVariables false
set_option linter.unusedSimpArgs false
set_option maxHeartbeats 1000000
namespace Go.Proofs.YtofbofdggabfiaaGreatDoor
open Go.Abs Go.Abs.Sh Tryz
open List (map flatten)
open Value (int)
theorem ok_wherryref18_Add (s:T_Spool) (p_r:T_Rec) (r:(T_Spool×Int)) (h:Sh.wherryref18_Add s p_r=some r):FnOK Tryz.prog 30 [.agg [.fr .shr true 11 (flatten (map T_Item.ienc s.Items)), .v (.int .i64 s.Packs), .fl .shr 1 (map (int .i64) s.Sent), .fl .shr 1 (map (int .u8) s.Part), .v (.int .i64 s.Of), .fl .shr 1 (map (int .i64) s.Done)], .agg [.v (.int .i64 p_r.Kind), .v (.bool p_r.Mail.From.Null), .v (.string p_r.Mail.From.Local), .v (.string p_r.Mail.From.Domain), .fl .shr 3 (flatten (map T_Path.enc p_r.Mail.To)), .fl .shr 1 (map (int .u8) p_r.Mail.Body), .v (.bool p_r.Mail.Quiet), .v (.string p_r.Mail.Helo), .v (.int .i64 p_r.Mail.At), .v (.int .i64 p_r.Id), .fl .shr 1 (map (int .i64) p_r.Ids), .v (.int .i64 p_r.Origin), .v (.int .i64 p_r.Number), .v (.int .i64 p_r.Offset), .fl .shr 1 (map (int .u8) p_r.Data)]] (.tup [.agg [.fr (.own 74) false 11 (flatten (map T_Item.ienc r.1.Items)), .v (.int .i64 r.1.Packs), .fl (.own 3) 1 (map (int .i64) r.1.Sent), .fl (.own 5) 1 (map (int .u8) r.1.Part), .v (.int .i64 r.1.Of), .fl (.own 3) 1 (map (int .i64) r.1.Done)], .v (.int .i64 r.2)]):=by
  unfold Sh.wherryref18_Add at h
  refine yO 398 func30 fun g0 hn hio => ?_
  refine yxx hn 2 ?_
  refine yS (.box 44 [vz,vi 0,vz,vz,vi 0,vz]) 1 ⟨oA (op_alloc _ _ zr44)⟩ ?_
  refine yee [2,3,4] ?_
  refine ht_seq ?_
  obtain ⟨v1, hv1, h⟩:=zn h
  refine yx hn 1 ?_
  refine ys 0 ⟨lk call42 (ok_wherrykeep_TwinSpool _ _ hv1)⟩ ?_
  refine yS (.box 44 [vz,vi 0,vz,vz,vi 0,vz]) 0 ⟨oA (op_alloc _ _ zr44)⟩ ?_
  refine yk [16,6] [] ?_
  refine yt (6,.box 44 [.fr (.own 74) false 11 (flatten (map T_Item.ienc v1.Items)),vi v1.Packs,.fl (.own 3) 1 (map (int .i64) v1.Sent),.fl (.own 5) 1 (map (int .u8) v1.Part),vi v1.Of,.fl (.own 3) 1 (map (int .i64) v1.Done)]) 0 ⟨op_store_take _ _ _ _ _ _ _ _ sz44 rfl rfl rfl (zl rfl) rfl rfl⟩ ?_
  refine yee [2,3,4,6] ?_
  refine yxx hn 2 ?_
  refine yS (.agg [vi p_r.Kind,vb false,vs z0,vs z0,vz,vz,vb false,vs z0,vi 0,vi 0,vz,vi 0,vi 0,vi 0,vz]) 0 ⟨op_build _ _ _ _ [1,8,1,1,1,1,1,1] _ _ underlying57 zr57 (fs57 _ underlying57) (.copy _ Src.nil) rfl rfl rfl⟩ ?_
  refine yS (.box 57 [vi 0,vb false,vs z0,vs z0,vz,vz,vb false,vs z0,vi 0,vi 0,vz,vi 0,vi 0,vi 0,vz]) 1 ⟨oA (op_alloc _ _ zr57)⟩ ?_
  refine yee [2,3,4,6,7] ?_
  refine yyy hn 1 [2,3,4,6,7,8] ?_
  refine ht_seq ?_
  refine ht_joinS h (fun ((s689,s690,s691,s692,s693,s694,s695,s696,s697,s698,s699,s700,s701,s702,s703,s704,s705,s706,s707,s708,s709):(List T_Item)×Int×(List Int)×(List Int)×Int×(List Int)×Bool×ByteArray×ByteArray×(List T_Path)×(List Int)×Bool×ByteArray×Int×Int×(List Int)×Int×Int×Int×(List Int)×Bool)=>[(3,.box 57 (T_Rec.c p_r [])),(4,.box 44 [vz,vi 0,vz,vz,vi 0,vz]),(6,.box 44 [.fr (.own 74) false 11 (flatten (map T_Item.ienc s689)),vi s690,.fl (.own 3) 1 (map (int .i64) s691),.fl (.own 5) 1 (map (int .u8) s692),vi s693,.fl (.own 3) 1 (map (int .i64) s694)]),(7,.box 57 [vi p_r.Kind,vb s695,vs s696,vs s697,.fl .shr 3 (flatten (map T_Path.enc s698)),fb s699,vb s700,vs s701,vi s702,vi s703,fi s704,vi s705,vi s706,vi s707,fb s708]),(8,vb s709)]) ?_ ?_
  ·rintro ⟨s689, s690, s691, s692, s693, s694, s695, s696, s697, s698, s699, s700, s701, s702, s703, s704, s705, s706, s707, s708, s709⟩ h
   refine pt_then (ht_seq ?_)
   refine ht_seq ?_
   refine ht_joinS h (fun (s1334:Bool)=>[(4,.box 44 [vz,vi 0,vz,vz,vi 0,vz]),(6,.box 44 [.fr (.own 74) false 11 (flatten (map T_Item.ienc s689)),vi s690,.fl (.own 3) 1 (map (int .i64) s691),.fl (.own 5) 1 (map (int .u8) s692),vi s693,.fl (.own 3) 1 (map (int .i64) s694)]),(395,vb s1334)]) ?_ ?_
   ·rintro s1334 h
    refine pt_then ?_
    refine ht_cond _ rfl (fun hb1338 => ?_) (fun hb1338 => ?_)
    ·have h:=cond_t hb1338 h
     refine yxx hn 0 ?_
     refine yS (.agg [vz,vi 0,vz,vz,vi 0,vz]) 0 ⟨op_build _ _ _ _ [1,1,1,1,1,1] _ _ underlying44 zr44 (fs44 _ underlying44) Src.nil rfl rfl rfl⟩ ?_
     refine yk [396,4] [] ?_
     refine yt (4,.box 44 [vz,vi 0,vz,vz,vi 0,vz]) 1 ⟨op_store_self _ _ _ 396 4 6 sz44 rfl rfl rfl rfl rfl (.eq _ (.eq _ (.eq _ (.eq _ (.eq _ (.eq _ (.nil _))))))) rfl⟩ ?_
     refine yee [4,5] ?_
     refine ht_ret ?_
     refine pt_sub (fs:=[(4,.box 44 [.fr (.own 74) false 11 (flatten (map T_Item.ienc [])),vi 0,.fl (.own 3) 1 (map (int .i64) []),.fl (.own 5) 1 (map (int .u8) []),vi 0,.fl (.own 3) 1 (map (int .i64) [])]),(5,vi 5)]) (.box _ _ (subs_cons (sub_nil_fr 74 false 11) (subs_cons (sub_refl _) (subs_cons (sub_nil 3 1) (subs_cons (sub_nil 5 1) (subs_cons (sub_refl _) (subs_cons (sub_nil 3 1) (subs_nil))))))) rfl (.same _ .nil)) ?_
     refine pt_r_then ?_
     obtain rfl:=zi h
     exact pt_ret hio rfl (.cellA _ _ _ _ underlying44 rfl sz44 (.tmp _ _ .nil)) rfl rfl
    ·have h:=cond_f hb1338 h
     refine ht_skip ?_
     refine pt_then ?_
     refine yxx hn 0 ?_
     refine yk [6] [] ?_
     refine yt (397,.agg [.fr (.own 74) false 11 (flatten (map T_Item.ienc s689)),vi s690,.fl (.own 3) 1 (map (int .i64) s691),.fl (.own 5) 1 (map (int .u8) s692),vi s693,.fl (.own 3) 1 (map (int .i64) s694)]) 0 ⟨op_loadA_take _ _ _ _ underlying44 rfl sz44 rfl rfl⟩ ?_
     refine yk [397,4] [] ?_
     refine yt (4,.box 44 [.fr (.own 74) false 11 (flatten (map T_Item.ienc s689)),vi s690,.fl (.own 3) 1 (map (int .i64) s691),.fl (.own 5) 1 (map (int .u8) s692),vi s693,.fl (.own 3) 1 (map (int .i64) s694)]) 1 ⟨op_store_take _ _ _ _ _ _ _ _ sz44 rfl rfl rfl (zl rfl) rfl rfl⟩ ?_
     refine yee [4,5] ?_
     refine ht_ret ?_
     obtain rfl:=zi h
     exact pt_ret hio rfl (.cellA _ _ _ _ underlying44 rfl sz44 (.tmp _ _ .nil)) rfl rfl
   ·intro u1335 h hl1336 hr1337
    refine cond_some h (fun hg59_2 h => ?_) (fun hg59_2 h => ?_)
    ·refine yx hn 3 ?_
     refine yd hg59_2 5 ?_
     refine ye [4,6,395] ?_
     exact hl1336 _ (zi h).symm
    ·obtain ⟨v1333, hv1333, h⟩:=zn h
     refine yx hn 3 ?_
     refine yd hg59_2 2 ?_
     refine ys 2 ⟨lk call47 (ok_wherrykeep_Rec _ _ _ hv1333)⟩ ?_
     refine ye [4,6,395] ?_
     exact hl1336 _ (zi h).symm
  ·intro u710 h hl711 hr712
   refine yyy hn 2 [2,3,4,6,7,8,21] ?_
   refine ht_joinS h (fun ((s1011,s1012,s1013,s1014,s1015,s1016,s1017,s1018,s1019,s1020,s1021,s1022,s1023,s1024,s1025,s1026,s1027,s1028,s1029,s1030,s1031):(List T_Item)×Int×(List Int)×(List Int)×Int×(List Int)×Bool×ByteArray×ByteArray×(List T_Path)×(List Int)×Bool×ByteArray×Int×Int×(List Int)×Int×Int×Int×(List Int)×Bool)=>[(3,.box 57 (T_Rec.c p_r [])),(4,.box 44 [vz,vi 0,vz,vz,vi 0,vz]),(6,.box 44 [.fr (.own 74) false 11 (flatten (map T_Item.ienc s1011)),vi s1012,.fl (.own 3) 1 (map (int .i64) s1013),.fl (.own 5) 1 (map (int .u8) s1014),vi s1015,.fl (.own 3) 1 (map (int .i64) s1016)]),(7,.box 57 [vi p_r.Kind,vb s1017,vs s1018,vs s1019,.fl .shr 3 (flatten (map T_Path.enc s1020)),fb s1021,vb s1022,vs s1023,vi s1024,vi s1025,fi s1026,vi s1027,vi s1028,vi s1029,fb s1030]),(8,vb s1031)]) ?_ ?_
   ·rintro ⟨s1011, s1012, s1013, s1014, s1015, s1016, s1017, s1018, s1019, s1020, s1021, s1022, s1023, s1024, s1025, s1026, s1027, s1028, s1029, s1030, s1031⟩ h
    exact hl711 _ (zi h).symm
   ·intro u1032 h hl1033 hr1034
    refine ht_block ?_
    refine yyy hn 2 [2,3,4,6,7,8,21,22] ?_
    refine ht_cond _ rfl (fun hb1035 => ?_) (fun hb1035 => ?_)
    ·have h:=cond_t hb1035 h
     refine ht_seq ?_
     refine wb [[3],[24,3],[3],[26,3],[3],[28,3],[7]] ?_
     refine wK [7] [30,25] ?_
     refine wt [(7,.box 57 (vi p_r.Kind::T_Mail.c p_r.Mail [vi 0,vz,vi 0,vi 0,vi 0,vz]))] [[7]] ⟨op_store _ _ _ _ _ _ _ _ sz32 rfl rfl rfl rfl (zl rfl) rfl rfl⟩ ?_
     refine wK [7] [31,27] ?_
     refine wt [(7,.box 57 (vi p_r.Kind::T_Mail.c p_r.Mail [vi p_r.Id,vz,vi 0,vi 0,vi 0,vz]))] [[7]] ⟨op_store _ _ _ _ _ _ _ _ sz3 rfl rfl rfl rfl (zl rfl) rfl rfl⟩ ?_
     refine wK [7] [32,29] ?_
     refine wt [(7,.box 57 (vi p_r.Kind::T_Mail.c p_r.Mail [vi p_r.Id,vz,vi p_r.Origin,vi 0,vi 0,vz]))] [] ⟨op_store _ _ _ _ _ _ _ _ sz3 rfl rfl rfl rfl (zl rfl) rfl rfl⟩ ?_
     refine wee hn [2,3,4,6,7] ?_
     refine ht_seq ?_
     refine ht_joinS h (fun (s1036:Bool)=>[(3,.box 57 (T_Rec.c p_r [])),(4,.box 44 [vz,vi 0,vz,vz,vi 0,vz]),(6,.box 44 [.fr (.own 74) false 11 (flatten (map T_Item.ienc v1.Items)),vi v1.Packs,.fl (.own 3) 1 (map (int .i64) v1.Sent),.fl (.own 5) 1 (map (int .u8) v1.Part),vi v1.Of,.fl (.own 3) 1 (map (int .i64) v1.Done)]),(7,.box 57 (vi p_r.Kind::T_Mail.c p_r.Mail [vi p_r.Id,vz,vi p_r.Origin,vi 0,vi 0,vz])),(8,vb s1036)]) ?_ ?_
     ·rintro s1036 h
      refine pt_then ?_
      refine yyy hn 1 [3,4,6,7,8,9] ?_
      refine ht_seq ?_
      refine ht_joinS h (fun (s1041:Int)=>[(3,.box 57 (T_Rec.c p_r [])),(4,.box 44 [vz,vi 0,vz,vz,vi 0,vz]),(6,.box 44 [.fr (.own 74) false 11 (flatten (map T_Item.ienc v1.Items)),vi v1.Packs,.fl (.own 3) 1 (map (int .i64) v1.Sent),.fl (.own 5) 1 (map (int .u8) v1.Part),vi v1.Of,.fl (.own 3) 1 (map (int .i64) v1.Done)]),(7,.box 57 (vi p_r.Kind::T_Mail.c p_r.Mail [vi p_r.Id,vz,vi p_r.Origin,vi 0,vi 0,vz])),(8,vb s1036),(9,vi s1041)]) ?_ ?_
      ·rintro s1041 h
       refine pt_then ?_
       obtain ⟨v16, hv16, h⟩:=zn h
       obtain ⟨v17, hv17, h⟩:=zn h
       refine wb [[6],[59,6],[3],[61,3],[3],[63,3]] ?_
       refine wN [64] ?_
       refine wo [[9]] ⟨lk call45 (ok_wherrykeep_TwinMail _ _ hv16)⟩ ?_
       refine wK [65] [62,66] ?_
       refine wt [(67,.agg [vi p_r.Id,vb v16.From.Null,vs v16.From.Local,vs v16.From.Domain,.fl (.own 24) 3 (flatten (map T_Path.enc v16.To)),.fl (.own 5) 1 (map (int .u8) v16.Body),vb v16.Quiet,vs v16.Helo,vi v16.At,vi s1041,vi 0])] [] ⟨op_build _ _ _ _ [1,8,1,1] _ _ underlying74 zr74 (fs74 _ underlying74) (.copy _ (.take _ _ (.copy _ Src.nil))) rfl rfl rfl⟩ ?_
       refine wK [67] [] ?_
       refine wt [(68,.fr (.own 74) false 11 (flatten (map T_Item.ienc [(T_Item.mk p_r.Id ((T_Mail.mk (T_Path.mk v16.From.Null v16.From.Local v16.From.Domain) v16.To v16.Body v16.Quiet v16.Helo v16.At)) s1041 0)])))] [] ⟨op_build1_fr_take _ _ _ 11 (.agg #[.int .i64 0,.bool false,.string ByteArray.empty,.string ByteArray.empty,.slice none 0 0,.slice none 0 0,.bool false,.string ByteArray.empty,.int .i64 0,.int .i64 0,.int .i64 0]) false _ _ underlying41 sz74 zr74 rfl (.cons (.v _) (.cons (.v _) (.cons (.v _) (.cons (.v _) (.cons (.ro _ _ rfl) (.cons (.ro _ _ rfl) (.cons (.v _) (.cons (.v _) (.cons (.v _) (.cons (.v _) (.cons (.v _) (.nil)))))))))))) rfl (by decide) (by decide)⟩ ?_
       refine wK [6] [60,68] ?_
       refine wt [(6,.box 44 [.any,vi v1.Packs,.fl (.own 3) 1 (map (int .i64) v1.Sent),.fl (.own 5) 1 (map (int .u8) v1.Part),vi v1.Of,.fl (.own 3) 1 (map (int .i64) v1.Done)]),(69,.fr (.own 74) false 11 (flatten (map T_Item.ienc v17)))] [[6]] ⟨op_app_fr_cell _ 69 6 0 _ _ el41 rfl rfl (zl rfl) rfl (gflat_len T_Item.ilen _) (gflat_len T_Item.ilen _) hv17 (gflat_app (app_eq hv17)) (by decide) (by decide) (by decide) rfl rfl⟩ ?_
       refine wK [60,69,6] [70] ?_
       refine wt [(6,.box 44 [.fr (.own 74) false 11 (flatten (map T_Item.ienc v17)),vi v1.Packs,.fl (.own 3) 1 (map (int .i64) v1.Sent),.fl (.own 5) 1 (map (int .u8) v1.Part),vi v1.Of,.fl (.own 3) 1 (map (int .i64) v1.Done)])] [] ⟨LOp.drop [_] (op_store_take _ _ _ _ _ _ _ _ sz41 rfl rfl rfl (zl rfl) rfl rfl)⟩ ?_
       refine we hn [3,4,6,7,8] ?_
       refine pt_inb ?_
       refine pt_sub (fs:=[(3,.box 57 (T_Rec.c p_r [])),(4,.box 44 [vz,vi 0,vz,vz,vi 0,vz]),(6,.box 44 [.fr (.own 74) false 11 (flatten (map T_Item.ienc v17)),vi v1.Packs,.fl (.own 3) 1 (map (int .i64) v1.Sent),.fl (.own 5) 1 (map (int .u8) v1.Part),vi v1.Of,.fl (.own 3) 1 (map (int .i64) v1.Done)]),(7,.box 57 (vi p_r.Kind::T_Mail.c p_r.Mail [vi p_r.Id,fi [],vi p_r.Origin,vi 0,vi 0,fb []])),(8,vb s1036)]) (.same _ (.same _ (.same _ (.box _ _ (subs_cons (sub_refl _) (subs_cons (sub_refl _) (subs_cons (sub_refl _) (subs_cons (sub_refl _) (subs_cons (sub_refl _) (subs_cons (sub_refl _) (subs_cons (sub_refl _) (subs_cons (sub_refl _) (subs_cons (sub_refl _) (subs_cons (sub_refl _) (subs_cons (sub_nil_shr 1) (subs_cons (sub_refl _) (subs_cons (sub_refl _) (subs_cons (sub_refl _) (subs_cons (sub_nil_shr 1) (subs_nil)))))))))))))))) rfl (.same _ .nil))))) ?_
       exact hl1033 _ (zi h).symm
      ·intro u1042 h hl1043 hr1044
       refine yyy hn 3 [3,4,6,7,8,9,58] ?_
       refine ht_cond _ rfl (fun hb1045 => ?_) (fun hb1045 => ?_)
       ·have h:=cond_t hb1045 h
        refine yx hn 0 ?_
        refine yw [9] 1 ?_
        refine ye [3,4,6,7,8,9] ?_
        exact hl1043 _ (zi h).symm
       ·have h:=cond_f hb1045 h
        refine ht_skip ?_
        refine pt_pick [0,1,2,3,4,5] (by kernel_rfl) (es':=[(_,_),(_,_),(_,_),(_,_),(_,_),(_,_)]) rfl ?_
        exact hl1043 _ (zi h).symm
     ·intro u1037 h hl1038 hr1039
      obtain ⟨v3, hv3, h⟩:=zn h
      refine cond_some h (fun hg7_7 h => ?_) (fun hg7_7 h => ?_)
      ·refine cond_some h (fun hg7_13 h => ?_) (fun hg7_13 h => ?_)
       ·obtain ⟨v4, hv4, h⟩:=zn h
        refine cond_some h (fun hg7_18 h => ?_) (fun hg7_18 h => ?_)
        ·obtain ⟨v5, hv5, h⟩:=zn h
         refine yx hn 5 ?_
         refine ys 2 ⟨lb hv3⟩ ?_
         refine yd hg7_7 6 ?_
         refine yd hg7_13 2 ?_
         refine ys 2 ⟨lk call43 (ok_wherryref18_in _ _ _ _ hv4)⟩ ?_
         refine yd hg7_18 2 ?_
         refine ys 2 ⟨lk call44 (ok_wherryref18_mail _ _ hv5)⟩ ?_
         refine ye [3,4,6,7,8] ?_
         exact hl1038 _ (zi h).symm
        ·refine yx hn 5 ?_
         refine ys 2 ⟨lb hv3⟩ ?_
         refine yd hg7_7 6 ?_
         refine yd hg7_13 2 ?_
         refine ys 2 ⟨lk call43 (ok_wherryref18_in _ _ _ _ hv4)⟩ ?_
         refine yd hg7_18 5 ?_
         refine ye [3,4,6,7,8] ?_
         exact hl1038 _ (zi h).symm
       ·refine yx hn 5 ?_
        refine ys 2 ⟨lb hv3⟩ ?_
        refine yd hg7_7 6 ?_
        refine yd hg7_13 10 ?_
        refine ye [3,4,6,7,8] ?_
        exact hl1038 _ (zi h).symm
      ·refine yx hn 5 ?_
       refine ys 2 ⟨lb hv3⟩ ?_
       refine yd hg7_7 16 ?_
       refine ye [3,4,6,7,8] ?_
       exact hl1038 _ (zi h).symm
    ·have h:=cond_f hb1035 h
     refine yyy hn 2 [2,3,4,6,7,8,21,71] ?_
     refine ht_cond _ rfl (fun hb1046 => ?_) (fun hb1046 => ?_)
     ·have h:=cond_t hb1046 h
      refine ht_seq ?_
      refine wb [[3],[73,3],[3],[75,3],[7]] ?_
      refine wK [7] [77,74] ?_
      refine wt [(7,.box 57 [vi p_r.Kind,vb false,vs z0,vs z0,vz,vz,vb false,vs z0,vi 0,vi 0,vz,vi 0,vi p_r.Number,vi 0,vz])] [[7]] ⟨op_store _ _ _ _ _ _ _ _ sz3 rfl rfl rfl rfl (zl rfl) rfl rfl⟩ ?_
      refine wK [7] [78,76] ?_
      refine wt [(7,.box 57 [vi p_r.Kind,vb false,vs z0,vs z0,vz,vz,vb false,vs z0,vi 0,vi 0,fi p_r.Ids,vi 0,vi p_r.Number,vi 0,vz])] [] ⟨op_store _ _ _ _ _ _ _ _ sz42 rfl rfl rfl rfl (zl rfl) rfl rfl⟩ ?_
      refine wee hn [2,3,4,6,7] ?_
      refine ht_seq ?_
      refine ht_joinS h (fun (s1047:Bool)=>[(2,.box 44 (T_Spool.c s [])),(3,.box 57 (T_Rec.c p_r [])),(4,.box 44 [vz,vi 0,vz,vz,vi 0,vz]),(6,.box 44 [.fr (.own 74) false 11 (flatten (map T_Item.ienc v1.Items)),vi v1.Packs,.fl (.own 3) 1 (map (int .i64) v1.Sent),.fl (.own 5) 1 (map (int .u8) v1.Part),vi v1.Of,.fl (.own 3) 1 (map (int .i64) v1.Done)]),(7,.box 57 [vi p_r.Kind,vb false,vs z0,vs z0,vz,vz,vb false,vs z0,vi 0,vi 0,fi p_r.Ids,vi 0,vi p_r.Number,vi 0,vz]),(8,vb s1047)]) ?_ ?_
      ·rintro s1047 h
       refine pt_then (ht_seq ?_)
       refine yyy hn 1 [2,3,4,6,7,8,10] ?_
       refine ht_loopS h (fun ((s1094,s1095,s1096):(List T_Item)×Bool×Int)=>[(2,.box 44 (T_Spool.c s [])),(3,.box 57 (T_Rec.c p_r [])),(4,.box 44 [vz,vi 0,vz,vz,vi 0,vz]),(6,.box 44 [.fr (.own 74) false 11 (flatten (map T_Item.ienc s1094)),vi v1.Packs,.fl (.own 3) 1 (map (int .i64) v1.Sent),.fl (.own 5) 1 (map (int .u8) v1.Part),vi v1.Of,.fl (.own 3) 1 (map (int .i64) v1.Done)]),(7,.box 57 [vi p_r.Kind,vb false,vs z0,vs z0,vz,vz,vb false,vs z0,vi 0,vi 0,fi p_r.Ids,vi 0,vi p_r.Number,vi 0,vz]),(8,vb s1095),(10,vi s1096)]) (fun ((s1117,s1118):(List T_Item)×Bool)=>[(3,.box 57 (T_Rec.c p_r [])),(4,.box 44 [vz,vi 0,vz,vz,vi 0,vz]),(6,.box 44 [.fr (.own 74) false 11 (flatten (map T_Item.ienc s1117)),vi v1.Packs,.fl (.own 3) 1 (map (int .i64) v1.Sent),.fl (.own 5) 1 (map (int .u8) v1.Part),vi v1.Of,.fl (.own 3) 1 (map (int .i64) v1.Done)]),(7,.box 57 [vi p_r.Kind,vb false,vs z0,vs z0,vz,vz,vb false,vs z0,vi 0,vi 0,fi p_r.Ids,vi 0,vi p_r.Number,vi 0,vz]),(8,vb s1118)]) ?_ ?_
       ·rintro ⟨s1117, s1118⟩ h
        refine pt_then ?_
        refine yy hn 4 [3,4,6,7,8] ?_
        refine pt_inb ?_
        refine pt_sub (fs:=[(3,.box 57 (T_Rec.c p_r [])),(4,.box 44 [vz,vi 0,vz,vz,vi 0,vz]),(6,.box 44 [.fr (.own 74) false 11 (flatten (map T_Item.ienc s1117)),vi p_r.Number,.fl (.own 3) 1 (map (int .i64) v1.Sent),.fl (.own 5) 1 (map (int .u8) v1.Part),vi v1.Of,.fl (.own 3) 1 (map (int .i64) v1.Done)]),(7,.box 57 [vi p_r.Kind,vb false,vs z0,vs z0,.fl .shr 3 (flatten (map T_Path.enc [])),fb [],vb false,vs z0,vi 0,vi 0,fi p_r.Ids,vi 0,vi p_r.Number,vi 0,fb []]),(8,vb s1118)]) (.same _ (.same _ (.same _ (.box _ _ (subs_cons (sub_refl _) (subs_cons (sub_refl _) (subs_cons (sub_refl _) (subs_cons (sub_refl _) (subs_cons (sub_nil_shr 3) (subs_cons (sub_nil_shr 1) (subs_cons (sub_refl _) (subs_cons (sub_refl _) (subs_cons (sub_refl _) (subs_cons (sub_refl _) (subs_cons (sub_refl _) (subs_cons (sub_refl _) (subs_cons (sub_refl _) (subs_cons (sub_refl _) (subs_cons (sub_nil_shr 1) (subs_nil)))))))))))))))) rfl (.same _ .nil))))) ?_
        exact hl1033 _ (zi h).symm
       ·rintro u1119 hl1120 hr1121 ⟨s1094, s1095, s1096⟩ rr1124 h ho1122
        refine ht_seq ?_
        refine ht_seq ?_
        refine ht_joinS h (fun (s1125:Bool)=>[(2,.box 44 (T_Spool.c s [])),(3,.box 57 (T_Rec.c p_r [])),(4,.box 44 [vz,vi 0,vz,vz,vi 0,vz]),(6,.box 44 [.fr (.own 74) false 11 (flatten (map T_Item.ienc s1094)),vi v1.Packs,.fl (.own 3) 1 (map (int .i64) v1.Sent),.fl (.own 5) 1 (map (int .u8) v1.Part),vi v1.Of,.fl (.own 3) 1 (map (int .i64) v1.Done)]),(7,.box 57 [vi p_r.Kind,vb false,vs z0,vs z0,vz,vz,vb false,vs z0,vi 0,vi 0,fi p_r.Ids,vi 0,vi p_r.Number,vi 0,vz]),(8,vb s1095),(10,vi s1096),(98,vb s1125)]) ?_ ?_
        ·rintro s1125 h
         refine pt_then ?_
         refine ht_cond _ rfl (fun hb1129 => ?_) (fun hb1129 => ?_)
         ·have h:=cond_t hb1129 h
          refine ht_skip ?_
          refine pt_then (ht_seq ?_)
          refine ht_joinS h (fun ((s1135,s1136):(List T_Item)×Bool)=>[(6,.box 44 [.fr (.own 74) false 11 (flatten (map T_Item.ienc s1135)),vi v1.Packs,.fl (.own 3) 1 (map (int .i64) v1.Sent),.fl (.own 5) 1 (map (int .u8) v1.Part),vi v1.Of,.fl (.own 3) 1 (map (int .i64) v1.Done)]),(2,.box 44 (T_Spool.c s [])),(3,.box 57 (T_Rec.c p_r [])),(4,.box 44 [vz,vi 0,vz,vz,vi 0,vz]),(7,.box 57 [vi p_r.Kind,vb false,vs z0,vs z0,vz,vz,vb false,vs z0,vi 0,vi 0,fi p_r.Ids,vi 0,vi p_r.Number,vi 0,vz]),(10,vi s1096),(8,vb s1136)]) ?_ ?_
          ·rintro ⟨s1135, s1136⟩ h
           refine pt_then ?_
           obtain ⟨v70, hv70, h⟩:=zn h
           refine yx hn 1 ?_
           refine ys 0 ⟨lb hv70⟩ ?_
           refine yw [10] 1 ?_
           refine ye [6,2,3,4,7,8,10] ?_
           refine pt_pick [1,2,3,0,4,5,6] (by kernel_rfl) (es':=[(_,_),(_,_),(_,_),(_,_),(_,_),(_,_),(_,_)]) rfl ?_
           exact pt_next _ (zi h).symm rfl
          ·intro u1137 h hl1138 hr1139
           refine ht_block ?_
           refine ht_seq ?_
           refine ht_joinS h (fun (s1140:Bool)=>[(2,.box 44 (T_Spool.c s [])),(3,.box 57 (T_Rec.c p_r [])),(4,.box 44 [vz,vi 0,vz,vz,vi 0,vz]),(6,.box 44 [.fr (.own 74) false 11 (flatten (map T_Item.ienc s1094)),vi v1.Packs,.fl (.own 3) 1 (map (int .i64) v1.Sent),.fl (.own 5) 1 (map (int .u8) v1.Part),vi v1.Of,.fl (.own 3) 1 (map (int .i64) v1.Done)]),(7,.box 57 [vi p_r.Kind,vb false,vs z0,vs z0,vz,vz,vb false,vs z0,vi 0,vi 0,fi p_r.Ids,vi 0,vi p_r.Number,vi 0,vz]),(10,vi s1096),(8,vb s1140)]) ?_ ?_
           ·rintro s1140 h
            refine pt_then ?_
            refine yyy hn 1 [2,3,4,6,7,10,8,142] ?_
            refine ht_cond _ rfl (fun hb1144 => ?_) (fun hb1144 => ?_)
            ·have h:=cond_t hb1144 h
             obtain ⟨v48, hv48, h⟩:=zn h
             obtain ⟨v49, hv49, h⟩:=zn h
             obtain ⟨v50, hv50, h⟩:=zn h
             obtain ⟨v51, hv51, h⟩:=zn h
             obtain ⟨v52, hv52, h⟩:=zn h
             obtain ⟨v53, hv53, h⟩:=zn h
             obtain ⟨v54, hv54, h⟩:=zn h
             obtain ⟨v55, hv55, h⟩:=zn h
             obtain ⟨v56, hv56, h⟩:=zn h
             obtain ⟨v57, hv57, h⟩:=zn h
             obtain ⟨v58, hv58, h⟩:=zn h
             obtain ⟨v59, hv59, h⟩:=zn h
             refine ht_pick [3,0,1,2,4,5,6,7] rfl rfl ?_
             refine ht_open 405 0 (fun rb20 rn20 rc20=>[.v (.slice (some ⟨rb20, 0, none⟩) rn20 rc20), .v (.int .i64 v1.Packs), .fl (.own 3) 1 (map (int .i64) v1.Sent), .fl (.own 5) 1 (map (int .u8) v1.Part), .v (.int .i64 v1.Of), .fl (.own 3) 1 (map (int .i64) v1.Done)]) (zl rfl) rfl (fun _ _ _=>rfl) (ics_pos T_Item.ilen (by decide) hv55) fun rb20 rn20 rc20 rl20 => ?_
             refine ht_anyR (by kernel_rfl) hn (El:=(_::_::_::_::_::_::_::_::_::(143,.ptr 6 0)::(144,.v (.slice (some ⟨rb20,0,none⟩) rn20 rc20))::(145,.ptr 3 10)::(146,fi p_r.Ids)::(147,vi s1096)::(148,.eref (.slot 146) (v48 * 1))::(149,vi v49)::(150,vi v50)::(151,.ptr 6 0)::(152,.v (.slice (some ⟨rb20,0,none⟩) rn20 rc20))::(153,.ptr 3 10)::(154,fi p_r.Ids)::(155,vi s1096)::(156,.eref (.slot 154) (v51 * 1))::(157,vi v52)::(158,vi v53)::(159,.ptr 3 12)::(160,vi p_r.Number)::(161,.v (.pointer (some ⟨rb20,(v54 * 11),none⟩)))::(162,.v (.pointer (some ⟨rb20,(v54 * 11+9),none⟩)))::(405,.inv (rowJ 74 false 11 (flatten (map T_Item.ienc v56)) rb20 rn20 rc20))::(163,.v (.pointer (some ⟨rb20,(v57 * 11),none⟩)))::(164,.v (.pointer (some ⟨rb20,(v57 * 11+10),none⟩)))::(405,.inv (rowJ 74 false 11 (flatten (map T_Item.ienc v59)) rb20 rn20 rc20))::[])) (init:=[0,1,2,3,4,5,6,7,8]) (fin:=[0,32,2,3,4,5,6,7]) (sps:=(zq [0] 9 143::zq [9,0] 10 144::zq [3] 11 145::zq [11,3] 12 146::zq [6] 13 147::zq [12,13] 14 148::zq [14,12] 15 149::zq [15] 16 150::zq [0] 17 151::zq [17,0] 18 152::zq [3] 19 153::zq [19,3] 20 154::zq [6] 21 155::zq [20,21] 22 156::zq [22,20] 23 157::zq [23] 24 158::zq [3] 25 159::zq [25,3] 26 160::zq [10,16] 27 161::zq [27] 28 162::⟨[28],[1],[29],[]⟩::zq [18,24] 30 163::zq [30] 31 164::⟨[31,26],[29],[32],[]⟩::[])) (es':=[(_,_),(405,.inv (rowJ 74 false 11 (flatten (map T_Item.ienc v59)) rb20 rn20 rc20)),(_,_),(_,_),(_,_),(_,_),(_,_),(_,_)]) (by kernel_rfl) rfl rfl ⟨zp rfl (oF underlying44 rfl sz41),zp rfl (oL underlying41 rfl),zp rfl (oF underlying57 rfl sz42),zp rfl (oL underlying42 rfl),z1 rfl,zp rfl (op_ix _ _ _ _ _ _ _ _ underlying42 sz3 (by decide) rfl rfl rfl (ix_ok hv48).1 (map_lt (ix_ok hv48).2) rfl),zp rfl (op_load_e _ _ _ _ _ _ underlying3 rfl rfl rfl (map_get hv49)),zp rfl (oB rfl (ibind (f:=int .i64) (Option.some.inj hv50))),zp rfl (oF underlying44 rfl sz41),zp rfl (oL underlying41 rfl),zp rfl (oF underlying57 rfl sz42),zp rfl (oL underlying42 rfl),z1 rfl,zp rfl (op_ix _ _ _ _ _ _ _ _ underlying42 sz3 (by decide) rfl rfl rfl (ix_ok hv51).1 (map_lt (ix_ok hv51).2) rfl),zp rfl (op_load_e _ _ _ _ _ _ underlying3 rfl rfl rfl (map_get hv52)),zp rfl (oB rfl (ibind (f:=int .i64) (Option.some.inj hv53))),zp rfl (oF underlying57 rfl sz3),zp rfl (oL underlying3 rfl),zp rfl (op_ix_val _ _ _ _ _ rb20 rn20 rc20 _ _ underlying41 sz74 rfl rfl (ix_ok hv54).1 (ics_lt rl20 (gflat_len T_Item.ilen _) (by decide) (ix_ok hv54).2)),zp rfl (op_fieldAddr_v _ _ _ _ rb20 (v54 * 11) _ underlying74 rfl sz3 rfl rfl),zp rfl (op_store_row _ _ _ 405 rb20 rn20 rc20 _ 1 _ sz3 rfl rfl rfl (by decide) (gflat_fit (q:=9) (s:=1) T_Item.ilen hv55 (by decide)) ((gflat_setc (q:=9) (s:=1) (y:=(T_Item.mk v55.Id ((T_Mail.mk (T_Path.mk v55.Mail.From.Null v55.Mail.From.Local v55.Mail.From.Domain) v55.Mail.To v55.Mail.Body v55.Mail.Quiet v55.Mail.Helo v55.Mail.At)) 2 v55.Pack)) T_Item.ilen hv55 rfl (by decide)).trans (congrArg (fun l=>flatten (map T_Item.ienc l)) (Option.some.inj hv56)))),zp rfl (op_ix_val _ _ _ _ _ rb20 rn20 rc20 _ _ underlying41 sz74 rfl rfl (ix_ok hv57).1 (ics_lt rl20 (gflat_len T_Item.ilen _) (by decide) (ix_ok hv57).2)),zp rfl (op_fieldAddr_v _ _ _ _ rb20 (v57 * 11) _ underlying74 rfl sz3 rfl rfl),zp rfl (op_store_row _ _ _ 405 rb20 rn20 rc20 _ 1 _ sz3 rfl rfl rfl (by decide) (gflat_fit (q:=10) (s:=1) T_Item.ilen hv58 (by decide)) ((gflat_setc (q:=10) (s:=1) (y:=(T_Item.mk v58.Id ((T_Mail.mk (T_Path.mk v58.Mail.From.Null v58.Mail.From.Local v58.Mail.From.Domain) v58.Mail.To v58.Mail.Body v58.Mail.Quiet v58.Mail.Helo v58.Mail.At)) v58.State p_r.Number)) T_Item.ilen hv58 rfl (by decide)).trans (congrArg (fun l=>flatten (map T_Item.ienc l)) (Option.some.inj hv59)))),zz⟩ ?_
             refine pt_close 0 [.fr (.own 74) false 11 (flatten (map T_Item.ienc v59)), .v (.int .i64 v1.Packs), .fl (.own 3) 1 (map (int .i64) v1.Sent), .fl (.own 5) 1 (map (int .u8) v1.Part), .v (.int .i64 v1.Of), .fl (.own 3) 1 (map (int .i64) v1.Done)] (zl rfl) rfl rfl ?_
             refine pt_inb ?_
             exact hl1138 _ (zi h).symm
            ·have h:=cond_f hb1144 h
             refine ht_skip ?_
             refine pt_inb ?_
             refine pt_pick [3,0,1,2,4,5,6] (by kernel_rfl) (es':=[(_,_),(_,_),(_,_),(_,_),(_,_),(_,_),(_,_)]) rfl ?_
             exact hl1138 _ (zi h).symm
           ·intro u1141 h hl1142 hr1143
            obtain ⟨v30, hv30, h⟩:=zn h
            obtain ⟨v31, hv31, h⟩:=zn h
            obtain ⟨v32, hv32, h⟩:=zn h
            refine cond_some h (fun hg18_9 h => ?_) (fun hg18_9 h => ?_)
            ·obtain ⟨v33, hv33, h⟩:=zn h
             obtain ⟨v34, hv34, h⟩:=zn h
             obtain ⟨v35, hv35, h⟩:=zn h
             obtain ⟨v36, hv36, h⟩:=zn h
             obtain ⟨v37, hv37, h⟩:=zn h
             refine cond_some h (fun hg18_23 h => ?_) (fun hg18_23 h => ?_)
             ·refine cond_some h (fun hg18_26 h => ?_) (fun hg18_26 h => ?_)
              ·refine wb [[3],[101,3],[10]] ?_
               refine wN [102,103] ?_
               refine wo [] ⟨li hv30⟩ ?_
               refine wN [104,102] ?_
               refine wo [[2],[106,2],[107]] ⟨ll hv31⟩ ?_
               refine wN [105,108] ?_
               refine wo [[109]] ⟨lk call43 (ok_wherryref18_in _ _ _ _ hv32)⟩ ?_
               refine wd hg18_9 [[110,2],[110,111,2],[110,3],[110,113,3],[110,10]] ?_
               refine wN [110,114,115] ?_
               refine wo [] ⟨li hv33⟩ ?_
               refine wN [110,116,114] ?_
               refine wo [] ⟨ll hv34⟩ ?_
               refine wN [110,117] ?_
               refine wo [] ⟨lb hv35⟩ ?_
               refine wN [110,112,118] ?_
               refine wo [[110,119,112]] ⟨lI hv36⟩ ?_
               refine wN [110,120,112] ?_
               refine wS (vi v37.State) [[110,121],[110,122],[123]] ⟨op_load_fr _ _ _ _ _ _ _ underlying3 rfl rfl rfl (gflat_cell T_Item.ilen hv37 rfl) (.v _)⟩ ?_
               refine wd hg18_23 [[124,10],[124,125],[124,126]] ?_
               refine wd hg18_26 [[127],[127],[127],[127],[127],[127],[127],[127],[127],[127],[127],[127],[124,127],[124,140]] ?_
               refine wK [8] [141] ?_
               refine wt [(8,vb true)] [] ⟨LOp.drop [_] (op_assign _ _ _ _ rfl rfl)⟩ ?_
               refine we hn [2,3,4,6,7,10,8] ?_
               exact hl1142 _ (zi h).symm
              ·obtain ⟨v38, hv38, h⟩:=zn h
               obtain ⟨v39, hv39, h⟩:=zn h
               obtain ⟨v40, hv40, h⟩:=zn h
               obtain ⟨v41, hv41, h⟩:=zn h
               obtain ⟨v42, hv42, h⟩:=zn h
               refine wb [[3],[101,3],[10]] ?_
               refine wN [102,103] ?_
               refine wo [] ⟨li hv30⟩ ?_
               refine wN [104,102] ?_
               refine wo [[2],[106,2],[107]] ⟨ll hv31⟩ ?_
               refine wN [105,108] ?_
               refine wo [[109]] ⟨lk call43 (ok_wherryref18_in _ _ _ _ hv32)⟩ ?_
               refine wd hg18_9 [[110,2],[110,111,2],[110,3],[110,113,3],[110,10]] ?_
               refine wN [110,114,115] ?_
               refine wo [] ⟨li hv33⟩ ?_
               refine wN [110,116,114] ?_
               refine wo [] ⟨ll hv34⟩ ?_
               refine wN [110,117] ?_
               refine wo [] ⟨lb hv35⟩ ?_
               refine wN [110,112,118] ?_
               refine wo [[110,119,112]] ⟨lI hv36⟩ ?_
               refine wN [110,120,112] ?_
               refine wS (vi v37.State) [[110,121],[110,122],[123]] ⟨op_load_fr _ _ _ _ _ _ _ underlying3 rfl rfl rfl (gflat_cell T_Item.ilen hv37 rfl) (.v _)⟩ ?_
               refine wd hg18_23 [[124,10],[124,125],[124,126]] ?_
               refine wd hg18_26 [[127,3],[127,128,3],[127,10]] ?_
               refine wN [127,129,130] ?_
               refine wo [] ⟨li hv38⟩ ?_
               refine wN [127,131,129] ?_
               refine wo [[127,3],[127,133,3],[127,10]] ⟨ll hv39⟩ ?_
               refine wN [127,135] ?_
               refine wo [] ⟨lb hv40⟩ ?_
               refine wN [127,134,136] ?_
               refine wo [] ⟨li hv41⟩ ?_
               refine wN [127,137,134] ?_
               refine wo [[127,132,138],[124,127,139],[124,140]] ⟨ll hv42⟩ ?_
               refine wK [8] [141] ?_
               refine wt [(8,vb (decide (v42<v39)))] [] ⟨LOp.drop [_] (op_assign _ _ _ _ rfl rfl)⟩ ?_
               refine we hn [2,3,4,6,7,10,8] ?_
               exact hl1142 _ (zi h).symm
             ·refine wb [[3],[101,3],[10]] ?_
              refine wN [102,103] ?_
              refine wo [] ⟨li hv30⟩ ?_
              refine wN [104,102] ?_
              refine wo [[2],[106,2],[107]] ⟨ll hv31⟩ ?_
              refine wN [105,108] ?_
              refine wo [[109]] ⟨lk call43 (ok_wherryref18_in _ _ _ _ hv32)⟩ ?_
              refine wd hg18_9 [[110,2],[110,111,2],[110,3],[110,113,3],[110,10]] ?_
              refine wN [110,114,115] ?_
              refine wo [] ⟨li hv33⟩ ?_
              refine wN [110,116,114] ?_
              refine wo [] ⟨ll hv34⟩ ?_
              refine wN [110,117] ?_
              refine wo [] ⟨lb hv35⟩ ?_
              refine wN [110,112,118] ?_
              refine wo [[110,119,112]] ⟨lI hv36⟩ ?_
              refine wN [110,120,112] ?_
              refine wS (vi v37.State) [[110,121],[110,122],[123]] ⟨op_load_fr _ _ _ _ _ _ _ underlying3 rfl rfl rfl (gflat_cell T_Item.ilen hv37 rfl) (.v _)⟩ ?_
              refine wd hg18_23 [[124],[124],[124],[127],[127],[127],[127],[127],[127],[127],[127],[127],[127],[127],[127],[124],[124]] ?_
              refine wK [8] [141] ?_
              refine wt [(8,vb false)] [] ⟨LOp.drop [_] (op_assign _ _ _ _ rfl rfl)⟩ ?_
              refine we hn [2,3,4,6,7,10,8] ?_
              exact hl1142 _ (zi h).symm
            ·refine wb [[3],[101,3],[10]] ?_
             refine wN [102,103] ?_
             refine wo [] ⟨li hv30⟩ ?_
             refine wN [104,102] ?_
             refine wo [[2],[106,2],[107]] ⟨ll hv31⟩ ?_
             refine wN [105,108] ?_
             refine wo [[109]] ⟨lk call43 (ok_wherryref18_in _ _ _ _ hv32)⟩ ?_
             refine wd hg18_9 [[110],[110],[110],[110],[110],[110],[110],[110],[110],[110],[110],[110],[110],[123],[124],[124],[124],[127],[127],[127],[127],[127],[127],[127],[127],[127],[127],[127],[127],[124],[124]] ?_
             refine wK [8] [141] ?_
             refine wt [(8,vb false)] [] ⟨LOp.drop [_] (op_assign _ _ _ _ rfl rfl)⟩ ?_
             refine we hn [2,3,4,6,7,10,8] ?_
             exact hl1142 _ (zi h).symm
         ·have h:=cond_f hb1129 h
          refine ht_exit ?_
          refine pt_x_then ?_
          refine pt_x_then ?_
          refine pt_x_in ?_
          refine pt_pick [1,2,3,4,5] (by kernel_rfl) (es':=[(_,_),(_,_),(_,_),(_,_),(_,_)]) rfl ?_
          exact hl1120 _ (ho1122 _ (zi h).symm).symm
        ·intro u1126 h hl1127 hr1128
         refine cond_some h (fun hg16_5 h => ?_) (fun hg16_5 h => ?_)
         ·refine yx hn 6 ?_
          refine yd hg16_5 2 ?_
          refine ye [2,3,4,6,7,8,10,98] ?_
          exact hl1127 _ (zi h).symm
         ·refine yx hn 6 ?_
          refine yd hg16_5 2 ?_
          refine ye [2,3,4,6,7,8,10,98] ?_
          exact hl1127 _ (zi h).symm
      ·intro u1048 h hl1049 hr1050
       obtain ⟨v19, hv19, h⟩:=zn h
       refine cond_some h (fun hg14_6 h => ?_) (fun hg14_6 h => ?_)
       ·obtain ⟨v20, hv20, h⟩:=zn h
        refine yx hn 4 ?_
        refine ys 2 ⟨lb hv19⟩ ?_
        refine yd hg14_6 3 ?_
        refine ys 2 ⟨lk call43 (ok_wherryref18_in _ _ _ _ hv20)⟩ ?_
        refine ye [2,3,4,6,7,8] ?_
        exact hl1049 _ (zi h).symm
       ·refine yx hn 4 ?_
        refine ys 2 ⟨lb hv19⟩ ?_
        refine yd hg14_6 6 ?_
        refine ye [2,3,4,6,7,8] ?_
        exact hl1049 _ (zi h).symm
     ·have h:=cond_f hb1046 h
      refine yyy hn 2 [2,3,4,6,7,8,21,168] ?_
      refine ht_cond _ rfl (fun hb1145 => ?_) (fun hb1145 => ?_)
      ·have h:=cond_t hb1145 h
       refine yyy hn 4 [2,3,4,6,7] ?_
       refine ht_seq ?_
       refine ht_joinS h (fun (s1146:Bool)=>[(3,.box 57 (T_Rec.c p_r [])),(4,.box 44 [vz,vi 0,vz,vz,vi 0,vz]),(6,.box 44 [.fr (.own 74) false 11 (flatten (map T_Item.ienc v1.Items)),vi v1.Packs,.fl (.own 3) 1 (map (int .i64) v1.Sent),.fl (.own 5) 1 (map (int .u8) v1.Part),vi v1.Of,.fl (.own 3) 1 (map (int .i64) v1.Done)]),(7,.box 57 [vi p_r.Kind,vb false,vs z0,vs z0,vz,vz,vb false,vs z0,vi 0,vi 0,vz,vi 0,vi p_r.Number,vi 0,vz]),(8,vb s1146)]) ?_ ?_
       ·rintro s1146 h
        refine pt_then (ht_seq ?_)
        refine yyy hn 1 [3,4,6,7,8,11] ?_
        refine ht_loopS h (fun ((s1182,s1183):(List T_Item)×Int)=>[(3,.box 57 (T_Rec.c p_r [])),(4,.box 44 [vz,vi 0,vz,vz,vi 0,vz]),(6,.box 44 [.fr (.own 74) false 11 (flatten (map T_Item.ienc s1182)),vi v1.Packs,.fl (.own 3) 1 (map (int .i64) v1.Sent),.fl (.own 5) 1 (map (int .u8) v1.Part),vi v1.Of,.fl (.own 3) 1 (map (int .i64) v1.Done)]),(7,.box 57 [vi p_r.Kind,vb false,vs z0,vs z0,vz,vz,vb false,vs z0,vi 0,vi 0,vz,vi 0,vi p_r.Number,vi 0,vz]),(8,vb s1146),(11,vi s1183)]) (fun (s1199:(List T_Item))=>[(3,.box 57 (T_Rec.c p_r [])),(4,.box 44 [vz,vi 0,vz,vz,vi 0,vz]),(6,.box 44 [.fr (.own 74) false 11 (flatten (map T_Item.ienc s1199)),vi v1.Packs,.fl (.own 3) 1 (map (int .i64) v1.Sent),.fl (.own 5) 1 (map (int .u8) v1.Part),vi v1.Of,.fl (.own 3) 1 (map (int .i64) v1.Done)]),(7,.box 57 [vi p_r.Kind,vb false,vs z0,vs z0,vz,vz,vb false,vs z0,vi 0,vi 0,vz,vi 0,vi p_r.Number,vi 0,vz]),(8,vb s1146)]) ?_ ?_
        ·rintro s1199 h
         refine pt_then ?_
         obtain ⟨v231, hv231, h⟩:=zn h
         refine yx hn 4 ?_
         refine yS (.fl (.own 3) 1 (map (int .i64) [p_r.Number])) 0 ⟨op_buildSlice _ _ 1 (.int .i64 0) (map (int .i64) [p_r.Number]) [(0,.int .i64 p_r.Number)] underlying42 sz3 zr3 (fun _ V w o a hv hes=>by have e0:=rd_v hv hes (x := .tmp 219) rfl; simp only [List.map_toArray,List.map_cons,List.map_nil,e0]; try rfl) (litfill (by simp [Instr.fill,Value.cells]; rfl) (by simp [List.range,List.range.loop] <;> rfl)) (by simp [Value.oneCell']) rfl (by decide) (by decide) (by decide)⟩ ?_
         refine yk [6] [217,220] ?_
         refine ytt (6,.box 44 [.fr (.own 74) false 11 (flatten (map T_Item.ienc s1199)),vi v1.Packs,.any,.fl (.own 5) 1 (map (int .u8) v1.Part),vi v1.Of,.fl (.own 3) 1 (map (int .i64) v1.Done)]) (221,.fl (.own 3) 1 (map (int .i64) v231)) 1 ⟨op_app_cell _ _ _ _ _ _ el42 rfl rfl (zl rfl) rfl (map_len _) (map_len _) hv231 ((List.map_append).symm.trans (congrArg (map _) (app_eq hv231))) (Nat.ne_of_beq_eq_false rfl) rfl rfl⟩ ?_
         refine yw [217] 0 ?_
         refine yk [221,6] [222] ?_
         refine yt (6,.box 44 [.fr (.own 74) false 11 (flatten (map T_Item.ienc s1199)),vi v1.Packs,.fl (.own 3) 1 (map (int .i64) v231),.fl (.own 5) 1 (map (int .u8) v1.Part),vi v1.Of,.fl (.own 3) 1 (map (int .i64) v1.Done)]) 0 ⟨op_store_take _ _ _ _ _ _ _ _ sz42 rfl rfl rfl (zl rfl) rfl rfl⟩ ?_
         refine ye [3,4,6,7,8] ?_
         refine pt_inb ?_
         refine pt_sub (fs:=[(3,.box 57 (T_Rec.c p_r [])),(4,.box 44 [vz,vi 0,vz,vz,vi 0,vz]),(6,.box 44 [.fr (.own 74) false 11 (flatten (map T_Item.ienc s1199)),vi v1.Packs,.fl (.own 3) 1 (map (int .i64) v231),.fl (.own 5) 1 (map (int .u8) v1.Part),vi v1.Of,.fl (.own 3) 1 (map (int .i64) v1.Done)]),(7,.box 57 [vi p_r.Kind,vb false,vs z0,vs z0,.fl .shr 3 (flatten (map T_Path.enc [])),fb [],vb false,vs z0,vi 0,vi 0,fi [],vi 0,vi p_r.Number,vi 0,fb []]),(8,vb s1146)]) (.same _ (.same _ (.same _ (.box _ _ (subs_cons (sub_refl _) (subs_cons (sub_refl _) (subs_cons (sub_refl _) (subs_cons (sub_refl _) (subs_cons (sub_nil_shr 3) (subs_cons (sub_nil_shr 1) (subs_cons (sub_refl _) (subs_cons (sub_refl _) (subs_cons (sub_refl _) (subs_cons (sub_refl _) (subs_cons (sub_nil_shr 1) (subs_cons (sub_refl _) (subs_cons (sub_refl _) (subs_cons (sub_refl _) (subs_cons (sub_nil_shr 1) (subs_nil)))))))))))))))) rfl (.same _ .nil))))) ?_
         exact hl1033 _ (zi h).symm
        ·rintro u1200 hl1201 hr1202 ⟨s1182, s1183⟩ rr1205 h ho1203
         refine ht_seq ?_
         refine yyy hn 5 [3,4,6,7,8,11,190] ?_
         refine ht_cond _ rfl (fun hb1206 => ?_) (fun hb1206 => ?_)
         ·have h:=cond_t hb1206 h
          refine ht_skip ?_
          refine pt_then (ht_seq ?_)
          refine ht_joinS h (fun (s1212:(List T_Item))=>[(3,.box 57 (T_Rec.c p_r [])),(4,.box 44 [vz,vi 0,vz,vz,vi 0,vz]),(6,.box 44 [.fr (.own 74) false 11 (flatten (map T_Item.ienc s1212)),vi v1.Packs,.fl (.own 3) 1 (map (int .i64) v1.Sent),.fl (.own 5) 1 (map (int .u8) v1.Part),vi v1.Of,.fl (.own 3) 1 (map (int .i64) v1.Done)]),(7,.box 57 [vi p_r.Kind,vb false,vs z0,vs z0,vz,vz,vb false,vs z0,vi 0,vi 0,vz,vi 0,vi p_r.Number,vi 0,vz]),(8,vb s1146),(11,vi s1183)]) ?_ ?_
          ·rintro s1212 h
           refine pt_then ?_
           obtain ⟨v174, hv174, h⟩:=zn h
           refine yx hn 1 ?_
           refine ys 0 ⟨lb hv174⟩ ?_
           refine yw [11] 1 ?_
           refine ye [3,4,6,7,8,11] ?_
           exact pt_next _ (zi h).symm rfl
          ·intro u1213 h hl1214 hr1215
           refine ht_block ?_
           refine ht_seq ?_
           refine ht_joinS h (fun (s1216:Bool)=>[(3,.box 57 (T_Rec.c p_r [])),(4,.box 44 [vz,vi 0,vz,vz,vi 0,vz]),(6,.box 44 [.fr (.own 74) false 11 (flatten (map T_Item.ienc s1182)),vi v1.Packs,.fl (.own 3) 1 (map (int .i64) v1.Sent),.fl (.own 5) 1 (map (int .u8) v1.Part),vi v1.Of,.fl (.own 3) 1 (map (int .i64) v1.Done)]),(7,.box 57 [vi p_r.Kind,vb false,vs z0,vs z0,vz,vz,vb false,vs z0,vi 0,vi 0,vz,vi 0,vi p_r.Number,vi 0,vz]),(8,vb s1146),(11,vi s1183),(210,vb s1216)]) ?_ ?_
           ·rintro s1216 h
            refine pt_then ?_
            refine ht_cond _ rfl (fun hb1220 => ?_) (fun hb1220 => ?_)
            ·have h:=cond_t hb1220 h
             obtain ⟨v162, hv162, h⟩:=zn h
             obtain ⟨v163, hv163, h⟩:=zn h
             obtain ⟨v164, hv164, h⟩:=zn h
             refine yx hn 3 ?_
             refine ys 1 ⟨lI hv162⟩ ?_
             refine yk [6] [215] ?_
             refine yt (6,.box 44 [.fr (.own 74) false 11 (flatten (map T_Item.ienc v164)),vi v1.Packs,.fl (.own 3) 1 (map (int .i64) v1.Sent),.fl (.own 5) 1 (map (int .u8) v1.Part),vi v1.Of,.fl (.own 3) 1 (map (int .i64) v1.Done)]) 0 ⟨op_store_fr_cell _ _ _ 6 0 _ 1 _ sz3 rfl rfl (zl rfl) rfl rfl (by decide) (gflat_fit (q:=9) (s:=1) T_Item.ilen hv163 (by decide)) ((gflat_setc (q:=9) (s:=1) (y:=(T_Item.mk v163.Id ((T_Mail.mk (T_Path.mk v163.Mail.From.Null v163.Mail.From.Local v163.Mail.From.Domain) v163.Mail.To v163.Mail.Body v163.Mail.Quiet v163.Mail.Helo v163.Mail.At)) 3 v163.Pack)) T_Item.ilen hv163 rfl (by decide)).trans (congrArg (fun l=>flatten (map T_Item.ienc l)) (Option.some.inj hv164))) rfl⟩ ?_
             refine ye [3,4,6,7,8,11] ?_
             refine pt_inb ?_
             exact hl1214 _ (zi h).symm
            ·have h:=cond_f hb1220 h
             refine ht_skip ?_
             refine pt_inb ?_
             refine pt_pick [0,1,2,3,4,5] (by kernel_rfl) (es':=[(_,_),(_,_),(_,_),(_,_),(_,_),(_,_)]) rfl ?_
             exact hl1214 _ (zi h).symm
           ·intro u1217 h hl1218 hr1219
            obtain ⟨v153, hv153, h⟩:=zn h
            obtain ⟨v154, hv154, h⟩:=zn h
            refine cond_some h (fun hg28_9 h => ?_) (fun hg28_9 h => ?_)
            ·obtain ⟨v155, hv155, h⟩:=zn h
             obtain ⟨v156, hv156, h⟩:=zn h
             refine wb [[6],[193,6],[11]] ?_
             refine wN [194,6,195] ?_
             refine wo [[196,6]] ⟨lI hv153⟩ ?_
             refine wN [197,6] ?_
             refine wS (vi v154.Pack) [[3],[199,3],[198,200],[201]] ⟨op_load_fr _ _ _ _ _ _ _ underlying3 rfl rfl rfl (gflat_cell T_Item.ilen hv154 rfl) (.v _)⟩ ?_
             refine wd hg28_9 [[202,6],[202,203,6],[202,11]] ?_
             refine wN [202,204,6,205] ?_
             refine wo [[202,206,6]] ⟨lI hv155⟩ ?_
             refine wN [202,207,6] ?_
             refine wS (vi v156.State) [[202,208],[202,209]] ⟨op_load_fr _ _ _ _ _ _ _ underlying3 rfl rfl rfl (gflat_cell T_Item.ilen hv156 rfl) (.v _)⟩ ?_
             refine we hn [3,4,6,7,8,11,210] ?_
             exact hl1218 _ (zi h).symm
            ·refine wb [[6],[193,6],[11]] ?_
             refine wN [194,6,195] ?_
             refine wo [[196,6]] ⟨lI hv153⟩ ?_
             refine wN [197,6] ?_
             refine wS (vi v154.Pack) [[3],[199,3],[198,200],[201]] ⟨op_load_fr _ _ _ _ _ _ _ underlying3 rfl rfl rfl (gflat_cell T_Item.ilen hv154 rfl) (.v _)⟩ ?_
             refine wd hg28_9 [[202],[202],[202],[202],[202],[202],[202],[202]] ?_
             refine we hn [3,4,6,7,8,11,210] ?_
             exact hl1218 _ (zi h).symm
         ·have h:=cond_f hb1206 h
          refine ht_exit ?_
          refine pt_x_then ?_
          refine pt_x_then ?_
          refine pt_x_in ?_
          refine pt_pick [0,1,2,3,4] (by kernel_rfl) (es':=[(_,_),(_,_),(_,_),(_,_),(_,_)]) rfl ?_
          exact hl1201 _ (ho1203 _ (zi h).symm).symm
       ·intro u1147 h hl1148 hr1149
        obtain ⟨v146, hv146, h⟩:=zn h
        refine cond_some h (fun hg24_5 h => ?_) (fun hg24_5 h => ?_)
        ·obtain ⟨v147, hv147, h⟩:=zn h
         refine yx hn 4 ?_
         refine ys 1 ⟨lk call43 (ok_wherryref18_in _ _ _ _ hv146)⟩ ?_
         refine yd hg24_5 4 ?_
         refine ys 3 ⟨lk call46 (ok_wherryref18_has _ _ _ hv147)⟩ ?_
         refine ye [3,4,6,7,8] ?_
         exact hl1148 _ (zi h).symm
        ·refine yx hn 4 ?_
         refine ys 1 ⟨lk call43 (ok_wherryref18_in _ _ _ _ hv146)⟩ ?_
         refine yd hg24_5 8 ?_
         refine ye [3,4,6,7,8] ?_
         exact hl1148 _ (zi h).symm
      ·have h:=cond_f hb1145 h
       refine yyy hn 2 [2,3,4,6,7,8,21,223] ?_
       refine ht_cond _ rfl (fun hb1221 => ?_) (fun hb1221 => ?_)
       ·have h:=cond_t hb1221 h
        refine yyy hn 4 [2,3,4,6,7] ?_
        refine ht_seq ?_
        refine ht_joinS h (fun (s1222:Bool)=>[(3,.box 57 (T_Rec.c p_r [])),(4,.box 44 [vz,vi 0,vz,vz,vi 0,vz]),(6,.box 44 [.fr (.own 74) false 11 (flatten (map T_Item.ienc v1.Items)),vi v1.Packs,.fl (.own 3) 1 (map (int .i64) v1.Sent),.fl (.own 5) 1 (map (int .u8) v1.Part),vi v1.Of,.fl (.own 3) 1 (map (int .i64) v1.Done)]),(7,.box 57 [vi p_r.Kind,vb false,vs z0,vs z0,vz,vz,vb false,vs z0,vi 0,vi p_r.Id,vz,vi 0,vi 0,vi 0,vz]),(8,vb s1222)]) ?_ ?_
        ·rintro s1222 h
         refine pt_then ?_
         refine yyy hn 1 [3,4,6,7,8,245] ?_
         refine ht_cond _ rfl (fun hb1226 => ?_) (fun hb1226 => ?_)
         ·have h:=cond_t hb1226 h
          obtain ⟨v242, hv242, h⟩:=zn h
          obtain ⟨v243, hv243, h⟩:=zn h
          obtain ⟨v244, hv244, h⟩:=zn h
          obtain ⟨v245, hv245, h⟩:=zn h
          refine yx hn 4 ?_
          refine ys 0 ⟨lb hv242⟩ ?_
          refine ys 1 ⟨lI hv243⟩ ?_
          refine yk [6] [252] ?_
          refine yt (6,.box 44 [.fr (.own 74) false 11 (flatten (map T_Item.ienc v245)),vi v1.Packs,.fl (.own 3) 1 (map (int .i64) v1.Sent),.fl (.own 5) 1 (map (int .u8) v1.Part),vi v1.Of,.fl (.own 3) 1 (map (int .i64) v1.Done)]) 0 ⟨op_store_fr_cell _ _ _ 6 0 _ 1 _ sz3 rfl rfl (zl rfl) rfl rfl (by decide) (gflat_fit (q:=9) (s:=1) T_Item.ilen hv244 (by decide)) ((gflat_setc (q:=9) (s:=1) (y:=(T_Item.mk v244.Id ((T_Mail.mk (T_Path.mk v244.Mail.From.Null v244.Mail.From.Local v244.Mail.From.Domain) v244.Mail.To v244.Mail.Body v244.Mail.Quiet v244.Mail.Helo v244.Mail.At)) 4 v244.Pack)) T_Item.ilen hv244 rfl (by decide)).trans (congrArg (fun l=>flatten (map T_Item.ienc l)) (Option.some.inj hv245))) rfl⟩ ?_
          refine ye [3,4,6,7,8] ?_
          refine pt_inb ?_
          refine pt_sub (fs:=[(3,.box 57 (T_Rec.c p_r [])),(4,.box 44 [vz,vi 0,vz,vz,vi 0,vz]),(6,.box 44 [.fr (.own 74) false 11 (flatten (map T_Item.ienc v245)),vi v1.Packs,.fl (.own 3) 1 (map (int .i64) v1.Sent),.fl (.own 5) 1 (map (int .u8) v1.Part),vi v1.Of,.fl (.own 3) 1 (map (int .i64) v1.Done)]),(7,.box 57 [vi p_r.Kind,vb false,vs z0,vs z0,.fl .shr 3 (flatten (map T_Path.enc [])),fb [],vb false,vs z0,vi 0,vi p_r.Id,fi [],vi 0,vi 0,vi 0,fb []]),(8,vb s1222)]) (.same _ (.same _ (.same _ (.box _ _ (subs_cons (sub_refl _) (subs_cons (sub_refl _) (subs_cons (sub_refl _) (subs_cons (sub_refl _) (subs_cons (sub_nil_shr 3) (subs_cons (sub_nil_shr 1) (subs_cons (sub_refl _) (subs_cons (sub_refl _) (subs_cons (sub_refl _) (subs_cons (sub_refl _) (subs_cons (sub_nil_shr 1) (subs_cons (sub_refl _) (subs_cons (sub_refl _) (subs_cons (sub_refl _) (subs_cons (sub_nil_shr 1) (subs_nil)))))))))))))))) rfl (.same _ .nil))))) ?_
          exact hl1033 _ (zi h).symm
         ·have h:=cond_f hb1226 h
          refine ht_skip ?_
          refine pt_inb ?_
          refine pt_pick [0,1,2,3,4] (by kernel_rfl) (es':=[(_,_),(_,_),(_,_),(_,_),(_,_)]) rfl ?_
          refine pt_sub (fs:=[(3,.box 57 (T_Rec.c p_r [])),(4,.box 44 [vz,vi 0,vz,vz,vi 0,vz]),(6,.box 44 [.fr (.own 74) false 11 (flatten (map T_Item.ienc v1.Items)),vi v1.Packs,.fl (.own 3) 1 (map (int .i64) v1.Sent),.fl (.own 5) 1 (map (int .u8) v1.Part),vi v1.Of,.fl (.own 3) 1 (map (int .i64) v1.Done)]),(7,.box 57 [vi p_r.Kind,vb false,vs z0,vs z0,.fl .shr 3 (flatten (map T_Path.enc [])),fb [],vb false,vs z0,vi 0,vi p_r.Id,fi [],vi 0,vi 0,vi 0,fb []]),(8,vb s1222)]) (.same _ (.same _ (.same _ (.box _ _ (subs_cons (sub_refl _) (subs_cons (sub_refl _) (subs_cons (sub_refl _) (subs_cons (sub_refl _) (subs_cons (sub_nil_shr 3) (subs_cons (sub_nil_shr 1) (subs_cons (sub_refl _) (subs_cons (sub_refl _) (subs_cons (sub_refl _) (subs_cons (sub_refl _) (subs_cons (sub_nil_shr 1) (subs_cons (sub_refl _) (subs_cons (sub_refl _) (subs_cons (sub_refl _) (subs_cons (sub_nil_shr 1) (subs_nil)))))))))))))))) rfl (.same _ .nil))))) ?_
          exact hl1033 _ (zi h).symm
        ·intro u1223 h hl1224 hr1225
         obtain ⟨v233, hv233, h⟩:=zn h
         refine cond_some h (fun hg33_6 h => ?_) (fun hg33_6 h => ?_)
         ·obtain ⟨v234, hv234, h⟩:=zn h
          obtain ⟨v235, hv235, h⟩:=zn h
          obtain ⟨v236, hv236, h⟩:=zn h
          refine yx hn 5 ?_
          refine ys 1 ⟨lk call43 (ok_wherryref18_in _ _ _ _ hv233)⟩ ?_
          refine yd hg33_6 4 ?_
          refine ys 0 ⟨lb hv234⟩ ?_
          refine ys 1 ⟨lI hv235⟩ ?_
          refine yS (vi v236.State) 3 ⟨op_load_fr _ _ _ _ _ _ _ underlying3 rfl rfl rfl (gflat_cell T_Item.ilen hv236 rfl) (.v _)⟩ ?_
          refine ye [3,4,6,7,8] ?_
          exact hl1224 _ (zi h).symm
         ·refine yx hn 5 ?_
          refine ys 1 ⟨lk call43 (ok_wherryref18_in _ _ _ _ hv233)⟩ ?_
          refine yd hg33_6 11 ?_
          refine ye [3,4,6,7,8] ?_
          exact hl1224 _ (zi h).symm
       ·have h:=cond_f hb1221 h
        refine yyy hn 2 [2,3,4,6,7,8,21,253] ?_
        refine ht_cond _ rfl (fun hb1227 => ?_) (fun hb1227 => ?_)
        ·have h:=cond_t hb1227 h
         refine ht_seq ?_
         refine wb [[3],[255,3],[3],[257,3],[3],[259,3],[7]] ?_
         refine wK [7] [261,256] ?_
         refine wt [(7,.box 57 [vi p_r.Kind,vb false,vs z0,vs z0,vz,vz,vb false,vs z0,vi 0,vi 0,vz,vi 0,vi p_r.Number,vi 0,vz])] [[7]] ⟨op_store _ _ _ _ _ _ _ _ sz3 rfl rfl rfl rfl (zl rfl) rfl rfl⟩ ?_
         refine wK [7] [262,258] ?_
         refine wt [(7,.box 57 [vi p_r.Kind,vb false,vs z0,vs z0,vz,vz,vb false,vs z0,vi 0,vi 0,vz,vi 0,vi p_r.Number,vi p_r.Offset,vz])] [[7]] ⟨op_store _ _ _ _ _ _ _ _ sz3 rfl rfl rfl rfl (zl rfl) rfl rfl⟩ ?_
         refine wK [7] [263,260] ?_
         refine wt [(7,.box 57 [vi p_r.Kind,vb false,vs z0,vs z0,vz,vz,vb false,vs z0,vi 0,vi 0,vz,vi 0,vi p_r.Number,vi p_r.Offset,fb p_r.Data])] [] ⟨op_store _ _ _ _ _ _ _ _ sz25 rfl rfl rfl rfl (zl rfl) rfl rfl⟩ ?_
         refine wee hn [2,3,4,6,7] ?_
         refine ht_seq ?_
         refine ht_joinS h (fun (s1228:Bool)=>[(3,.box 57 (T_Rec.c p_r [])),(4,.box 44 [vz,vi 0,vz,vz,vi 0,vz]),(6,.box 44 [.fr (.own 74) false 11 (flatten (map T_Item.ienc v1.Items)),vi v1.Packs,.fl (.own 3) 1 (map (int .i64) v1.Sent),.fl (.own 5) 1 (map (int .u8) v1.Part),vi v1.Of,.fl (.own 3) 1 (map (int .i64) v1.Done)]),(7,.box 57 [vi p_r.Kind,vb false,vs z0,vs z0,vz,vz,vb false,vs z0,vi 0,vi 0,vz,vi 0,vi p_r.Number,vi p_r.Offset,fb p_r.Data]),(8,vb s1228)]) ?_ ?_
         ·rintro s1228 h
          refine pt_then (ht_seq ?_)
          refine ht_joinS h (fun ((s1233,s1234):(List Int)×Int)=>[(3,.box 57 (T_Rec.c p_r [])),(4,.box 44 [vz,vi 0,vz,vz,vi 0,vz]),(6,.box 44 [.fr (.own 74) false 11 (flatten (map T_Item.ienc v1.Items)),vi v1.Packs,.fl (.own 3) 1 (map (int .i64) v1.Sent),.fl (.own 5) 1 (map (int .u8) s1233),vi s1234,.fl (.own 3) 1 (map (int .i64) v1.Done)]),(7,.box 57 [vi p_r.Kind,vb false,vs z0,vs z0,vz,vz,vb false,vs z0,vi 0,vi 0,vz,vi 0,vi p_r.Number,vi p_r.Offset,fb p_r.Data]),(8,vb s1228)]) ?_ ?_
          ·rintro ⟨s1233, s1234⟩ h
           refine pt_then ?_
           refine ht_joinS h (fun (s1239:Bool)=>[(3,.box 57 (T_Rec.c p_r [])),(4,.box 44 [vz,vi 0,vz,vz,vi 0,vz]),(6,.box 44 [.fr (.own 74) false 11 (flatten (map T_Item.ienc v1.Items)),vi v1.Packs,.fl (.own 3) 1 (map (int .i64) v1.Sent),.fl (.own 5) 1 (map (int .u8) s1233),vi s1234,.fl (.own 3) 1 (map (int .i64) v1.Done)]),(7,.box 57 [vi p_r.Kind,vb false,vs z0,vs z0,vz,vz,vb false,vs z0,vi 0,vi 0,vz,vi 0,vi p_r.Number,vi p_r.Offset,fb p_r.Data]),(8,vb s1239)]) ?_ ?_
           ·rintro s1239 h
            refine pt_inb ?_
            refine pt_sub (fs:=[(3,.box 57 (T_Rec.c p_r [])),(4,.box 44 [vz,vi 0,vz,vz,vi 0,vz]),(6,.box 44 [.fr (.own 74) false 11 (flatten (map T_Item.ienc v1.Items)),vi v1.Packs,.fl (.own 3) 1 (map (int .i64) v1.Sent),.fl (.own 5) 1 (map (int .u8) s1233),vi s1234,.fl (.own 3) 1 (map (int .i64) v1.Done)]),(7,.box 57 [vi p_r.Kind,vb false,vs z0,vs z0,.fl .shr 3 (flatten (map T_Path.enc [])),fb [],vb false,vs z0,vi 0,vi 0,fi [],vi 0,vi p_r.Number,vi p_r.Offset,fb p_r.Data]),(8,vb s1239)]) (.same _ (.same _ (.same _ (.box _ _ (subs_cons (sub_refl _) (subs_cons (sub_refl _) (subs_cons (sub_refl _) (subs_cons (sub_refl _) (subs_cons (sub_nil_shr 3) (subs_cons (sub_nil_shr 1) (subs_cons (sub_refl _) (subs_cons (sub_refl _) (subs_cons (sub_refl _) (subs_cons (sub_refl _) (subs_cons (sub_nil_shr 1) (subs_cons (sub_refl _) (subs_cons (sub_refl _) (subs_cons (sub_refl _) (subs_cons (sub_refl _) (subs_nil)))))))))))))))) rfl (.same _ .nil))))) ?_
            exact hl1033 _ (zi h).symm
           ·intro u1240 h hl1241 hr1242
            refine cond_some h (fun hg42_1 h => ?_) (fun hg42_1 h => ?_)
            ·refine yx hn 2 ?_
             refine yd hg42_1 5 ?_
             refine yw [8] 1 ?_
             refine ye [3,4,6,7,8] ?_
             exact hl1241 _ (zi h).symm
            ·refine yx hn 2 ?_
             refine yd hg42_1 5 ?_
             refine yw [8] 1 ?_
             refine ye [3,4,6,7,8] ?_
             exact hl1241 _ (zi h).symm
          ·intro u1235 h hl1236 hr1237
           refine yyy hn 3 [3,4,6,7,8,303] ?_
           refine ht_cond _ rfl (fun hb1238 => ?_) (fun hb1238 => ?_)
           ·have h:=cond_t hb1238 h
            obtain ⟨v255, hv255, h⟩:=zn h
            refine wb [[3],[304,3],[3],[306,3]] ?_
            refine wN [307] ?_
            refine wo [[6]] ⟨lk call23 (ok_wherrykeep_Twin _ _ hv255)⟩ ?_
            refine wK [6] [309,305] ?_
            refine wt [(6,.box 44 [.fr (.own 74) false 11 (flatten (map T_Item.ienc v1.Items)),vi v1.Packs,.fl (.own 3) 1 (map (int .i64) v1.Sent),.fl (.own 5) 1 (map (int .u8) v1.Part),vi p_r.Number,.fl (.own 3) 1 (map (int .i64) v1.Done)])] [[6]] ⟨op_store _ _ _ _ _ _ _ _ sz3 rfl rfl rfl rfl (zl rfl) rfl rfl⟩ ?_
            refine wK [308,6] [310] ?_
            refine wt [(6,.box 44 [.fr (.own 74) false 11 (flatten (map T_Item.ienc v1.Items)),vi v1.Packs,.fl (.own 3) 1 (map (int .i64) v1.Sent),.fl (.own 5) 1 (map (int .u8) v255),vi p_r.Number,.fl (.own 3) 1 (map (int .i64) v1.Done)])] [] ⟨op_store_take _ _ _ _ _ _ _ _ sz25 rfl rfl rfl (zl rfl) rfl rfl⟩ ?_
            refine we hn [3,4,6,7,8] ?_
            exact hl1236 _ (zi h).symm
           ·have h:=cond_f hb1238 h
            obtain ⟨v256, hv256, h⟩:=zn h
            refine yx hn 4 ?_
            refine yk [6] [312,314] ?_
            refine ytt (6,.box 44 [.fr (.own 74) false 11 (flatten (map T_Item.ienc v1.Items)),vi v1.Packs,.fl (.own 3) 1 (map (int .i64) v1.Sent),.any,vi v1.Of,.fl (.own 3) 1 (map (int .i64) v1.Done)]) (315,.fl (.own 5) 1 (map (int .u8) v256)) 1 ⟨op_app_cell _ _ _ _ _ _ el25 rfl rfl (zl rfl) rfl (map_len _) (map_len _) hv256 ((List.map_append).symm.trans (congrArg (map _) (app_eq hv256))) (Nat.ne_of_beq_eq_false rfl) rfl rfl⟩ ?_
            refine yw [312] 0 ?_
            refine yk [315,6] [316] ?_
            refine yt (6,.box 44 [.fr (.own 74) false 11 (flatten (map T_Item.ienc v1.Items)),vi v1.Packs,.fl (.own 3) 1 (map (int .i64) v1.Sent),.fl (.own 5) 1 (map (int .u8) v256),vi v1.Of,.fl (.own 3) 1 (map (int .i64) v1.Done)]) 0 ⟨op_store_take _ _ _ _ _ _ _ _ sz25 rfl rfl rfl (zl rfl) rfl rfl⟩ ?_
            refine ye [3,4,6,7,8] ?_
            exact hl1236 _ (zi h).symm
         ·intro u1229 h hl1230 hr1231
          obtain ⟨v247, hv247, h⟩:=zn h
          refine cond_some h (fun hg38_3 h => ?_) (fun hg38_3 h => ?_)
          ·obtain ⟨v248, hv248, h⟩:=zn h
           refine cond_some h (fun hg38_11 h => ?_) (fun hg38_11 h => ?_)
           ·obtain ⟨v249, hv249, h⟩:=zn h
            refine cond_some h (fun hg38_17 h => ?_) (fun hg38_17 h => ?_)
            ·refine cond_some h (fun hg38_21 h => ?_) (fun hg38_21 h => ?_)
             ·refine yx hn 2 ?_
              refine ys 1 ⟨lk call43 (ok_wherryref18_in _ _ _ _ hv247)⟩ ?_
              refine yd hg38_3 4 ?_
              refine ys 3 ⟨lk call46 (ok_wherryref18_has _ _ _ hv248)⟩ ?_
              refine yd hg38_11 3 ?_
              refine ys 2 ⟨lk call43 (ok_wherryref18_in _ _ _ _ hv249)⟩ ?_
              refine yd hg38_17 4 ?_
              refine yd hg38_21 16 ?_
              refine ye [3,4,6,7,8] ?_
              exact hl1230 _ (zi h).symm
             ·refine cond_some h (fun hg38_27 h => ?_) (fun hg38_27 h => ?_)
              ·refine yx hn 2 ?_
               refine ys 1 ⟨lk call43 (ok_wherryref18_in _ _ _ _ hv247)⟩ ?_
               refine yd hg38_3 4 ?_
               refine ys 3 ⟨lk call46 (ok_wherryref18_has _ _ _ hv248)⟩ ?_
               refine yd hg38_11 3 ?_
               refine ys 2 ⟨lk call43 (ok_wherryref18_in _ _ _ _ hv249)⟩ ?_
               refine yd hg38_17 4 ?_
               refine yd hg38_21 6 ?_
               refine yd hg38_27 10 ?_
               refine ye [3,4,6,7,8] ?_
               exact hl1230 _ (zi h).symm
              ·refine yx hn 2 ?_
               refine ys 1 ⟨lk call43 (ok_wherryref18_in _ _ _ _ hv247)⟩ ?_
               refine yd hg38_3 4 ?_
               refine ys 3 ⟨lk call46 (ok_wherryref18_has _ _ _ hv248)⟩ ?_
               refine yd hg38_11 3 ?_
               refine ys 2 ⟨lk call43 (ok_wherryref18_in _ _ _ _ hv249)⟩ ?_
               refine yd hg38_17 4 ?_
               refine yd hg38_21 6 ?_
               refine yd hg38_27 10 ?_
               refine ye [3,4,6,7,8] ?_
               exact hl1230 _ (zi h).symm
            ·refine yx hn 2 ?_
             refine ys 1 ⟨lk call43 (ok_wherryref18_in _ _ _ _ hv247)⟩ ?_
             refine yd hg38_3 4 ?_
             refine ys 3 ⟨lk call46 (ok_wherryref18_has _ _ _ hv248)⟩ ?_
             refine yd hg38_11 3 ?_
             refine ys 2 ⟨lk call43 (ok_wherryref18_in _ _ _ _ hv249)⟩ ?_
             refine yd hg38_17 20 ?_
             refine ye [3,4,6,7,8] ?_
             exact hl1230 _ (zi h).symm
           ·refine yx hn 2 ?_
            refine ys 1 ⟨lk call43 (ok_wherryref18_in _ _ _ _ hv247)⟩ ?_
            refine yd hg38_3 4 ?_
            refine ys 3 ⟨lk call46 (ok_wherryref18_has _ _ _ hv248)⟩ ?_
            refine yd hg38_11 26 ?_
            refine ye [3,4,6,7,8] ?_
            exact hl1230 _ (zi h).symm
          ·refine yx hn 2 ?_
           refine ys 1 ⟨lk call43 (ok_wherryref18_in _ _ _ _ hv247)⟩ ?_
           refine yd hg38_3 34 ?_
           refine ye [3,4,6,7,8] ?_
           exact hl1230 _ (zi h).symm
        ·have h:=cond_f hb1227 h
         refine yyy hn 2 [2,3,4,6,7,8,324] ?_
         refine ht_cond _ rfl (fun hb1243 => ?_) (fun hb1243 => ?_)
         ·have h:=cond_t hb1243 h
          refine yyy hn 4 [2,3,4,6,7] ?_
          refine ht_seq ?_
          refine ht_joinS h (fun (s1244:Bool)=>[(2,.box 44 (T_Spool.c s [])),(3,.box 57 (T_Rec.c p_r [])),(4,.box 44 [vz,vi 0,vz,vz,vi 0,vz]),(6,.box 44 [.fr (.own 74) false 11 (flatten (map T_Item.ienc v1.Items)),vi v1.Packs,.fl (.own 3) 1 (map (int .i64) v1.Sent),.fl (.own 5) 1 (map (int .u8) v1.Part),vi v1.Of,.fl (.own 3) 1 (map (int .i64) v1.Done)]),(7,.box 57 [vi p_r.Kind,vb false,vs z0,vs z0,vz,vz,vb false,vs z0,vi 0,vi 0,vz,vi 0,vi p_r.Number,vi 0,vz]),(8,vb s1244)]) ?_ ?_
          ·rintro s1244 h
           refine pt_then ?_
           refine yyy hn 1 [2,3,4,6,7,8,12] ?_
           refine yyy hn 1 [2,3,4,6,7,8,12,13] ?_
           refine ht_seq ?_
           refine yyy hn 1 [2,3,4,6,7,8,12,13,14] ?_
           refine ht_sub (fs:=[(2,.box 44 (T_Spool.c s [])),(3,.box 57 (T_Rec.c p_r [])),(4,.box 44 [vz,vi 0,vz,vz,vi 0,vz]),(6,.box 44 [.fr (.own 74) false 11 (flatten (map T_Item.ienc v1.Items)),vi v1.Packs,.fl (.own 3) 1 (map (int .i64) v1.Sent),.fl (.own 5) 1 (map (int .u8) v1.Part),vi v1.Of,.fl (.own 3) 1 (map (int .i64) v1.Done)]),(7,.box 57 [vi p_r.Kind,vb false,vs z0,vs z0,vz,vz,vb false,vs z0,vi 0,vi 0,vz,vi 0,vi p_r.Number,vi 0,vz]),(8,vb s1244),(12,.fl (.own 3) 1 (map (int .i64) [])),(13,vb false),(14,vi 0)]) (.same _ (.same _ (.same _ (.same _ (.same _ (.same _ (.sub _ (sub_nil 3 1) rfl (.same _ (.same _ .nil))))))))) ?_
           refine ht_loopS h (fun ((s1283,s1284,s1285):(List Int)×Bool×Int)=>[(2,.box 44 (T_Spool.c s [])),(3,.box 57 (T_Rec.c p_r [])),(4,.box 44 [vz,vi 0,vz,vz,vi 0,vz]),(6,.box 44 [.fr (.own 74) false 11 (flatten (map T_Item.ienc v1.Items)),vi v1.Packs,.fl (.own 3) 1 (map (int .i64) v1.Sent),.fl (.own 5) 1 (map (int .u8) v1.Part),vi v1.Of,.fl (.own 3) 1 (map (int .i64) v1.Done)]),(7,.box 57 [vi p_r.Kind,vb false,vs z0,vs z0,vz,vz,vb false,vs z0,vi 0,vi 0,vz,vi 0,vi p_r.Number,vi 0,vz]),(8,vb s1244),(12,.fl (.own 3) 1 (map (int .i64) s1283)),(13,vb s1284),(14,vi s1285)]) (fun ((s1302,s1303):(List Int)×Bool)=>[(2,.box 44 (T_Spool.c s [])),(3,.box 57 (T_Rec.c p_r [])),(4,.box 44 [vz,vi 0,vz,vz,vi 0,vz]),(6,.box 44 [.fr (.own 74) false 11 (flatten (map T_Item.ienc v1.Items)),vi v1.Packs,.fl (.own 3) 1 (map (int .i64) v1.Sent),.fl (.own 5) 1 (map (int .u8) v1.Part),vi v1.Of,.fl (.own 3) 1 (map (int .i64) v1.Done)]),(7,.box 57 [vi p_r.Kind,vb false,vs z0,vs z0,vz,vz,vb false,vs z0,vi 0,vi 0,vz,vi 0,vi p_r.Number,vi 0,vz]),(8,vb s1244),(12,.fl (.own 3) 1 (map (int .i64) s1302)),(13,vb s1303)]) ?_ ?_
           ·rintro ⟨s1302, s1303⟩ h
            refine pt_then (ht_seq ?_)
            refine ht_joinS h (fun (s1327:(List Int))=>[(2,.box 44 (T_Spool.c s [])),(3,.box 57 (T_Rec.c p_r [])),(4,.box 44 [vz,vi 0,vz,vz,vi 0,vz]),(6,.box 44 [.fr (.own 74) false 11 (flatten (map T_Item.ienc v1.Items)),vi v1.Packs,.fl (.own 3) 1 (map (int .i64) v1.Sent),.fl (.own 5) 1 (map (int .u8) v1.Part),vi v1.Of,.fl (.own 3) 1 (map (int .i64) v1.Done)]),(7,.box 57 [vi p_r.Kind,vb false,vs z0,vs z0,vz,vz,vb false,vs z0,vi 0,vi 0,vz,vi 0,vi p_r.Number,vi 0,vz]),(8,vb s1244),(12,.fl (.own 3) 1 (map (int .i64) s1327))]) ?_ ?_
            ·rintro s1327 h
             refine pt_then ?_
             refine yxx hn 0 ?_
             refine ym 1 ?_
             refine yk [379,6] [380] ?_
             refine yt (6,.box 44 [.fr (.own 74) false 11 (flatten (map T_Item.ienc v1.Items)),vi v1.Packs,.fl (.own 3) 1 (map (int .i64) v1.Sent),.fl (.own 5) 1 (map (int .u8) v1.Part),vi v1.Of,.fl (.own 3) 1 (map (int .i64) s1327)]) 0 ⟨op_store_take _ _ _ _ _ _ _ _ sz42 rfl rfl rfl (zl rfl) rfl rfl⟩ ?_
             refine yee [2,3,4,6,7,8] ?_
             refine yyy hn 5 [3,4,6,7,8,385] ?_
             refine ht_cond _ rfl (fun hb1332 => ?_) (fun hb1332 => ?_)
             ·have h:=cond_t hb1332 h
              refine yy hn 4 [3,4,6,7,8] ?_
              refine pt_inb ?_
              refine pt_sub (fs:=[(3,.box 57 (T_Rec.c p_r [])),(4,.box 44 [vz,vi 0,vz,vz,vi 0,vz]),(6,.box 44 [.fr (.own 74) false 11 (flatten (map T_Item.ienc v1.Items)),vi v1.Packs,.fl (.own 3) 1 (map (int .i64) v1.Sent),.fl (.own 5) 1 (map (int .u8) []),vi (-1),.fl (.own 3) 1 (map (int .i64) s1327)]),(7,.box 57 [vi p_r.Kind,vb false,vs z0,vs z0,.fl .shr 3 (flatten (map T_Path.enc [])),fb [],vb false,vs z0,vi 0,vi 0,fi [],vi 0,vi p_r.Number,vi 0,fb []]),(8,vb s1244)]) (.same _ (.same _ (.box _ _ (subs_cons (sub_refl _) (subs_cons (sub_refl _) (subs_cons (sub_refl _) (subs_cons (sub_nil 5 1) (subs_cons (sub_refl _) (subs_cons (sub_refl _) (subs_nil))))))) rfl (.box _ _ (subs_cons (sub_refl _) (subs_cons (sub_refl _) (subs_cons (sub_refl _) (subs_cons (sub_refl _) (subs_cons (sub_nil_shr 3) (subs_cons (sub_nil_shr 1) (subs_cons (sub_refl _) (subs_cons (sub_refl _) (subs_cons (sub_refl _) (subs_cons (sub_refl _) (subs_cons (sub_nil_shr 1) (subs_cons (sub_refl _) (subs_cons (sub_refl _) (subs_cons (sub_refl _) (subs_cons (sub_nil_shr 1) (subs_nil)))))))))))))))) rfl (.same _ .nil))))) ?_
              exact hl1033 _ (zi h).symm
             ·have h:=cond_f hb1332 h
              refine ht_skip ?_
              refine pt_inb ?_
              refine pt_pick [0,1,2,3,4] (by kernel_rfl) (es':=[(_,_),(_,_),(_,_),(_,_),(_,_)]) rfl ?_
              refine pt_sub (fs:=[(3,.box 57 (T_Rec.c p_r [])),(4,.box 44 [vz,vi 0,vz,vz,vi 0,vz]),(6,.box 44 [.fr (.own 74) false 11 (flatten (map T_Item.ienc v1.Items)),vi v1.Packs,.fl (.own 3) 1 (map (int .i64) v1.Sent),.fl (.own 5) 1 (map (int .u8) v1.Part),vi v1.Of,.fl (.own 3) 1 (map (int .i64) s1327)]),(7,.box 57 [vi p_r.Kind,vb false,vs z0,vs z0,.fl .shr 3 (flatten (map T_Path.enc [])),fb [],vb false,vs z0,vi 0,vi 0,fi [],vi 0,vi p_r.Number,vi 0,fb []]),(8,vb s1244)]) (.same _ (.same _ (.same _ (.box _ _ (subs_cons (sub_refl _) (subs_cons (sub_refl _) (subs_cons (sub_refl _) (subs_cons (sub_refl _) (subs_cons (sub_nil_shr 3) (subs_cons (sub_nil_shr 1) (subs_cons (sub_refl _) (subs_cons (sub_refl _) (subs_cons (sub_refl _) (subs_cons (sub_refl _) (subs_cons (sub_nil_shr 1) (subs_cons (sub_refl _) (subs_cons (sub_refl _) (subs_cons (sub_refl _) (subs_cons (sub_nil_shr 1) (subs_nil)))))))))))))))) rfl (.same _ .nil))))) ?_
              exact hl1033 _ (zi h).symm
            ·intro u1328 h hl1329 hr1330
             refine yyy hn 2 [2,3,4,6,7,8,12,373] ?_
             refine ht_cond _ rfl (fun hb1331 => ?_) (fun hb1331 => ?_)
             ·have h:=cond_t hb1331 h
              obtain ⟨v360, hv360, h⟩:=zn h
              refine yx hn 0 ?_
              refine ym 2 ?_
              refine yS (.fl (.own 3) 1 (map (int .i64) [p_r.Number])) 0 ⟨op_buildSlice _ _ 1 (.int .i64 0) (map (int .i64) [p_r.Number]) [(0,.int .i64 p_r.Number)] underlying42 sz3 zr3 (fun _ V w o a hv hes=>by have e0:=rd_v hv hes (x := .tmp 376) rfl; simp only [List.map_toArray,List.map_cons,List.map_nil,e0]; try rfl) (litfill (by simp [Instr.fill,Value.cells]; rfl) (by simp [List.range,List.range.loop] <;> rfl)) (by simp [Value.oneCell']) rfl (by decide) (by decide) (by decide)⟩ ?_
              refine yp el42 hv360 0 ?_
              refine ya 0 ?_
              refine ye [2,3,4,6,7,8,12] ?_
              exact hl1329 _ (zi h).symm
             ·have h:=cond_f hb1331 h
              refine ht_skip ?_
              refine pt_pick [0,1,2,3,4,5,6] (by kernel_rfl) (es':=[(_,_),(_,_),(_,_),(_,_),(_,_),(_,_),(_,_)]) rfl ?_
              exact hl1329 _ (zi h).symm
           ·rintro u1304 hl1305 hr1306 ⟨s1283, s1284, s1285⟩ rr1309 h ho1307
            refine ht_seq ?_
            refine yyy hn 5 [2,3,4,6,7,8,12,13,14,344] ?_
            refine ht_cond _ rfl (fun hb1310 => ?_) (fun hb1310 => ?_)
            ·have h:=cond_t hb1310 h
             refine ht_skip ?_
             refine pt_then (ht_seq ?_)
             refine ht_block ?_
             refine ht_seq ?_
             refine ht_joinS h (fun ((s1316,s1317):(List Int)×Bool)=>[(2,.box 44 (T_Spool.c s [])),(3,.box 57 (T_Rec.c p_r [])),(4,.box 44 [vz,vi 0,vz,vz,vi 0,vz]),(6,.box 44 [.fr (.own 74) false 11 (flatten (map T_Item.ienc v1.Items)),vi v1.Packs,.fl (.own 3) 1 (map (int .i64) v1.Sent),.fl (.own 5) 1 (map (int .u8) v1.Part),vi v1.Of,.fl (.own 3) 1 (map (int .i64) v1.Done)]),(7,.box 57 [vi p_r.Kind,vb false,vs z0,vs z0,vz,vz,vb false,vs z0,vi 0,vi 0,vz,vi 0,vi p_r.Number,vi 0,vz]),(8,vb s1244),(14,vi s1285),(12,.fl (.own 3) 1 (map (int .i64) s1316)),(13,vb s1317)]) ?_ ?_
             ·rintro ⟨s1316, s1317⟩ h
              refine pt_then ?_
              obtain ⟨v293, hv293, h⟩:=zn h
              obtain ⟨v294, hv294, h⟩:=zn h
              obtain ⟨v295, hv295, h⟩:=zn h
              refine yx hn 0 ?_
              refine ym 3 ?_
              refine ys 0 ⟨li hv293⟩ ?_
              refine ys 0 ⟨ll hv294⟩ ?_
              refine yS (.fl (.own 3) 1 (map (int .i64) [v294])) 0 ⟨op_buildSlice _ _ 1 (.int .i64 0) (map (int .i64) [v294]) [(0,.int .i64 v294)] underlying42 sz3 zr3 (fun _ V w o a hv hes=>by have e0:=rd_v hv hes (x := .tmp 369) rfl; simp only [List.map_toArray,List.map_cons,List.map_nil,e0]; try rfl) (litfill (by simp [Instr.fill,Value.cells]; rfl) (by simp [List.range,List.range.loop] <;> rfl)) (by simp [Value.oneCell']) rfl (by decide) (by decide) (by decide)⟩ ?_
              refine yp el42 hv295 0 ?_
              refine ya 0 ?_
              refine ye [2,3,4,6,7,8,14,13,12] ?_
              refine pt_inb ?_
              refine pt_then ?_
              obtain ⟨v296, hv296, h⟩:=zn h
              refine yx hn 1 ?_
              refine ys 0 ⟨lb hv296⟩ ?_
              refine yw [14] 1 ?_
              refine ye [2,3,4,6,7,8,13,12,14] ?_
              refine pt_pick [0,1,2,3,4,5,7,6,8] (by kernel_rfl) (es':=[(_,_),(_,_),(_,_),(_,_),(_,_),(_,_),(_,_),(_,_),(_,_)]) rfl ?_
              exact pt_next _ (zi h).symm rfl
             ·intro u1318 h hl1319 hr1320
              refine ht_seq ?_
              refine ht_joinS h (fun (s1321:Bool)=>[(2,.box 44 (T_Spool.c s [])),(3,.box 57 (T_Rec.c p_r [])),(4,.box 44 [vz,vi 0,vz,vz,vi 0,vz]),(6,.box 44 [.fr (.own 74) false 11 (flatten (map T_Item.ienc v1.Items)),vi v1.Packs,.fl (.own 3) 1 (map (int .i64) v1.Sent),.fl (.own 5) 1 (map (int .u8) v1.Part),vi v1.Of,.fl (.own 3) 1 (map (int .i64) v1.Done)]),(7,.box 57 [vi p_r.Kind,vb false,vs z0,vs z0,vz,vz,vb false,vs z0,vi 0,vi 0,vz,vi 0,vi p_r.Number,vi 0,vz]),(8,vb s1244),(12,.fl (.own 3) 1 (map (int .i64) s1283)),(13,vb s1284),(14,vi s1285),(358,vb s1321)]) ?_ ?_
              ·rintro s1321 h
               refine pt_then ?_
               refine ht_cond _ rfl (fun hb1325 => ?_) (fun hb1325 => ?_)
               ·have h:=cond_t hb1325 h
                obtain ⟨v282, hv282, h⟩:=zn h
                refine yx hn 0 ?_
                refine ym 2 ?_
                refine yS (.fl (.own 3) 1 (map (int .i64) [p_r.Number])) 0 ⟨op_buildSlice _ _ 1 (.int .i64 0) (map (int .i64) [p_r.Number]) [(0,.int .i64 p_r.Number)] underlying42 sz3 zr3 (fun _ V w o a hv hes=>by have e0:=rd_v hv hes (x := .tmp 361) rfl; simp only [List.map_toArray,List.map_cons,List.map_nil,e0]; try rfl) (litfill (by simp [Instr.fill,Value.cells]; rfl) (by simp [List.range,List.range.loop] <;> rfl)) (by simp [Value.oneCell']) rfl (by decide) (by decide) (by decide)⟩ ?_
                refine yp el42 hv282 0 ?_
                refine ya 0 ?_
                refine yw [13] 1 ?_
                refine ye [2,3,4,6,7,8,14,12,13] ?_
                exact hl1319 _ (zi h).symm
               ·have h:=cond_f hb1325 h
                refine ht_skip ?_
                refine pt_pick [0,1,2,3,4,5,8,6,7] (by kernel_rfl) (es':=[(_,_),(_,_),(_,_),(_,_),(_,_),(_,_),(_,_),(_,_),(_,_)]) rfl ?_
                exact hl1319 _ (zi h).symm
              ·intro u1322 h hl1323 hr1324
               obtain ⟨v275, hv275, h⟩:=zn h
               obtain ⟨v276, hv276, h⟩:=zn h
               refine cond_some h (fun hg51_8 h => ?_) (fun hg51_8 h => ?_)
               ·refine wb [[2],[347,2],[14]] ?_
                refine wN [348,349] ?_
                refine wo [] ⟨li hv275⟩ ?_
                refine wN [350,348] ?_
                refine wo [[3],[352,3],[351,353],[354]] ⟨ll hv276⟩ ?_
                refine wd hg51_8 [[355,13],[355,356],[355,357]] ?_
                refine we hn [2,3,4,6,7,8,12,13,14,358] ?_
                exact hl1323 _ (zi h).symm
               ·refine wb [[2],[347,2],[14]] ?_
                refine wN [348,349] ?_
                refine wo [] ⟨li hv275⟩ ?_
                refine wN [350,348] ?_
                refine wo [[3],[352,3],[351,353],[354]] ⟨ll hv276⟩ ?_
                refine wd hg51_8 [[355],[355],[355]] ?_
                refine we hn [2,3,4,6,7,8,12,13,14,358] ?_
                exact hl1323 _ (zi h).symm
            ·have h:=cond_f hb1310 h
             refine ht_exit ?_
             refine pt_x_then ?_
             refine pt_x_then ?_
             refine pt_x_in ?_
             refine pt_pick [0,1,2,3,4,5,6,7] (by kernel_rfl) (es':=[(_,_),(_,_),(_,_),(_,_),(_,_),(_,_),(_,_),(_,_)]) rfl ?_
             exact hl1305 _ (ho1307 _ (zi h).symm).symm
          ·intro u1245 h hl1246 hr1247
           obtain ⟨v268, hv268, h⟩:=zn h
           refine cond_some h (fun hg45_3 h => ?_) (fun hg45_3 h => ?_)
           ·obtain ⟨v269, hv269, h⟩:=zn h
            refine yx hn 2 ?_
            refine ys 1 ⟨lk call43 (ok_wherryref18_in _ _ _ _ hv268)⟩ ?_
            refine yd hg45_3 4 ?_
            refine ys 3 ⟨lk call46 (ok_wherryref18_has _ _ _ hv269)⟩ ?_
            refine ye [2,3,4,6,7,8] ?_
            exact hl1246 _ (zi h).symm
           ·refine yx hn 2 ?_
            refine ys 1 ⟨lk call43 (ok_wherryref18_in _ _ _ _ hv268)⟩ ?_
            refine yd hg45_3 8 ?_
            refine ye [2,3,4,6,7,8] ?_
            exact hl1246 _ (zi h).symm
         ·have h:=cond_f hb1243 h
          refine ht_skip ?_
          refine pt_inb ?_
          refine pt_pick [1,2,3,4,5] (by kernel_rfl) (es':=[(_,_),(_,_),(_,_),(_,_),(_,_)]) rfl ?_
          refine pt_sub (fs:=[(3,.box 57 (T_Rec.c p_r [])),(4,.box 44 [vz,vi 0,vz,vz,vi 0,vz]),(6,.box 44 [.fr (.own 74) false 11 (flatten (map T_Item.ienc v1.Items)),vi v1.Packs,.fl (.own 3) 1 (map (int .i64) v1.Sent),.fl (.own 5) 1 (map (int .u8) v1.Part),vi v1.Of,.fl (.own 3) 1 (map (int .i64) v1.Done)]),(7,.box 57 [vi p_r.Kind,vb false,vs z0,vs z0,.fl .shr 3 (flatten (map T_Path.enc [])),fb [],vb false,vs z0,vi 0,vi 0,fi [],vi 0,vi 0,vi 0,fb []]),(8,vb false)]) (.same _ (.same _ (.same _ (.box _ _ (subs_cons (sub_refl _) (subs_cons (sub_refl _) (subs_cons (sub_refl _) (subs_cons (sub_refl _) (subs_cons (sub_nil_shr 3) (subs_cons (sub_nil_shr 1) (subs_cons (sub_refl _) (subs_cons (sub_refl _) (subs_cons (sub_refl _) (subs_cons (sub_refl _) (subs_cons (sub_nil_shr 1) (subs_cons (sub_refl _) (subs_cons (sub_refl _) (subs_cons (sub_refl _) (subs_cons (sub_nil_shr 1) (subs_nil)))))))))))))))) rfl (.same _ .nil))))) ?_
          exact hl1033 _ (zi h).symm
end Go.Proofs.YtofbofdggabfiaaGreatDoor
