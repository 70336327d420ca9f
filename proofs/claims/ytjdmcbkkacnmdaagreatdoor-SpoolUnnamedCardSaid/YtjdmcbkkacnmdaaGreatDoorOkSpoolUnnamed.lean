/-
  The model's runs are what is told in Lean.
-/
import Derived.Test.YtjdmcbkkacnmdaaGreatDoorProg
import Derived.KernelRfl
import Derived.Test.YtjdmcbkkacnmdaaGreatDoorShelf
import Derived.Test.YtjdmcbkkacnmdaaGreatDoorIdx
import Derived.Test.YtjdmcbkkacnmdaaGreatDoorIns
import Derived.Test.YtjdmcbkkacnmdaaGreatDoorB1
import Derived.Test.YtjdmcbkkacnmdaaGreatDoorC1
import Derived.Test.YtjdmcbkkacnmdaaGreatDoorOkc7
set_option linter.unusedVariables false
set_option linter.unusedSimpArgs false
set_option maxHeartbeats 1000000
namespace Go.Proofs.YtjdmcbkkacnmdaaGreatDoor
open Go.Abs Go.Abs.Sh Tryz
open List (map flatten)
open Value (int)

theorem ok_wherrylaw19_SpoolUnnamed (mx : Int) (l : (List T_Rec)) (p_r : T_Rec) (how : Int) (r : Bool) (h : Sh.wherrylaw19_SpoolUnnamed l p_r how = some r) : FnG Tryz.prog (GL mx) 5 [.fr .shr true 15 (flatten (map T_Rec.ienc l)), .agg [.v (.int .i64 p_r.Kind), .v (.bool p_r.Mail.From.Null), .v (.string p_r.Mail.From.Local), .v (.string p_r.Mail.From.Domain), .fl .shr 3 (flatten (map T_Path.enc p_r.Mail.To)), .fl .shr 1 (map (int .u8) p_r.Mail.Body), .v (.bool p_r.Mail.Quiet), .v (.string p_r.Mail.Helo), .v (.int .i64 p_r.Mail.At), .v (.int .i64 p_r.Id), .fl .shr 1 (map (int .i64) p_r.Ids), .v (.int .i64 p_r.Origin), .v (.int .i64 p_r.Number), .v (.int .i64 p_r.Offset), .fl .shr 1 (map (int .u8) p_r.Data)], .v (.int .i64 how)] (.v (.bool r)) := by
  unfold Sh.wherrylaw19_SpoolUnnamed at h
  refine yG 102 func5 fun g0 hn hio => ?_
  refine yyy hn 2 [0,2,102,4] ?_
  refine ht_seq ?_
  refine ht_seq ?_
  refine ht_joinS h (fun (s3 : Bool) => [(0,.fr .shr true 15 (flatten (map T_Rec.ienc l))),(2,vi how),(102,.glob (GL mx)),(4,.box 31 (T_Rec.c p_r [])),(22,vb s3)]) ?_ ?_
  ·rintro s3 h
   refine pt_then ?_
   refine ht_cond _ rfl (fun hb7 => ?_) (fun hb7 => ?_)
   ·have h := cond_t hb7 h
    refine yyy hn 1 [102,6] ?_
    refine ht_ret ?_
    refine pt_pick [1] (by kernel_rfl) (es' := [(_,_)]) rfl ?_
    refine pt_r_then ?_
    obtain rfl := zi h
    exact pt_ret hio rfl (.tmp _ _ .nil) rfl rfl
   ·have h := cond_f hb7 h
    refine ht_skip ?_
    refine pt_then (ht_seq ?_)
    obtain ⟨v8, hv8, h⟩ := zn h
    refine yx hn 1 ?_
    refine ys 0 ⟨lk call10 (ok_wherryref18_Fold _ _ hv8)⟩ ?_
    refine ym 0 ?_
    refine yx_ 1 ?_
    refine yS (.box 37 [vz,vi 0,vz,vz,vi 0,vz]) 0 ⟨oA (op_alloc _ _ zr37)⟩ ?_
    refine yk [26,7] [] ?_
    refine yt (7,.box 37 [.fr (.own 47) false 11 (flatten (map T_Item.ienc v8.1.Items)),vi v8.1.Packs,.fl (.own 3) 1 (map (int .i64) v8.1.Sent),.fl (.own 5) 1 (map (int .u8) v8.1.Part),vi v8.1.Of,.fl (.own 3) 1 (map (int .i64) v8.1.Done)]) 1 ⟨op_store_take _ _ _ _ _ _ _ _ sz37 rfl rfl rfl (zl rfl) rfl rfl⟩ ?_
    refine yee [2,102,4,7] ?_
    refine ht_seq ?_
    refine ht_seq ?_
    obtain ⟨v9, hv9, h⟩ := zn h
    refine yx hn 2 ?_
    refine ys 0 ⟨lk call16 (ok_wherryref18_Add _ _ _ hv9)⟩ ?_
    refine ym 0 ?_
    refine yx_ 1 ?_
    refine yS (.box 37 [vz,vi 0,vz,vz,vi 0,vz]) 0 ⟨oA (op_alloc _ _ zr37)⟩ ?_
    refine yk [32,9] [] ?_
    refine yt (9,.box 37 [.fr (.own 47) false 11 (flatten (map T_Item.ienc v9.1.Items)),vi v9.1.Packs,.fl (.own 3) 1 (map (int .i64) v9.1.Sent),.fl (.own 5) 1 (map (int .u8) v9.1.Part),vi v9.1.Of,.fl (.own 3) 1 (map (int .i64) v9.1.Done)]) 1 ⟨op_store_take _ _ _ _ _ _ _ _ sz37 rfl rfl rfl (zl rfl) rfl rfl⟩ ?_
    refine yee [2,102,4,7,10] ?_
    refine yyy hn 2 [2,102,4,7,35] ?_
    refine ht_cond _ rfl (fun hb10 => ?_) (fun hb10 => ?_)
    ·have h := cond_t hb10 h
     refine yyy hn 1 [102,6] ?_
     refine ht_ret ?_
     refine pt_pick [1] (by kernel_rfl) (es' := [(_,_)]) rfl ?_
     refine pt_r_then ?_
     obtain rfl := zi h
     exact pt_ret hio rfl (.tmp _ _ .nil) rfl rfl
    ·have h := cond_f hb10 h
     refine ht_skip ?_
     refine pt_then (ht_seq ?_)
     obtain ⟨v11, hv11, h⟩ := zn h
     refine yx hn 1 ?_
     refine ys 0 ⟨lk call8 (ok_wherrykeep_TwinRec _ _ hv11)⟩ ?_
     refine yS (.box 31 [vi 0,vb false,vs z0,vs z0,vz,vz,vb false,vs z0,vi 0,vi 0,vz,vi 0,vi 0,vi 0,vz]) 0 ⟨oA (op_alloc _ _ zr31)⟩ ?_
     refine yk [37,11] [] ?_
     refine yt (11,.box 31 [vi v11.Kind,vb v11.Mail.From.Null,vs v11.Mail.From.Local,vs v11.Mail.From.Domain,.fl (.own 24) 3 (flatten (map T_Path.enc v11.Mail.To)),.fl (.own 5) 1 (map (int .u8) v11.Mail.Body),vb v11.Mail.Quiet,vs v11.Mail.Helo,vi v11.Mail.At,vi v11.Id,.fl (.own 3) 1 (map (int .i64) v11.Ids),vi v11.Origin,vi v11.Number,vi v11.Offset,.fl (.own 5) 1 (map (int .u8) v11.Data)]) 0 ⟨op_store_take _ _ _ _ _ _ _ _ sz31 rfl rfl rfl (zl rfl) rfl rfl⟩ ?_
     refine yee [2,102,4,7,11] ?_
     refine ht_seq ?_
     refine ht_joinS h (fun ((s48,s49,s50,s51,s52) : Int × (List Int) × Int × Int × (List Int)) => [(102,.glob (GL mx)),(4,.box 31 (T_Rec.c p_r [])),(7,.box 37 [.fr (.own 47) false 11 (flatten (map T_Item.ienc v8.1.Items)),vi v8.1.Packs,.fl (.own 3) 1 (map (int .i64) v8.1.Sent),.fl (.own 5) 1 (map (int .u8) v8.1.Part),vi v8.1.Of,.fl (.own 3) 1 (map (int .i64) v8.1.Done)]),(11,.box 31 [vi v11.Kind,vb v11.Mail.From.Null,vs v11.Mail.From.Local,vs v11.Mail.From.Domain,.fl (.own 24) 3 (flatten (map T_Path.enc v11.Mail.To)),.fl (.own 5) 1 (map (int .u8) v11.Mail.Body),vb v11.Mail.Quiet,vs v11.Mail.Helo,vi v11.Mail.At,vi s48,.fl (.own 3) 1 (map (int .i64) s49),vi s50,vi v11.Number,vi s51,.fl (.own 5) 1 (map (int .u8) s52)])]) ?_ ?_
     ·rintro ⟨s48, s49, s50, s51, s52⟩ h
      refine pt_then (ht_seq ?_)
      obtain ⟨v90, hv90, h⟩ := zn h
      refine yx hn 1 ?_
      refine yk [11] [] ?_
      refine yt (78,.agg [vi v11.Kind,vb v11.Mail.From.Null,vs v11.Mail.From.Local,vs v11.Mail.From.Domain,.fl (.own 24) 3 (flatten (map T_Path.enc v11.Mail.To)),.fl (.own 5) 1 (map (int .u8) v11.Mail.Body),vb v11.Mail.Quiet,vs v11.Mail.Helo,vi v11.Mail.At,vi s48,.fl (.own 3) 1 (map (int .i64) s49),vi s50,vi v11.Number,vi s51,.fl (.own 5) 1 (map (int .u8) s52)]) 0 ⟨op_loadA_take _ _ _ _ underlying31 rfl sz31 rfl rfl⟩ ?_
      refine ys 0 ⟨lg call15 (ok_spool_Add _ _ _ _ hv90) 102⟩ ?_
      refine ym 0 ?_
      refine yx_ 1 ?_
      refine yS (.box 37 [vz,vi 0,vz,vz,vi 0,vz]) 0 ⟨oA (op_alloc _ _ zr37)⟩ ?_
      refine yk [80,12] [] ?_
      refine yt (12,.box 37 [.fr (.own 47) false 11 (flatten (map T_Item.ienc v90.1.Items)),vi v90.1.Packs,.fl (.own 3) 1 (map (int .i64) v90.1.Sent),.fl (.own 5) 1 (map (int .u8) v90.1.Part),vi v90.1.Of,.fl (.own 3) 1 (map (int .i64) v90.1.Done)]) 1 ⟨op_store_take _ _ _ _ _ _ _ _ sz37 rfl rfl rfl (zl rfl) rfl rfl⟩ ?_
      refine yee [102,4,7,12,13] ?_
      refine ht_seq ?_
      obtain ⟨v91, hv91, h⟩ := zn h
      refine yx hn 0 ?_
      refine yk [7] [] ?_
      refine yt (83,.agg [.fr (.own 47) false 11 (flatten (map T_Item.ienc v8.1.Items)),vi v8.1.Packs,.fl (.own 3) 1 (map (int .i64) v8.1.Sent),.fl (.own 5) 1 (map (int .u8) v8.1.Part),vi v8.1.Of,.fl (.own 3) 1 (map (int .i64) v8.1.Done)]) 1 ⟨op_loadA_take _ _ _ _ underlying37 rfl sz37 rfl rfl⟩ ?_
      refine ys 0 ⟨lg call15 (ok_spool_Add _ _ _ _ hv91) 102⟩ ?_
      refine ym 0 ?_
      refine yx_ 1 ?_
      refine yS (.box 37 [vz,vi 0,vz,vz,vi 0,vz]) 0 ⟨oA (op_alloc _ _ zr37)⟩ ?_
      refine yk [86,14] [] ?_
      refine yt (14,.box 37 [.fr (.own 47) false 11 (flatten (map T_Item.ienc v91.1.Items)),vi v91.1.Packs,.fl (.own 3) 1 (map (int .i64) v91.1.Sent),.fl (.own 5) 1 (map (int .u8) v91.1.Part),vi v91.1.Of,.fl (.own 3) 1 (map (int .i64) v91.1.Done)]) 1 ⟨op_store_take _ _ _ _ _ _ _ _ sz37 rfl rfl rfl (zl rfl) rfl rfl⟩ ?_
      refine yee [102,12,13,15] ?_
      refine ht_seq ?_
      refine ht_joinS h (fun (s94 : Bool) => [(102,.glob (GL mx)),(6,vb s94)]) ?_ ?_
      ·rintro s94 h
       refine pt_then (ht_ret ?_)
       refine pt_pick [1] (by kernel_rfl) (es' := [(_,_)]) rfl ?_
       obtain rfl := zi h
       exact pt_ret hio rfl (.tmp _ _ .nil) rfl rfl
      ·intro u95 h hl96 hr97
       refine cond_some h (fun hg30_2 h => ?_) (fun hg30_2 h => ?_)
       ·obtain ⟨v92, hv92, h⟩ := zn h
        refine cond_some h (fun hg30_7 h => ?_) (fun hg30_7 h => ?_)
        ·refine cond_some h (fun hg30_11 h => ?_) (fun hg30_11 h => ?_)
         ·obtain ⟨v93, hv93, h⟩ := zn h
          refine yx hn 3 ?_
          refine yd hg30_2 0 ?_
          refine yk [12] [] ?_
          refine yt (91,.agg [.fr (.own 47) false 11 (flatten (map T_Item.ienc v90.1.Items)),vi v90.1.Packs,.fl (.own 3) 1 (map (int .i64) v90.1.Sent),.fl (.own 5) 1 (map (int .u8) v90.1.Part),vi v90.1.Of,.fl (.own 3) 1 (map (int .i64) v90.1.Done)]) 0 ⟨op_loadA_take _ _ _ _ underlying37 rfl sz37 rfl rfl⟩ ?_
          refine yS (.agg [vz,vi 0,vz,vz,vi 0,vz]) 0 ⟨op_build _ _ _ _ [1,1,1,1,1,1] _ _ underlying37 zr37 (fs37 _ underlying37) Src.nil rfl rfl rfl⟩ ?_
          refine yS (vb v92) 2 ⟨op_call _ _ 11 _ _ rfl call11 rfl ((ok_wherrykeep_Spool (T_Spool.mk v90.1.Items v90.1.Packs v90.1.Sent v90.1.Part v90.1.Of v90.1.Done) (T_Spool.mk [] 0 [] [] 0 []) _ hv92).args (subs_cons (sub_refl _) (subs_cons (sub_agg (subs_cons (sub_nil_frs true 11) (subs_cons (sub_refl _) (subs_cons (sub_nil_shr 1) (subs_cons (sub_nil_shr 1) (subs_cons (sub_refl _) (subs_cons (sub_nil_shr 1) (subs_nil)))))))) (subs_nil)))) rfl rfl⟩ ?_
          refine yd hg30_7 4 ?_
          refine yd hg30_11 0 ?_
          refine ys 2 ⟨lg call19 (ok_wherrylaw19_wakes _ _ hv93) 102⟩ ?_
          refine ye [102,6] ?_
          exact hl96 _ (zi h).symm
         ·refine yx hn 3 ?_
          refine yd hg30_2 0 ?_
          refine yk [12] [] ?_
          refine yt (91,.agg [.fr (.own 47) false 11 (flatten (map T_Item.ienc v90.1.Items)),vi v90.1.Packs,.fl (.own 3) 1 (map (int .i64) v90.1.Sent),.fl (.own 5) 1 (map (int .u8) v90.1.Part),vi v90.1.Of,.fl (.own 3) 1 (map (int .i64) v90.1.Done)]) 0 ⟨op_loadA_take _ _ _ _ underlying37 rfl sz37 rfl rfl⟩ ?_
          refine yS (.agg [vz,vi 0,vz,vz,vi 0,vz]) 0 ⟨op_build _ _ _ _ [1,1,1,1,1,1] _ _ underlying37 zr37 (fs37 _ underlying37) Src.nil rfl rfl rfl⟩ ?_
          refine yS (vb v92) 2 ⟨op_call _ _ 11 _ _ rfl call11 rfl ((ok_wherrykeep_Spool (T_Spool.mk v90.1.Items v90.1.Packs v90.1.Sent v90.1.Part v90.1.Of v90.1.Done) (T_Spool.mk [] 0 [] [] 0 []) _ hv92).args (subs_cons (sub_refl _) (subs_cons (sub_agg (subs_cons (sub_nil_frs true 11) (subs_cons (sub_refl _) (subs_cons (sub_nil_shr 1) (subs_cons (sub_nil_shr 1) (subs_cons (sub_refl _) (subs_cons (sub_nil_shr 1) (subs_nil)))))))) (subs_nil)))) rfl rfl⟩ ?_
          refine yd hg30_7 4 ?_
          refine yd hg30_11 3 ?_
          refine ye [102,6] ?_
          exact hl96 _ (zi h).symm
        ·refine yx hn 3 ?_
         refine yd hg30_2 0 ?_
         refine yk [12] [] ?_
         refine yt (91,.agg [.fr (.own 47) false 11 (flatten (map T_Item.ienc v90.1.Items)),vi v90.1.Packs,.fl (.own 3) 1 (map (int .i64) v90.1.Sent),.fl (.own 5) 1 (map (int .u8) v90.1.Part),vi v90.1.Of,.fl (.own 3) 1 (map (int .i64) v90.1.Done)]) 0 ⟨op_loadA_take _ _ _ _ underlying37 rfl sz37 rfl rfl⟩ ?_
         refine yS (.agg [vz,vi 0,vz,vz,vi 0,vz]) 0 ⟨op_build _ _ _ _ [1,1,1,1,1,1] _ _ underlying37 zr37 (fs37 _ underlying37) Src.nil rfl rfl rfl⟩ ?_
         refine yS (vb v92) 2 ⟨op_call _ _ 11 _ _ rfl call11 rfl ((ok_wherrykeep_Spool (T_Spool.mk v90.1.Items v90.1.Packs v90.1.Sent v90.1.Part v90.1.Of v90.1.Done) (T_Spool.mk [] 0 [] [] 0 []) _ hv92).args (subs_cons (sub_refl _) (subs_cons (sub_agg (subs_cons (sub_nil_frs true 11) (subs_cons (sub_refl _) (subs_cons (sub_nil_shr 1) (subs_cons (sub_nil_shr 1) (subs_cons (sub_refl _) (subs_cons (sub_nil_shr 1) (subs_nil)))))))) (subs_nil)))) rfl rfl⟩ ?_
         refine yd hg30_7 7 ?_
         refine ye [102,6] ?_
         exact hl96 _ (zi h).symm
       ·refine yx hn 3 ?_
        refine yd hg30_2 12 ?_
        refine ye [102,6] ?_
        exact hl96 _ (zi h).symm
     ·intro u53 h hl54 hr55
      refine ht_seq ?_
      obtain ⟨v12, hv12, h⟩ := zn h
      obtain ⟨v13, hv13, h⟩ := zn h
      refine yx hn 1 ?_
      refine ys 0 ⟨lv hv12⟩ ?_
      refine ys 0 ⟨lB (rem_ok hv13)⟩ ?_
      refine yee [102,4,7,11,40] ?_
      refine ht_joinS h (fun ((s69,s70,s71,s72,s73) : Int × (List Int) × Int × Int × (List Int)) => [(102,.glob (GL mx)),(4,.box 31 (T_Rec.c p_r [])),(7,.box 37 [.fr (.own 47) false 11 (flatten (map T_Item.ienc v8.1.Items)),vi v8.1.Packs,.fl (.own 3) 1 (map (int .i64) v8.1.Sent),.fl (.own 5) 1 (map (int .u8) v8.1.Part),vi v8.1.Of,.fl (.own 3) 1 (map (int .i64) v8.1.Done)]),(11,.box 31 [vi v11.Kind,vb v11.Mail.From.Null,vs v11.Mail.From.Local,vs v11.Mail.From.Domain,.fl (.own 24) 3 (flatten (map T_Path.enc v11.Mail.To)),.fl (.own 5) 1 (map (int .u8) v11.Mail.Body),vb v11.Mail.Quiet,vs v11.Mail.Helo,vi v11.Mail.At,vi s69,.fl (.own 3) 1 (map (int .i64) s70),vi s71,vi v11.Number,vi s72,.fl (.own 5) 1 (map (int .u8) s73)])]) ?_ ?_
      ·rintro ⟨s69, s70, s71, s72, s73⟩ h
       exact hl54 _ (zi h).symm
      ·intro u74 h hl75 hr76
       refine ht_block ?_
       refine yyy hn 2 [102,4,7,11,40,45] ?_
       refine ht_cond _ rfl (fun hb77 => ?_) (fun hb77 => ?_)
       ·have h := cond_t hb77 h
        refine ht_seq ?_
        refine ht_seq ?_
        refine ht_joinS h (fun (s78 : Bool) => [(102,.glob (GL mx)),(4,.box 31 (T_Rec.c p_r [])),(7,.box 37 [.fr (.own 47) false 11 (flatten (map T_Item.ienc v8.1.Items)),vi v8.1.Packs,.fl (.own 3) 1 (map (int .i64) v8.1.Sent),.fl (.own 5) 1 (map (int .u8) v8.1.Part),vi v8.1.Of,.fl (.own 3) 1 (map (int .i64) v8.1.Done)]),(11,.box 31 [vi v11.Kind,vb v11.Mail.From.Null,vs v11.Mail.From.Local,vs v11.Mail.From.Domain,.fl (.own 24) 3 (flatten (map T_Path.enc v11.Mail.To)),.fl (.own 5) 1 (map (int .u8) v11.Mail.Body),vb v11.Mail.Quiet,vs v11.Mail.Helo,vi v11.Mail.At,vi v11.Id,.fl (.own 3) 1 (map (int .i64) v11.Ids),vi v11.Origin,vi v11.Number,vi v11.Offset,.fl (.own 5) 1 (map (int .u8) v11.Data)]),(54,vb s78)]) ?_ ?_
        ·rintro s78 h
         refine pt_then ?_
         refine ht_cond _ rfl (fun hb82 => ?_) (fun hb82 => ?_)
         ·have h := cond_t hb82 h
          refine yyy hn 1 [102,6] ?_
          refine ht_ret ?_
          refine pt_pick [1] (by kernel_rfl) (es' := [(_,_)]) rfl ?_
          refine pt_r_then ?_
          refine pt_r_in ?_
          refine pt_r_then ?_
          have h := hr76 _ (zi h).symm
          have h := hr55 _ (zi h).symm
          obtain rfl := zi h
          exact pt_ret hio rfl (.tmp _ _ .nil) rfl rfl
         ·have h := cond_f hb82 h
          refine ht_skip ?_
          refine pt_then ?_
          refine yy hn 2 [102,4,7,11] ?_
          refine pt_inb ?_
          exact hl75 _ (zi h).symm
        ·intro u79 h hl80 hr81
         refine cond_some h (fun hg13_3 h => ?_) (fun hg13_3 h => ?_)
         ·refine yx hn 4 ?_
          refine yd hg13_3 4 ?_
          refine ye [102,4,7,11,54] ?_
          exact hl80 _ (zi h).symm
         ·refine yx hn 4 ?_
          refine yd hg13_3 4 ?_
          refine ye [102,4,7,11,54] ?_
          exact hl80 _ (zi h).symm
       ·have h := cond_f hb77 h
        refine yyy hn 2 [102,4,7,11,40,56] ?_
        refine ht_cond _ rfl (fun hb83 => ?_) (fun hb83 => ?_)
        ·have h := cond_t hb83 h
         refine ht_seq ?_
         refine yyy hn 3 [102,4,7,11,60] ?_
         refine ht_cond _ rfl (fun hb84 => ?_) (fun hb84 => ?_)
         ·have h := cond_t hb84 h
          refine yyy hn 1 [102,6] ?_
          refine ht_ret ?_
          refine pt_pick [1] (by kernel_rfl) (es' := [(_,_)]) rfl ?_
          refine pt_r_then ?_
          refine pt_r_in ?_
          refine pt_r_then ?_
          have h := hr76 _ (zi h).symm
          have h := hr55 _ (zi h).symm
          obtain rfl := zi h
          exact pt_ret hio rfl (.tmp _ _ .nil) rfl rfl
         ·have h := cond_f hb84 h
          refine ht_skip ?_
          refine pt_then ?_
          refine yx hn 0 ?_
          refine yS (.fl (.own 3) 1 (map (int .i64) [1])) 1 ⟨op_buildSlice _ _ 1 (.int .i64 0) (map (int .i64) [1]) [(0,.int .i64 1)] underlying29 sz3 zr3 (fun _ V w o a hv hes => by simp only [List.map_toArray,List.map_cons,List.map_nil]; try rfl) (litfill (by simp [Instr.fill,Value.cells]; rfl) (by simp [List.range,List.range.loop] <;> rfl)) (by simp [Value.oneCell']) rfl (by decide) (by decide) (by decide)⟩ ?_
          refine yk [61,11] [62] ?_
          refine yt (11,.box 31 [vi v11.Kind,vb v11.Mail.From.Null,vs v11.Mail.From.Local,vs v11.Mail.From.Domain,.fl (.own 24) 3 (flatten (map T_Path.enc v11.Mail.To)),.fl (.own 5) 1 (map (int .u8) v11.Mail.Body),vb v11.Mail.Quiet,vs v11.Mail.Helo,vi v11.Mail.At,vi v11.Id,.fl (.own 3) 1 (map (int .i64) [1]),vi v11.Origin,vi v11.Number,vi v11.Offset,.fl (.own 5) 1 (map (int .u8) v11.Data)]) 0 ⟨op_store_take _ _ _ _ _ _ _ _ sz29 rfl rfl rfl (zl rfl) rfl rfl⟩ ?_
          refine ye [102,4,7,11] ?_
          refine pt_inb ?_
          exact hl75 _ (zi h).symm
        ·have h := cond_f hb83 h
         refine yyy hn 2 [102,4,7,11,40,63] ?_
         refine ht_cond _ rfl (fun hb85 => ?_) (fun hb85 => ?_)
         ·have h := cond_t hb85 h
          refine ht_seq ?_
          refine yyy hn 3 [102,4,7,11,67] ?_
          refine ht_cond _ rfl (fun hb86 => ?_) (fun hb86 => ?_)
          ·have h := cond_t hb86 h
           refine yyy hn 1 [102,6] ?_
           refine ht_ret ?_
           refine pt_pick [1] (by kernel_rfl) (es' := [(_,_)]) rfl ?_
           refine pt_r_then ?_
           refine pt_r_in ?_
           refine pt_r_then ?_
           have h := hr76 _ (zi h).symm
           have h := hr55 _ (zi h).symm
           obtain rfl := zi h
           exact pt_ret hio rfl (.tmp _ _ .nil) rfl rfl
          ·have h := cond_f hb86 h
           refine ht_skip ?_
           refine pt_then ?_
           refine yy hn 2 [102,4,7,11] ?_
           refine pt_inb ?_
           exact hl75 _ (zi h).symm
         ·have h := cond_f hb85 h
          refine yyy hn 2 [102,4,7,11,69] ?_
          refine ht_cond _ rfl (fun hb87 => ?_) (fun hb87 => ?_)
          ·have h := cond_t hb87 h
           refine ht_seq ?_
           refine yyy hn 3 [102,4,7,11,73] ?_
           refine ht_cond _ rfl (fun hb88 => ?_) (fun hb88 => ?_)
           ·have h := cond_t hb88 h
            refine yyy hn 1 [102,6] ?_
            refine ht_ret ?_
            refine pt_pick [1] (by kernel_rfl) (es' := [(_,_)]) rfl ?_
            refine pt_r_then ?_
            refine pt_r_in ?_
            refine pt_r_then ?_
            have h := hr76 _ (zi h).symm
            have h := hr55 _ (zi h).symm
            obtain rfl := zi h
            exact pt_ret hio rfl (.tmp _ _ .nil) rfl rfl
           ·have h := cond_f hb88 h
            refine ht_skip ?_
            refine pt_then ?_
            refine yx hn 0 ?_
            refine yS (.fl (.own 5) 1 (map (int .u8) [0])) 1 ⟨op_buildSlice _ _ 1 (.int .u8 0) (map (int .u8) [0]) [(0,.int .u8 0)] underlying26 sz5 zr5 (fun _ V w o a hv hes => by simp only [List.map_toArray,List.map_cons,List.map_nil]; try rfl) (litfill (by simp [Instr.fill,Value.cells]; rfl) (by simp [List.range,List.range.loop] <;> rfl)) (by simp [Value.oneCell']) rfl (by decide) (by decide) (by decide)⟩ ?_
            refine yk [74,11] [75] ?_
            refine yt (11,.box 31 [vi v11.Kind,vb v11.Mail.From.Null,vs v11.Mail.From.Local,vs v11.Mail.From.Domain,.fl (.own 24) 3 (flatten (map T_Path.enc v11.Mail.To)),.fl (.own 5) 1 (map (int .u8) v11.Mail.Body),vb v11.Mail.Quiet,vs v11.Mail.Helo,vi v11.Mail.At,vi v11.Id,.fl (.own 3) 1 (map (int .i64) v11.Ids),vi v11.Origin,vi v11.Number,vi v11.Offset,.fl (.own 5) 1 (map (int .u8) [0])]) 0 ⟨op_store_take _ _ _ _ _ _ _ _ sz26 rfl rfl rfl (zl rfl) rfl rfl⟩ ?_
            refine ye [102,4,7,11] ?_
            refine pt_inb ?_
            exact hl75 _ (zi h).symm
          ·have h := cond_f hb87 h
           refine ht_seq ?_
           refine yyy hn 3 [102,4,7,11,43] ?_
           refine ht_cond _ rfl (fun hb89 => ?_) (fun hb89 => ?_)
           ·have h := cond_t hb89 h
            refine yyy hn 1 [102,6] ?_
            refine ht_ret ?_
            refine pt_pick [1] (by kernel_rfl) (es' := [(_,_)]) rfl ?_
            refine pt_r_then ?_
            refine pt_r_in ?_
            refine pt_r_then ?_
            have h := hr76 _ (zi h).symm
            have h := hr55 _ (zi h).symm
            obtain rfl := zi h
            exact pt_ret hio rfl (.tmp _ _ .nil) rfl rfl
           ·have h := cond_f hb89 h
            refine ht_skip ?_
            refine pt_then ?_
            refine yy hn 2 [102,4,7,11] ?_
            refine pt_inb ?_
            exact hl75 _ (zi h).symm
  ·intro u4 h hl5 hr6
   obtain ⟨v1, hv1, h⟩ := zn h
   refine cond_some h (fun hg1_2 h => ?_) (fun hg1_2 h => ?_)
   ·refine yx hn 1 ?_
    refine ys 1 ⟨lk call6 (ok_wherrylaw18_Heavy _ _ hv1)⟩ ?_
    refine yd hg1_2 4 ?_
    refine ye [0,2,102,4,22] ?_
    exact hl5 _ (zi h).symm
   ·obtain ⟨v2, hv2, h⟩ := zn h
    refine yx hn 1 ?_
    refine ys 1 ⟨lk call6 (ok_wherrylaw18_Heavy _ _ hv1)⟩ ?_
    refine yd hg1_2 1 ?_
    refine yS (.fr (.own 31) true 15 (flatten (map T_Rec.ienc [(T_Rec.mk p_r.Kind ((T_Mail.mk (T_Path.mk p_r.Mail.From.Null p_r.Mail.From.Local p_r.Mail.From.Domain) p_r.Mail.To p_r.Mail.Body p_r.Mail.Quiet p_r.Mail.Helo p_r.Mail.At)) p_r.Id p_r.Ids p_r.Origin p_r.Number p_r.Offset p_r.Data)]))) 0 ⟨op_build1_fr _ _ _ 15 (.agg #[.int .i64 0,.bool false,.string ByteArray.empty,.string ByteArray.empty,.slice none 0 0,.slice none 0 0,.bool false,.string ByteArray.empty,.int .i64 0,.int .i64 0,.slice none 0 0,.int .i64 0,.int .i64 0,.int .i64 0,.slice none 0 0]) true _ _ underlying22 sz31 zr31 rfl rfl (.cons (.v _) (.cons (.v _) (.cons (.v _) (.cons (.v _) (.cons (.shr _ _ rfl rfl) (.cons (.shr _ _ rfl rfl) (.cons (.v _) (.cons (.v _) (.cons (.v _) (.cons (.v _) (.cons (.shr _ _ rfl rfl) (.cons (.v _) (.cons (.v _) (.cons (.v _) (.cons (.shr _ _ rfl rfl) (.nil)))))))))))))))) rfl (by decide) (by decide)⟩ ?_
    refine ys 1 ⟨lk call6 (ok_wherrylaw18_Heavy _ _ hv2)⟩ ?_
    refine ye [0,2,102,4,22] ?_
    exact hl5 _ (zi h).symm

end Go.Proofs.YtjdmcbkkacnmdaaGreatDoor
