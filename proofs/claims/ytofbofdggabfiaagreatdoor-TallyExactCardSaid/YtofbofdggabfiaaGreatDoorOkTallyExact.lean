/-
  The model's runs are what is told in Lean.
-/
import Derived.Test.YtofbofdggabfiaaGreatDoorProg
import Derived.KernelRfl
import Derived.Test.YtofbofdggabfiaaGreatDoorShelf
import Derived.Test.YtofbofdggabfiaaGreatDoorB3
import Derived.Test.YtofbofdggabfiaaGreatDoorC1
import Derived.Test.YtofbofdggabfiaaGreatDoorOkc8
set_option linter.unusedVariables false
set_option linter.unusedSimpArgs false
set_option maxHeartbeats 1000000
namespace Go.Proofs.YtofbofdggabfiaaGreatDoor
open Go.Abs Go.Abs.Sh Tryz
open List (map flatten)
open Value (int)

theorem ok_wherrylaw26_TallyExact (mx:Int) (l:(List T_Event)) (site:Int) (to_:T_Path) (body:(List Int)) (recs:(List T_Rec)) (c:T_Config) (i:Int) (m:T_Mail) (r:Bool) (h:Sh.wherrylaw26_TallyExact l site to_ body recs c i m=some r):FnG Tryz.prog (GL mx) 3 [.fr .shr true 9 (flatten (map T_Event.ienc l)), .v (.int .i64 site), .agg [.v (.bool to_.Null), .v (.string to_.Local), .v (.string to_.Domain)], .fl .shr 1 (map (int .u8) body), .fr .shr true 15 (flatten (map T_Rec.ienc recs)), .agg [.v (.string ((c.Domains.getD 0 (⟨#[]⟩:ByteArray)))), .v (.string ((c.Domains.getD 1 (⟨#[]⟩:ByteArray)))), .v (.int .i64 c.Expiry), .v (.string c.User), .v (.string c.Secret), .v (.int .i64 c.Log), .v (.bool c.Held)], .v (.int .i64 i), .agg [.v (.bool m.From.Null), .v (.string m.From.Local), .v (.string m.From.Domain), .fl .shr 3 (flatten (map T_Path.enc m.To)), .fl .shr 1 (map (int .u8) m.Body), .v (.bool m.Quiet), .v (.string m.Helo), .v (.int .i64 m.At)]] (.v (.bool r)):=by
  unfold Sh.wherrylaw26_TallyExact at h
  refine yG 125 func3 fun g0 hn hio => ?_
  refine yyy hn 4 [0,1,3,4,6,125,10,13,15] ?_
  refine ht_seq ?_
  refine ht_seq ?_
  refine ht_joinS h (fun (s6:Bool)=>[(0,.fr .shr true 9 (flatten (map T_Event.ienc l))),(1,vi site),(3,fb body),(4,.fr .shr true 15 (flatten (map T_Rec.ienc recs))),(6,vi i),(125,.glob (GL mx)),(10,.box 24 [vb to_.Null,vs to_.Local,vs to_.Domain]),(13,.box 29 (T_Config.c c [])),(15,.box 32 (T_Mail.c m [])),(53,vb s6)]) ?_ ?_
  ·rintro s6 h
   refine pt_then ?_
   refine ht_cond _ rfl (fun hb10 => ?_) (fun hb10 => ?_)
   ·have h:=cond_t hb10 h
    refine yyy hn 1 [125,16] ?_
    refine ht_ret ?_
    refine pt_pick [1] (by kernel_rfl) (es':=[(_,_)]) rfl ?_
    refine pt_r_then ?_
    obtain rfl:=zi h
    exact pt_ret hio rfl (.tmp _ _ .nil) rfl rfl
   ·have h:=cond_f hb10 h
    refine ht_skip ?_
    refine pt_then (ht_seq ?_)
    obtain ⟨v11, hv11, h⟩:=zn h
    refine yx hn 1 ?_
    refine ys 0 ⟨lk call8 (ok_wherrykeep_TwinEvents _ _ hv11)⟩ ?_
    refine ya 0 ?_
    refine yee [0,1,3,4,6,125,10,13,15,17] ?_
    refine ht_seq ?_
    obtain ⟨v12, hv12, h⟩:=zn h
    refine yx hn 4 ?_
    refine ys 0 ⟨lg call9 (ok_tally_Of _ _ _ _ _ _ hv12) 125⟩ ?_
    refine ym 4 ?_
    refine yee [0,1,3,4,6,125,10,13,15,17,18,19] ?_
    refine ht_seq ?_
    obtain ⟨v13, hv13, h⟩:=zn h
    refine yx hn 4 ?_
    refine ys 0 ⟨lk call10 (ok_wherryref23_Of _ _ _ _ _ hv13)⟩ ?_
    refine ym 4 ?_
    refine yee [0,4,6,125,13,15,17,18,19,20,21] ?_
    refine ht_seq ?_
    obtain ⟨v14, hv14, h⟩:=zn h
    refine yx hn 1 ?_
    refine ys 0 ⟨lk call11 (ok_wherryref18_Fold _ _ hv14)⟩ ?_
    refine ym 0 ?_
    refine yx_ 1 ?_
    refine yS (.box 44 [vz,vi 0,vz,vz,vi 0,vz]) 0 ⟨oA (op_alloc _ _ zr44)⟩ ?_
    refine yk [75,22] [] ?_
    refine yt (22,.box 44 [.fr (.own 74) false 11 (flatten (map T_Item.ienc v14.1.Items)),vi v14.1.Packs,.fl (.own 3) 1 (map (int .i64) v14.1.Sent),.fl (.own 5) 1 (map (int .u8) v14.1.Part),vi v14.1.Of,.fl (.own 3) 1 (map (int .i64) v14.1.Done)]) 1 ⟨op_store_take _ _ _ _ _ _ _ _ sz44 rfl rfl rfl (zl rfl) rfl rfl⟩ ?_
    refine yee [0,6,125,13,15,17,18,19,20,21,22] ?_
    refine ht_seq ?_
    refine ht_joinS h (fun (s26:Bool)=>[(125,.glob (GL mx)),(16,vb s26)]) ?_ ?_
    ·rintro s26 h
     refine pt_then (ht_ret ?_)
     refine pt_pick [1] (by kernel_rfl) (es':=[(_,_)]) rfl ?_
     obtain rfl:=zi h
     exact pt_ret hio rfl (.tmp _ _ .nil) rfl rfl
    ·intro u27 h hl28 hr29
     obtain ⟨v15, hv15, h⟩:=zn h
     obtain ⟨v16, hv16, h⟩:=zn h
     refine cond_some h (fun hg7_5 h => ?_) (fun hg7_5 h => ?_)
     ·refine cond_some h (fun hg7_10 h => ?_) (fun hg7_10 h => ?_)
      ·refine cond_some h (fun hg7_15 h => ?_) (fun hg7_15 h => ?_)
       ·obtain ⟨v17, hv17, h⟩:=zn h
        obtain ⟨v18, hv18, h⟩:=zn h
        refine cond_some h (fun hg7_22 h => ?_) (fun hg7_22 h => ?_)
        ·obtain ⟨v19, hv19, h⟩:=zn h
         obtain ⟨v20, hv20, h⟩:=zn h
         obtain ⟨v21, hv21, h⟩:=zn h
         refine cond_some h (fun hg7_33 h => ?_) (fun hg7_33 h => ?_)
         ·obtain ⟨v22, hv22, h⟩:=zn h
          obtain ⟨v23, hv23, h⟩:=zn h
          refine cond_some h (fun hg7_40 h => ?_) (fun hg7_40 h => ?_)
          ·obtain ⟨v24, hv24, h⟩:=zn h
           refine cond_some h (fun hg7_45 h => ?_) (fun hg7_45 h => ?_)
           ·obtain ⟨v25, hv25, h⟩:=zn h
            refine wb [[17]] ?_
            refine wN [77,17] ?_
            refine wo [[0]] ⟨lk call12 (ok_tally_Count _ _ hv15)⟩ ?_
            refine wN [79] ?_
            refine wo [[78,80],[81]] ⟨lk call13 (ok_wherryref23_Count _ _ hv16)⟩ ?_
            refine wd hg7_5 [[82,18],[82,20],[82,83,84],[82,85],[86]] ?_
            refine wd hg7_10 [[87,19],[87,21],[87,88,89],[87,90],[91]] ?_
            refine wd hg7_15 [[92,22]] ?_
            refine wN [92,93,22] ?_
            refine wo [[92,22]] ⟨lk call14 (ok_tally_Waits _ _ hv17)⟩ ?_
            refine wN [92,95,22] ?_
            refine wo [[92,94,96],[92,97],[98]] ⟨lk call15 (ok_wherryref23_Waits _ _ hv18)⟩ ?_
            refine wd hg7_22 [[99,13],[99,6],[99,15]] ?_
            refine wN [99,100,101,102,125] ?_
            refine wo [[99,13],[99,6],[99,15]] ⟨lg call17 (ok_tally_Far _ _ _ _ _ hv19) 125⟩ ?_
            refine wN [99,104,105,106] ?_
            refine wo [] ⟨lk call18 (ok_wherryref23_FarOf _ _ _ _ hv20)⟩ ?_
            refine wN [99,103,107] ?_
            refine wo [[99,108],[109]] ⟨lk call16 (ok_wherrykeep_Paths _ _ _ hv21)⟩ ?_
            refine wd hg7_33 [[110,22]] ?_
            refine wN [110,111,22] ?_
            refine wo [[110,22]] ⟨lk call19 (ok_tally_Bound _ _ hv22)⟩ ?_
            refine wN [110,113,22] ?_
            refine wo [[110,112,114],[110,115],[116]] ⟨lk call20 (ok_wherryref23_Bound _ _ hv23)⟩ ?_
            refine wd hg7_40 [[117,17],[117,0]] ?_
            refine wN [117,118,17,119] ?_
            refine wo [[117,120],[121]] ⟨lk call21 (ok_wherrykeep_Events _ _ _ hv24)⟩ ?_
            refine wd hg7_45 [] ?_
            refine wN [122,125] ?_
            refine wo [[122,123],[124]] ⟨lg call22 (ok_wherrylaw26_wakes _ _ hv25) 125⟩ ?_
            refine we hn [125,16] ?_
            exact hl28 _ (zi h).symm
           ·refine wb [[17]] ?_
            refine wN [77,17] ?_
            refine wo [[0]] ⟨lk call12 (ok_tally_Count _ _ hv15)⟩ ?_
            refine wN [79] ?_
            refine wo [[78,80],[81]] ⟨lk call13 (ok_wherryref23_Count _ _ hv16)⟩ ?_
            refine wd hg7_5 [[82,18],[82,20],[82,83,84],[82,85],[86]] ?_
            refine wd hg7_10 [[87,19],[87,21],[87,88,89],[87,90],[91]] ?_
            refine wd hg7_15 [[92,22]] ?_
            refine wN [92,93,22] ?_
            refine wo [[92,22]] ⟨lk call14 (ok_tally_Waits _ _ hv17)⟩ ?_
            refine wN [92,95,22] ?_
            refine wo [[92,94,96],[92,97],[98]] ⟨lk call15 (ok_wherryref23_Waits _ _ hv18)⟩ ?_
            refine wd hg7_22 [[99,13],[99,6],[99,15]] ?_
            refine wN [99,100,101,102,125] ?_
            refine wo [[99,13],[99,6],[99,15]] ⟨lg call17 (ok_tally_Far _ _ _ _ _ hv19) 125⟩ ?_
            refine wN [99,104,105,106] ?_
            refine wo [] ⟨lk call18 (ok_wherryref23_FarOf _ _ _ _ hv20)⟩ ?_
            refine wN [99,103,107] ?_
            refine wo [[99,108],[109]] ⟨lk call16 (ok_wherrykeep_Paths _ _ _ hv21)⟩ ?_
            refine wd hg7_33 [[110,22]] ?_
            refine wN [110,111,22] ?_
            refine wo [[110,22]] ⟨lk call19 (ok_tally_Bound _ _ hv22)⟩ ?_
            refine wN [110,113,22] ?_
            refine wo [[110,112,114],[110,115],[116]] ⟨lk call20 (ok_wherryref23_Bound _ _ hv23)⟩ ?_
            refine wd hg7_40 [[117,17],[117,0]] ?_
            refine wN [117,118,17,119] ?_
            refine wo [[117,120],[121]] ⟨lk call21 (ok_wherrykeep_Events _ _ _ hv24)⟩ ?_
            refine wd hg7_45 [[122],[122],[124]] ?_
            refine we hn [125,16] ?_
            exact hl28 _ (zi h).symm
          ·refine wb [[17]] ?_
           refine wN [77,17] ?_
           refine wo [[0]] ⟨lk call12 (ok_tally_Count _ _ hv15)⟩ ?_
           refine wN [79] ?_
           refine wo [[78,80],[81]] ⟨lk call13 (ok_wherryref23_Count _ _ hv16)⟩ ?_
           refine wd hg7_5 [[82,18],[82,20],[82,83,84],[82,85],[86]] ?_
           refine wd hg7_10 [[87,19],[87,21],[87,88,89],[87,90],[91]] ?_
           refine wd hg7_15 [[92,22]] ?_
           refine wN [92,93,22] ?_
           refine wo [[92,22]] ⟨lk call14 (ok_tally_Waits _ _ hv17)⟩ ?_
           refine wN [92,95,22] ?_
           refine wo [[92,94,96],[92,97],[98]] ⟨lk call15 (ok_wherryref23_Waits _ _ hv18)⟩ ?_
           refine wd hg7_22 [[99,13],[99,6],[99,15]] ?_
           refine wN [99,100,101,102,125] ?_
           refine wo [[99,13],[99,6],[99,15]] ⟨lg call17 (ok_tally_Far _ _ _ _ _ hv19) 125⟩ ?_
           refine wN [99,104,105,106] ?_
           refine wo [] ⟨lk call18 (ok_wherryref23_FarOf _ _ _ _ hv20)⟩ ?_
           refine wN [99,103,107] ?_
           refine wo [[99,108],[109]] ⟨lk call16 (ok_wherrykeep_Paths _ _ _ hv21)⟩ ?_
           refine wd hg7_33 [[110,22]] ?_
           refine wN [110,111,22] ?_
           refine wo [[110,22]] ⟨lk call19 (ok_tally_Bound _ _ hv22)⟩ ?_
           refine wN [110,113,22] ?_
           refine wo [[110,112,114],[110,115],[116]] ⟨lk call20 (ok_wherryref23_Bound _ _ hv23)⟩ ?_
           refine wd hg7_40 [[117],[117],[117],[117],[121],[122],[122],[124]] ?_
           refine we hn [125,16] ?_
           exact hl28 _ (zi h).symm
         ·refine wb [[17]] ?_
          refine wN [77,17] ?_
          refine wo [[0]] ⟨lk call12 (ok_tally_Count _ _ hv15)⟩ ?_
          refine wN [79] ?_
          refine wo [[78,80],[81]] ⟨lk call13 (ok_wherryref23_Count _ _ hv16)⟩ ?_
          refine wd hg7_5 [[82,18],[82,20],[82,83,84],[82,85],[86]] ?_
          refine wd hg7_10 [[87,19],[87,21],[87,88,89],[87,90],[91]] ?_
          refine wd hg7_15 [[92,22]] ?_
          refine wN [92,93,22] ?_
          refine wo [[92,22]] ⟨lk call14 (ok_tally_Waits _ _ hv17)⟩ ?_
          refine wN [92,95,22] ?_
          refine wo [[92,94,96],[92,97],[98]] ⟨lk call15 (ok_wherryref23_Waits _ _ hv18)⟩ ?_
          refine wd hg7_22 [[99,13],[99,6],[99,15]] ?_
          refine wN [99,100,101,102,125] ?_
          refine wo [[99,13],[99,6],[99,15]] ⟨lg call17 (ok_tally_Far _ _ _ _ _ hv19) 125⟩ ?_
          refine wN [99,104,105,106] ?_
          refine wo [] ⟨lk call18 (ok_wherryref23_FarOf _ _ _ _ hv20)⟩ ?_
          refine wN [99,103,107] ?_
          refine wo [[99,108],[109]] ⟨lk call16 (ok_wherrykeep_Paths _ _ _ hv21)⟩ ?_
          refine wd hg7_33 [[110],[110],[110],[110],[110],[110],[116],[117],[117],[117],[117],[121],[122],[122],[124]] ?_
          refine we hn [125,16] ?_
          exact hl28 _ (zi h).symm
        ·refine wb [[17]] ?_
         refine wN [77,17] ?_
         refine wo [[0]] ⟨lk call12 (ok_tally_Count _ _ hv15)⟩ ?_
         refine wN [79] ?_
         refine wo [[78,80],[81]] ⟨lk call13 (ok_wherryref23_Count _ _ hv16)⟩ ?_
         refine wd hg7_5 [[82,18],[82,20],[82,83,84],[82,85],[86]] ?_
         refine wd hg7_10 [[87,19],[87,21],[87,88,89],[87,90],[91]] ?_
         refine wd hg7_15 [[92,22]] ?_
         refine wN [92,93,22] ?_
         refine wo [[92,22]] ⟨lk call14 (ok_tally_Waits _ _ hv17)⟩ ?_
         refine wN [92,95,22] ?_
         refine wo [[92,94,96],[92,97],[98]] ⟨lk call15 (ok_wherryref23_Waits _ _ hv18)⟩ ?_
         refine wd hg7_22 [[99],[99],[99],[99],[99],[99],[99],[99],[99],[99],[109],[110],[110],[110],[110],[110],[110],[116],[117],[117],[117],[117],[121],[122],[122],[124]] ?_
         refine we hn [125,16] ?_
         exact hl28 _ (zi h).symm
       ·refine wb [[17]] ?_
        refine wN [77,17] ?_
        refine wo [[0]] ⟨lk call12 (ok_tally_Count _ _ hv15)⟩ ?_
        refine wN [79] ?_
        refine wo [[78,80],[81]] ⟨lk call13 (ok_wherryref23_Count _ _ hv16)⟩ ?_
        refine wd hg7_5 [[82,18],[82,20],[82,83,84],[82,85],[86]] ?_
        refine wd hg7_10 [[87,19],[87,21],[87,88,89],[87,90],[91]] ?_
        refine wd hg7_15 [[92],[92],[92],[92],[92],[92],[98],[99],[99],[99],[99],[99],[99],[99],[99],[99],[99],[109],[110],[110],[110],[110],[110],[110],[116],[117],[117],[117],[117],[121],[122],[122],[124]] ?_
        refine we hn [125,16] ?_
        exact hl28 _ (zi h).symm
      ·refine wb [[17]] ?_
       refine wN [77,17] ?_
       refine wo [[0]] ⟨lk call12 (ok_tally_Count _ _ hv15)⟩ ?_
       refine wN [79] ?_
       refine wo [[78,80],[81]] ⟨lk call13 (ok_wherryref23_Count _ _ hv16)⟩ ?_
       refine wd hg7_5 [[82,18],[82,20],[82,83,84],[82,85],[86]] ?_
       refine wd hg7_10 [[87],[87],[87],[87],[91],[92],[92],[92],[92],[92],[92],[98],[99],[99],[99],[99],[99],[99],[99],[99],[99],[99],[109],[110],[110],[110],[110],[110],[110],[116],[117],[117],[117],[117],[121],[122],[122],[124]] ?_
       refine we hn [125,16] ?_
       exact hl28 _ (zi h).symm
     ·refine wb [[17]] ?_
      refine wN [77,17] ?_
      refine wo [[0]] ⟨lk call12 (ok_tally_Count _ _ hv15)⟩ ?_
      refine wN [79] ?_
      refine wo [[78,80],[81]] ⟨lk call13 (ok_wherryref23_Count _ _ hv16)⟩ ?_
      refine wd hg7_5 [[82],[82],[82],[82],[86],[87],[87],[87],[87],[91],[92],[92],[92],[92],[92],[92],[98],[99],[99],[99],[99],[99],[99],[99],[99],[99],[99],[109],[110],[110],[110],[110],[110],[110],[116],[117],[117],[117],[117],[121],[122],[122],[124]] ?_
      refine we hn [125,16] ?_
      exact hl28 _ (zi h).symm
  ·intro u7 h hl8 hr9
   obtain ⟨v1, hv1, h⟩:=zn h
   refine cond_some h (fun hg1_2 h => ?_) (fun hg1_2 h => ?_)
   ·refine yx hn 1 ?_
    refine ys 1 ⟨lk call4 (ok_wherrylaw26_Heavy _ _ hv1)⟩ ?_
    refine yd hg1_2 27 ?_
    refine ye [0,1,3,4,6,125,10,13,15,53] ?_
    exact hl8 _ (zi h).symm
   ·refine cond_some h (fun hg1_7 h => ?_) (fun hg1_7 h => ?_)
    ·refine yx hn 1 ?_
     refine ys 1 ⟨lk call4 (ok_wherrylaw26_Heavy _ _ hv1)⟩ ?_
     refine yd hg1_2 5 ?_
     refine yd hg1_7 22 ?_
     refine ye [0,1,3,4,6,125,10,13,15,53] ?_
     exact hl8 _ (zi h).symm
    ·obtain ⟨v2, hv2, h⟩:=zn h
     refine cond_some h (fun hg1_11 h => ?_) (fun hg1_11 h => ?_)
     ·refine yx hn 1 ?_
      refine ys 1 ⟨lk call4 (ok_wherrylaw26_Heavy _ _ hv1)⟩ ?_
      refine yd hg1_2 5 ?_
      refine yd hg1_7 1 ?_
      refine ys 2 ⟨lk call5 (ok_wherrylaw18_Heavy _ _ hv2)⟩ ?_
      refine yd hg1_11 18 ?_
      refine ye [0,1,3,4,6,125,10,13,15,53] ?_
      exact hl8 _ (zi h).symm
     ·obtain ⟨v3, hv3, h⟩:=zn h
      refine cond_some h (fun hg1_16 h => ?_) (fun hg1_16 h => ?_)
      ·refine yx hn 1 ?_
       refine ys 1 ⟨lk call4 (ok_wherrylaw26_Heavy _ _ hv1)⟩ ?_
       refine yd hg1_2 5 ?_
       refine yd hg1_7 1 ?_
       refine ys 2 ⟨lk call5 (ok_wherrylaw18_Heavy _ _ hv2)⟩ ?_
       refine yd hg1_11 1 ?_
       refine yS (.fr (.own 32) true 8 (flatten (map T_Mail.ienc [(T_Mail.mk (T_Path.mk m.From.Null m.From.Local m.From.Domain) m.To m.Body m.Quiet m.Helo m.At)]))) 0 ⟨op_build1_fr _ _ _ 8 (.agg #[.bool false,.string ByteArray.empty,.string ByteArray.empty,.slice none 0 0,.slice none 0 0,.bool false,.string ByteArray.empty,.int .i64 0]) true _ _ underlying36 sz32 zr32 rfl rfl (.cons (.v _) (.cons (.v _) (.cons (.v _) (.cons (.shr _ _ rfl rfl) (.cons (.shr _ _ rfl rfl) (.cons (.v _) (.cons (.v _) (.cons (.v _) (.nil))))))))) rfl (by decide) (by decide)⟩ ?_
       refine ys 2 ⟨lk call6 (ok_wherrylaw17_Heavy _ _ hv3)⟩ ?_
       refine yd hg1_16 13 ?_
       refine ye [0,1,3,4,6,125,10,13,15,53] ?_
       exact hl8 _ (zi h).symm
      ·obtain ⟨v4, hv4, h⟩:=zn h
       refine cond_some h (fun hg1_20 h => ?_) (fun hg1_20 h => ?_)
       ·refine yx hn 1 ?_
        refine ys 1 ⟨lk call4 (ok_wherrylaw26_Heavy _ _ hv1)⟩ ?_
        refine yd hg1_2 5 ?_
        refine yd hg1_7 1 ?_
        refine ys 2 ⟨lk call5 (ok_wherrylaw18_Heavy _ _ hv2)⟩ ?_
        refine yd hg1_11 1 ?_
        refine yS (.fr (.own 32) true 8 (flatten (map T_Mail.ienc [(T_Mail.mk (T_Path.mk m.From.Null m.From.Local m.From.Domain) m.To m.Body m.Quiet m.Helo m.At)]))) 0 ⟨op_build1_fr _ _ _ 8 (.agg #[.bool false,.string ByteArray.empty,.string ByteArray.empty,.slice none 0 0,.slice none 0 0,.bool false,.string ByteArray.empty,.int .i64 0]) true _ _ underlying36 sz32 zr32 rfl rfl (.cons (.v _) (.cons (.v _) (.cons (.v _) (.cons (.shr _ _ rfl rfl) (.cons (.shr _ _ rfl rfl) (.cons (.v _) (.cons (.v _) (.cons (.v _) (.nil))))))))) rfl (by decide) (by decide)⟩ ?_
        refine ys 2 ⟨lk call6 (ok_wherrylaw17_Heavy _ _ hv3)⟩ ?_
        refine yd hg1_16 1 ?_
        refine ys 2 ⟨lk call7 (ok_wherrylaw23_HeavyConfig _ _ hv4)⟩ ?_
        refine yd hg1_20 9 ?_
        refine ye [0,1,3,4,6,125,10,13,15,53] ?_
        exact hl8 _ (zi h).symm
       ·obtain ⟨v5, hv5, h⟩:=zn h
        refine yx hn 1 ?_
        refine ys 1 ⟨lk call4 (ok_wherrylaw26_Heavy _ _ hv1)⟩ ?_
        refine yd hg1_2 5 ?_
        refine yd hg1_7 1 ?_
        refine ys 2 ⟨lk call5 (ok_wherrylaw18_Heavy _ _ hv2)⟩ ?_
        refine yd hg1_11 1 ?_
        refine yS (.fr (.own 32) true 8 (flatten (map T_Mail.ienc [(T_Mail.mk (T_Path.mk m.From.Null m.From.Local m.From.Domain) m.To m.Body m.Quiet m.Helo m.At)]))) 0 ⟨op_build1_fr _ _ _ 8 (.agg #[.bool false,.string ByteArray.empty,.string ByteArray.empty,.slice none 0 0,.slice none 0 0,.bool false,.string ByteArray.empty,.int .i64 0]) true _ _ underlying36 sz32 zr32 rfl rfl (.cons (.v _) (.cons (.v _) (.cons (.v _) (.cons (.shr _ _ rfl rfl) (.cons (.shr _ _ rfl rfl) (.cons (.v _) (.cons (.v _) (.cons (.v _) (.nil))))))))) rfl (by decide) (by decide)⟩ ?_
        refine ys 2 ⟨lk call6 (ok_wherrylaw17_Heavy _ _ hv3)⟩ ?_
        refine yd hg1_16 1 ?_
        refine ys 2 ⟨lk call7 (ok_wherrylaw23_HeavyConfig _ _ hv4)⟩ ?_
        refine yd hg1_20 6 ?_
        refine ys 2 ⟨lb hv5⟩ ?_
        refine ye [0,1,3,4,6,125,10,13,15,53] ?_
        exact hl8 _ (zi h).symm

end Go.Proofs.YtofbofdggabfiaaGreatDoor
