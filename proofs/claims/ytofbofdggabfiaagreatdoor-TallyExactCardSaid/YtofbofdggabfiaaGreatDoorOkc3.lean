/-
  The model's runs are what is told in Lean.
-/
import Derived.Test.YtofbofdggabfiaaGreatDoorProg
import Derived.KernelRfl
import Derived.Test.YtofbofdggabfiaaGreatDoorShelf
import Derived.Test.YtofbofdggabfiaaGreatDoorB3
import Derived.Test.YtofbofdggabfiaaGreatDoorC1
import Derived.Test.YtofbofdggabfiaaGreatDoorOkc2
set_option linter.unusedVariables false
set_option linter.unusedSimpArgs false
set_option maxHeartbeats 1000000
namespace Go.Proofs.YtofbofdggabfiaaGreatDoor
open Go.Abs Go.Abs.Sh Tryz
open List (map flatten)
open Value (int)
theorem ok_tally_Of (mx:Int) (l:(List T_Event)) (site:Int) (to_:T_Path) (body:(List Int)) (r:(Int×Int)) (h:Sh.tally_Of l site to_ body=some r):FnG Tryz.prog (GL mx) 9 [.fr .shr true 9 (flatten (map T_Event.ienc l)), .v (.int .i64 site), .agg [.v (.bool to_.Null), .v (.string to_.Local), .v (.string to_.Domain)], .fl .shr 1 (map (int .u8) body)] (.tup [.v (.int .i64 r.1), .v (.int .i64 r.2)]):=by
  unfold Sh.tally_Of at h
  refine yG 56 func9 fun g0 hn hio => ?_
  refine yyy hn 3 [0,1,3,56,6,8,9] ?_
  refine ht_seq ?_
  refine yyy hn 3 [1,3,56,6,8,9,12,13,14] ?_
  refine ht_loopS h (fun ((s131,s132,s133):Int×Int×Int)=>[(1,vi site),(3,fb body),(56,.glob (GL mx)),(6,.box 24 [vb to_.Null,vs to_.Local,vs to_.Domain]),(8,vi s131),(9,vi s132),(12,.fr .shr true 9 (flatten (map T_Event.ienc l))),(13,vi (l.length:Int)),(14,vi s133)]) (fun ((s194,s195):Int×Int)=>[(56,.glob (GL mx)),(8,vi s194),(9,vi s195)]) ?_ ?_
  ·rintro ⟨s194, s195⟩ h
   refine pt_then ?_
   refine yxx hn 2 ?_
   refine yw [8] 1 ?_
   refine yw [9] 1 ?_
   refine yee [56,8,9] ?_
   refine ht_ret ?_
   refine pt_pick [1,2] (by kernel_rfl) (es':=[(_,_),(_,_)]) rfl ?_
   obtain rfl:=zi h
   exact pt_ret hio rfl (.tmp _ _ (.tmp _ _ .nil)) rfl rfl
  ·rintro u196 hl197 hr198 ⟨s131, s132, s133⟩ rr201 h ho199
   refine yyy hn 1 [1,3,56,6,8,9,12,13,14,15] ?_
   refine ht_seq ?_
   refine ht_cond _ rfl (fun hb202 => ?_) (fun hb202 => ?_)
   ·have h:=cond_t hb202 h
    refine ht_skip ?_
    refine pt_then (ht_seq ?_)
    refine ht_joinS h (fun ((s230,s231):Int×Int)=>[(1,vi site),(3,fb body),(56,.glob (GL mx)),(6,.box 24 [vb to_.Null,vs to_.Local,vs to_.Domain]),(8,vi s230),(9,vi s231),(12,.fr .shr true 9 (flatten (map T_Event.ienc l))),(13,vi (l.length:Int)),(14,vi s133)]) ?_ ?_
    ·rintro ⟨s230, s231⟩ h
     refine pt_then ?_
     obtain ⟨v67, hv67, h⟩:=zn h
     refine yx hn 0 ?_
     refine ys 0 ⟨lb hv67⟩ ?_
     refine yw [14] 1 ?_
     refine ye [1,3,56,6,8,9,12,13,14] ?_
     exact pt_next _ (zi h).symm rfl
    ·intro u232 h hl233 hr234
     refine ht_block ?_
     refine ht_seq ?_
     obtain ⟨v2, hv2, h⟩:=zn h
     obtain ⟨v3, hv3, h⟩:=zn h
     refine yx hn 0 ?_
     refine ys 0 ⟨lI hv2⟩ ?_
     refine yS (.agg (T_Event.c v3 [])) 0 ⟨op_loadA_fr _ _ _ _ _ _ _ _ underlying55 rfl sz55 rfl rfl (gflat_get T_Event.ilen hv3) (.cons (.v _) (.cons (.v _) (.cons (.v _) (.cons (.v _) (.cons (.v _) (.cons (.v _) (.cons (.v _) (.cons (.v _) (.cons (.fl _ _ rfl) (.nil)))))))))) rfl (by decide)⟩ ?_
     refine yS (.box 55 [vi 0,vi 0,vb false,vs z0,vs z0,vb false,vs z0,vs z0,vz]) 1 ⟨oA (op_alloc _ _ zr55)⟩ ?_
     refine yee [1,3,56,6,8,9,12,13,14,11] ?_
     refine ht_joinS h (fun ((s246,s247):Int×Int)=>[(1,vi site),(3,fb body),(56,.glob (GL mx)),(6,.box 24 [vb to_.Null,vs to_.Local,vs to_.Domain]),(8,vi s246),(9,vi s247),(12,.fr .shr true 9 (flatten (map T_Event.ienc l))),(13,vi (l.length:Int)),(14,vi s133)]) ?_ ?_
     ·rintro ⟨s246, s247⟩ h
      refine pt_inb ?_
      exact hl233 _ (zi h).symm
     ·intro u248 h hl249 hr250
      refine ht_block ?_
      refine yyy hn 5 [1,3,56,6,8,9,12,13,14,11,18] ?_
      refine ht_cond _ rfl (fun hb251 => ?_) (fun hb251 => ?_)
      ·have h:=cond_t hb251 h
       refine ht_skip ?_
       refine pt_inb ?_
       refine pt_pick [0,1,2,3,4,5,6,7,8] (by kernel_rfl) (es':=[(_,_),(_,_),(_,_),(_,_),(_,_),(_,_),(_,_),(_,_),(_,_)]) rfl ?_
       exact hl249 _ (zi h).symm
      ·have h:=cond_f hb251 h
       refine ht_seq ?_
       refine ht_joinS h (fun (s252:Bool)=>[(1,vi site),(3,fb body),(56,.glob (GL mx)),(6,.box 24 [vb to_.Null,vs to_.Local,vs to_.Domain]),(8,vi s131),(9,vi s132),(12,.fr .shr true 9 (flatten (map T_Event.ienc l))),(13,vi (l.length:Int)),(14,vi s133),(11,.box 55 (T_Event.c v3 [])),(23,vb s252)]) ?_ ?_
       ·rintro s252 h
        refine pt_then ?_
        refine ht_cond _ rfl (fun hb256 => ?_) (fun hb256 => ?_)
        ·have h:=cond_t hb256 h
         obtain ⟨v11, hv11, h⟩:=zn h
         refine yx hn 1 ?_
         refine ys 0 ⟨lb hv11⟩ ?_
         refine yw [8] 1 ?_
         refine ye [1,3,56,6,9,12,13,14,8] ?_
         refine pt_inb ?_
         refine pt_pick [0,1,2,3,8,4,5,6,7] (by kernel_rfl) (es':=[(_,_),(_,_),(_,_),(_,_),(_,_),(_,_),(_,_),(_,_),(_,_)]) rfl ?_
         exact hl249 _ (zi h).symm
        ·have h:=cond_f hb256 h
         refine ht_seq ?_
         refine ht_joinS h (fun (s257:Bool)=>[(1,vi site),(3,fb body),(56,.glob (GL mx)),(6,.box 24 [vb to_.Null,vs to_.Local,vs to_.Domain]),(8,vi s131),(9,vi s132),(12,.fr .shr true 9 (flatten (map T_Event.ienc l))),(13,vi (l.length:Int)),(14,vi s133),(41,vb s257)]) ?_ ?_
         ·rintro s257 h
          refine pt_then ?_
          refine ht_cond _ rfl (fun hb261 => ?_) (fun hb261 => ?_)
          ·have h:=cond_t hb261 h
           obtain ⟨v18, hv18, h⟩:=zn h
           refine yx hn 1 ?_
           refine ys 0 ⟨lb hv18⟩ ?_
           refine yw [9] 1 ?_
           refine ye [1,3,56,6,8,12,13,14,9] ?_
           refine pt_inb ?_
           refine pt_pick [0,1,2,3,4,8,5,6,7] (by kernel_rfl) (es':=[(_,_),(_,_),(_,_),(_,_),(_,_),(_,_),(_,_),(_,_),(_,_)]) rfl ?_
           exact hl249 _ (zi h).symm
          ·have h:=cond_f hb261 h
           refine ht_skip ?_
           refine pt_inb ?_
           refine pt_pick [0,1,2,3,4,5,6,7,8] (by kernel_rfl) (es':=[(_,_),(_,_),(_,_),(_,_),(_,_),(_,_),(_,_),(_,_),(_,_)]) rfl ?_
           exact hl249 _ (zi h).symm
         ·intro u258 h hl259 hr260
          refine cond_some h (fun hg7_3 h => ?_) (fun hg7_3 h => ?_)
          ·obtain ⟨v12, hv12, h⟩:=zn h
           refine yx hn 4 ?_
           refine yd hg7_3 3 ?_
           refine ys 2 ⟨lg call25 (ok_tally_reports _ _ _ _ hv12) 56⟩ ?_
           refine ye [1,3,56,6,8,9,12,13,14,41] ?_
           exact hl259 _ (zi h).symm
          ·refine yx hn 4 ?_
           refine yd hg7_3 6 ?_
           refine ye [1,3,56,6,8,9,12,13,14,41] ?_
           exact hl259 _ (zi h).symm
       ·intro u253 h hl254 hr255
        refine cond_some h (fun hg5_3 h => ?_) (fun hg5_3 h => ?_)
        ·refine cond_some h (fun hg5_9 h => ?_) (fun hg5_9 h => ?_)
         ·obtain ⟨v5, hv5, h⟩:=zn h
          refine yx hn 4 ?_
          refine yd hg5_3 3 ?_
          refine yS (vb ((v3.To.Null==to_.Null)&&((v3.To.Local.toList==to_.Local.toList)&&((v3.To.Domain.toList==to_.Domain.toList)&&true)))) 2 ⟨op_eq_st _ _ [.bool v3.To.Null,.string v3.To.Local,.string v3.To.Domain] [.bool to_.Null,.string to_.Local,.string to_.Domain] (((v3.To.Null==to_.Null)&&((v3.To.Local.toList==to_.Local.toList)&&((v3.To.Domain.toList==to_.Domain.toList)&&true)))) _ false (by kernel_rfl) (by kernel_rfl) (by kernel_rfl) (by kernel_rfl) (by kernel_rfl) rfl rfl rfl rfl (by kernel_rfl) rfl⟩ ?_
          refine yd hg5_9 3 ?_
          refine ys 2 ⟨lk call24 (ok_bytes_Equal _ _ _ hv5)⟩ ?_
          refine ye [1,3,56,6,8,9,12,13,14,11,23] ?_
          exact hl254 _ (zi h).symm
         ·refine yx hn 4 ?_
          refine yd hg5_3 3 ?_
          refine yS (vb ((v3.To.Null==to_.Null)&&((v3.To.Local.toList==to_.Local.toList)&&((v3.To.Domain.toList==to_.Domain.toList)&&true)))) 2 ⟨op_eq_st _ _ [.bool v3.To.Null,.string v3.To.Local,.string v3.To.Domain] [.bool to_.Null,.string to_.Local,.string to_.Domain] (((v3.To.Null==to_.Null)&&((v3.To.Local.toList==to_.Local.toList)&&((v3.To.Domain.toList==to_.Domain.toList)&&true)))) _ false (by kernel_rfl) (by kernel_rfl) (by kernel_rfl) (by kernel_rfl) (by kernel_rfl) rfl rfl rfl rfl (by kernel_rfl) rfl⟩ ?_
          refine yd hg5_9 6 ?_
          refine ye [1,3,56,6,8,9,12,13,14,11,23] ?_
          exact hl254 _ (zi h).symm
        ·refine yx hn 4 ?_
         refine yd hg5_3 12 ?_
         refine ye [1,3,56,6,8,9,12,13,14,11,23] ?_
         exact hl254 _ (zi h).symm
   ·have h:=cond_f hb202 h
    refine ht_exit ?_
    refine pt_x_then ?_
    refine pt_x_then ?_
    refine pt_x_in ?_
    refine pt_pick [2,4,5] (by kernel_rfl) (es':=[(_,_),(_,_),(_,_)]) rfl ?_
    exact hl197 _ (ho199 _ (zi h).symm).symm
theorem ok_wherrykeep_Path (a:T_Path) (b:T_Path) (r:Bool) (h:Sh.wherrykeep_Path a b=some r):FnOK Tryz.prog 26 [.agg [.v (.bool a.Null), .v (.string a.Local), .v (.string a.Domain)], .agg [.v (.bool b.Null), .v (.string b.Local), .v (.string b.Domain)]] (.v (.bool r)):=by
  unfold Sh.wherrykeep_Path at h
  refine yO 24 func26 fun g0 hn hio => ?_
  refine yyy hn 3 [2,3] ?_
  refine ht_seq ?_
  refine ht_joinS h (fun (s2:Bool)=>[(4,vb s2)]) ?_ ?_
  ·rintro s2 h
   refine pt_then (ht_ret ?_)
   obtain rfl:=zi h
   exact pt_ret hio rfl (.tmp _ _ .nil) rfl rfl
  ·intro u3 h hl4 hr5
   obtain ⟨v1, hv1, h⟩:=zn h
   refine cond_some h (fun hg1_5 h => ?_) (fun hg1_5 h => ?_)
   ·refine cond_some h (fun hg1_12 h => ?_) (fun hg1_12 h => ?_)
    ·refine yx hn 4 ?_
     refine yS (vb (a.Null==b.Null)) 1 ⟨op_beq _ _ _ _ underlying4 rfl rfl⟩ ?_
     refine yd hg1_5 7 ?_
     refine yd hg1_12 7 ?_
     refine ye [4] ?_
     exact hl4 _ (zi h).symm
    ·refine yx hn 4 ?_
     refine yS (vb (a.Null==b.Null)) 1 ⟨op_beq _ _ _ _ underlying4 rfl rfl⟩ ?_
     refine yd hg1_5 7 ?_
     refine yd hg1_12 7 ?_
     refine ye [4] ?_
     exact hl4 _ (zi h).symm
   ·refine yx hn 4 ?_
    refine yS (vb (a.Null==b.Null)) 1 ⟨op_beq _ _ _ _ underlying4 rfl rfl⟩ ?_
    refine yd hg1_5 14 ?_
    refine ye [4] ?_
    exact hl4 _ (zi h).symm
theorem ok_wherrykeep_Bytes (a:(List Int)) (b:(List Int)) (r:Bool) (h:Sh.wherrykeep_Bytes a b=some r):FnOK Tryz.prog 27 [.fl .shr 1 (map (int .u8) a), .fl .shr 1 (map (int .u8) b)] (.v (.bool r)):=by
  unfold Sh.wherrykeep_Bytes at h
  refine yO 26 func27 fun g0 hn hio => ?_
  refine yyy hn 1 [0,1] ?_
  refine ht_seq ?_
  refine yyy hn 5 [0,1,10] ?_
  refine ht_cond _ rfl (fun hb1 => ?_) (fun hb1 => ?_)
  ·have h:=cond_t hb1 h
   refine yyy hn 1 [4] ?_
   refine ht_ret ?_
   refine pt_r_then ?_
   obtain rfl:=zi h
   exact pt_ret hio rfl (.tmp _ _ .nil) rfl rfl
  ·have h:=cond_f hb1 h
   refine ht_skip ?_
   refine pt_then (ht_seq ?_)
   refine yyy hn 1 [0,1,5] ?_
   refine ht_loopS h (fun (s12:Int)=>[(0,fb a),(1,fb b),(5,vi s12)]) (fun (():Unit)=>[]) ?_ ?_
   ·rintro ⟨⟩ h
    refine pt_then ?_
    refine yyy hn 1 [4] ?_
    refine ht_ret ?_
    obtain rfl:=zi h
    exact pt_ret hio rfl (.tmp _ _ .nil) rfl rfl
   ·rintro u15 hl16 hr17 s12 rr20 h ho18
    refine ht_seq ?_
    refine yyy hn 4 [0,1,5,14] ?_
    refine ht_cond _ rfl (fun hb21 => ?_) (fun hb21 => ?_)
    ·have h:=cond_t hb21 h
     refine ht_skip ?_
     refine pt_then (ht_seq ?_)
     refine ht_block ?_
     refine ht_seq ?_
     obtain ⟨v3, hv3, h⟩:=zn h
     obtain ⟨v4, hv4, h⟩:=zn h
     obtain ⟨v5, hv5, h⟩:=zn h
     obtain ⟨v6, hv6, h⟩:=zn h
     refine wb [[0],[5]] ?_
     refine wN [17,18] ?_
     refine wo [] ⟨li hv3⟩ ?_
     refine wN [19,17] ?_
     refine wo [[1],[5]] ⟨ll hv4⟩ ?_
     refine wN [21,22] ?_
     refine wo [] ⟨li hv5⟩ ?_
     refine wN [23,21] ?_
     refine wo [[20,24]] ⟨ll hv6⟩ ?_
     refine wee hn [0,1,5,25] ?_
     refine ht_cond _ rfl (fun hb22 => ?_) (fun hb22 => ?_)
     ·have h:=cond_t hb22 h
      refine yyy hn 1 [4] ?_
      refine ht_ret ?_
      refine pt_r_in ?_
      refine pt_r_then ?_
      refine pt_r_then ?_
      refine pt_r_in ?_
      refine pt_r_then ?_
      have h:=hr17 _ (ho18 _ (zi h).symm).symm
      obtain rfl:=zi h
      exact pt_ret hio rfl (.tmp _ _ .nil) rfl rfl
     ·have h:=cond_f hb22 h
      refine ht_skip ?_
      refine pt_inb ?_
      refine pt_then ?_
      obtain ⟨v8, hv8, h⟩:=zn h
      refine yx hn 1 ?_
      refine ys 0 ⟨lb hv8⟩ ?_
      refine yw [5] 1 ?_
      refine ye [0,1,5] ?_
      exact pt_next _ (zi h).symm rfl
    ·have h:=cond_f hb21 h
     refine ht_exit ?_
     refine pt_x_then ?_
     refine pt_x_then ?_
     refine pt_x_in ?_
     refine pt_pick [] (by kernel_rfl) (es':=[]) rfl ?_
     exact hl16 _ (ho18 _ (zi h).symm).symm
theorem ok_wherryref11_end (b:(List Int)) (at_:Int) (r:Int) (h:Sh.wherryref11_end b at_=some r):FnOK Tryz.prog 54 [.fl .shr 1 (map (int .u8) b), .v (.int .i64 at_)] (.v (.int .i64 r)):=by
  unfold Sh.wherryref11_end at h
  refine yO 28 func54 fun g0 hn hio => ?_
  refine yyy hn 1 [0,1] ?_
  refine ht_seq ?_
  refine yyy hn 2 [0,5] ?_
  refine ht_loopS h (fun (s21:Int)=>[(0,fb b),(5,vi s21)]) (fun (():Unit)=>[]) ?_ ?_
  ·rintro ⟨⟩ h
   refine pt_then ?_
   refine yyy hn 1 [4] ?_
   refine ht_ret ?_
   obtain rfl:=zi h
   exact pt_ret hio rfl (.tmp _ _ .nil) rfl rfl
  ·rintro u28 hl29 hr30 s21 rr33 h ho31
   refine ht_seq ?_
   refine ht_seq ?_
   obtain ⟨v1, hv1, h⟩:=zn h
   refine yx hn 1 ?_
   refine ys 3 ⟨lb hv1⟩ ?_
   refine yee [0,5,11] ?_
   refine ht_cond _ rfl (fun hb34 => ?_) (fun hb34 => ?_)
   ·have h:=cond_t hb34 h
    refine ht_skip ?_
    refine pt_then (ht_seq ?_)
    refine ht_block ?_
    refine ht_seq ?_
    refine ht_joinS h (fun (s35:Bool)=>[(0,fb b),(5,vi s21),(26,vb s35)]) ?_ ?_
    ·rintro s35 h
     refine pt_then ?_
     refine ht_cond _ rfl (fun hb39 => ?_) (fun hb39 => ?_)
     ·have h:=cond_t hb39 h
      refine yyy hn 2 [4] ?_
      refine ht_ret ?_
      refine pt_r_in ?_
      refine pt_r_then ?_
      refine pt_r_then ?_
      refine pt_r_in ?_
      refine pt_r_then ?_
      have h:=hr30 _ (ho31 _ (zi h).symm).symm
      obtain rfl:=zi h
      exact pt_ret hio rfl (.tmp _ _ .nil) rfl rfl
     ·have h:=cond_f hb39 h
      refine ht_skip ?_
      refine pt_inb ?_
      refine pt_then ?_
      obtain ⟨v13, hv13, h⟩:=zn h
      refine yx hn 1 ?_
      refine ys 0 ⟨lb hv13⟩ ?_
      refine yw [5] 1 ?_
      refine ye [0,5] ?_
      exact pt_next _ (zi h).symm rfl
    ·intro u36 h hl37 hr38
     obtain ⟨v3, hv3, h⟩:=zn h
     obtain ⟨v4, hv4, h⟩:=zn h
     refine cond_some h (fun hg4_5 h => ?_) (fun hg4_5 h => ?_)
     ·obtain ⟨v5, hv5, h⟩:=zn h
      obtain ⟨v6, hv6, h⟩:=zn h
      obtain ⟨v7, hv7, h⟩:=zn h
      refine yx hn 2 ?_
      refine ys 0 ⟨li hv3⟩ ?_
      refine ys 2 ⟨ll hv4⟩ ?_
      refine yd hg4_5 2 ?_
      refine ys 0 ⟨lb hv5⟩ ?_
      refine ys 0 ⟨li hv6⟩ ?_
      refine ys 2 ⟨ll hv7⟩ ?_
      refine ye [0,5,26] ?_
      exact hl37 _ (zi h).symm
     ·refine yx hn 2 ?_
      refine ys 0 ⟨li hv3⟩ ?_
      refine ys 2 ⟨ll hv4⟩ ?_
      refine yd hg4_5 7 ?_
      refine ye [0,5,26] ?_
      exact hl37 _ (zi h).symm
   ·have h:=cond_f hb34 h
    refine ht_exit ?_
    refine pt_x_then ?_
    refine pt_x_then ?_
    refine pt_x_in ?_
    refine pt_pick [] (by kernel_rfl) (es':=[]) rfl ?_
    exact hl29 _ (ho31 _ (zi h).symm).symm
theorem ok_wherryref11_Lines (b:(List Int)) (r:(List (List Int))) (h:Sh.wherryref11_Lines b=some r):FnOK Tryz.prog 37 [.fl .shr 1 (map (int .u8) b)] (.fr (.own 25) false 1 (flatten (map Row_int_u8.ienc r))):=by
  unfold Sh.wherryref11_Lines at h
  refine yO 24 func37 fun g0 hn hio => ?_
  refine yyy hn 1 [0] ?_
  refine yyy hn 1 [0,3] ?_
  refine yyy hn 1 [0,3,4] ?_
  refine ht_seq ?_
  refine ht_seq ?_
  obtain ⟨v1, hv1, h⟩:=zn h
  refine yx hn 1 ?_
  refine ys 1 ⟨lk call54 (ok_wherryref11_end _ _ _ hv1)⟩ ?_
  refine yee [0,3,4,5] ?_
  refine ht_sub (fs:=[(0,fb b),(3,.fr (.own 25) false 1 (flatten (map Row_int_u8.ienc []))),(4,vi 0),(5,vi v1)]) (.same _ (.sub _ (sub_nil_fr 25 false 1) rfl (.same _ (.same _ .nil)))) ?_
  refine ht_loopS h (fun ((s14,s15,s16):(List (List Int))×Int×Int)=>[(0,fb b),(3,.fr (.own 25) false 1 (flatten (map Row_int_u8.ienc s14))),(4,vi s15),(5,vi s16)]) (fun (s18:(List (List Int)))=>[(3,.fr (.own 25) false 1 (flatten (map Row_int_u8.ienc s18)))]) ?_ ?_
  ·rintro s18 h
   refine pt_then ?_
   refine yxx hn 0 ?_
   refine ym 0 ?_
   refine ya 0 ?_
   refine yee [2] ?_
   refine ht_ret ?_
   obtain rfl:=zi h
   exact pt_ret hio rfl (.tmp _ _ .nil) rfl rfl
  ·rintro u19 hl20 hr21 ⟨s14, s15, s16⟩ rr24 h ho22
   refine ht_seq ?_
   refine yyy hn 2 [0,3,4,5,9] ?_
   refine ht_cond _ rfl (fun hb25 => ?_) (fun hb25 => ?_)
   ·have h:=cond_t hb25 h
    refine ht_skip ?_
    refine pt_then (ht_seq ?_)
    refine ht_block ?_
    refine ht_seq ?_
    obtain ⟨v3, hv3, h⟩:=zn h
    obtain ⟨v4, hv4, h⟩:=zn h
    obtain ⟨v7, hv7, h⟩:=zn h
    refine yx hn 0 ?_
    refine ym 3 ?_
    refine yS (fb v3) 0 ⟨op_sl _ _ _ s15 s16 _ underlying25 sz5 rfl rfl ⟨_,rfl⟩ ⟨_,rfl⟩ hv3⟩ ?_
    refine yS (.fl .ro 1 (map (int .u8) v4)) 0 ⟨LOp.frzG 0 (op_call _ _ 23 _ _ rfl call23 rfl (ok_wherrykeep_Twin v3 _ hv4) rfl rfl) (zl rfl) rfl⟩ ?_
    refine yS (.fr (.own 25) false 1 (flatten (map Row_int_u8.ienc [v4]))) 0 ⟨op_build1_fr _ _ _ 1 (.slice none 0 0) false _ _ underlying80 sz25 zr25 rfl rfl (.cons (.ro _ _ rfl) (.nil)) rfl (by decide) (by decide)⟩ ?_
    refine yk [13] [19] ?_
    refine ytt (13,.any) (20,.fr (.own 25) false 1 (flatten (map Row_int_u8.ienc v7))) 0 ⟨op_app_fr _ _ _ _ _ el80 rfl rfl (gflat_len Row_int_u8.ilen _) (gflat_len Row_int_u8.ilen _) hv7 (gflat_app (app_eq hv7)) (by decide) (by decide)⟩ ?_
    refine ya 0 ?_
    refine yee [0,5,3] ?_
    obtain ⟨v8, hv8, h⟩:=zn h
    refine yx hn 1 ?_
    refine ys 1 ⟨lb hv8⟩ ?_
    refine ye [0,3,4] ?_
    refine pt_inb ?_
    refine pt_then ?_
    obtain ⟨v9, hv9, h⟩:=zn h
    refine yx hn 2 ?_
    refine ys 1 ⟨lk call54 (ok_wherryref11_end _ _ _ hv9)⟩ ?_
    refine ye [0,3,4,5] ?_
    exact pt_next _ (zi h).symm rfl
   ·have h:=cond_f hb25 h
    refine ht_exit ?_
    refine pt_x_then ?_
    refine pt_x_then ?_
    refine pt_x_in ?_
    refine pt_pick [1] (by kernel_rfl) (es':=[(_,_)]) rfl ?_
    exact hl20 _ (ho22 _ (zi h).symm).symm
theorem ok_wherryref11_Fold (s:ByteArray) (r:ByteArray) (h:Sh.wherryref11_Fold s=some r):FnOK Tryz.prog 55 [.v (.string s)] (.v (.string r)):=by
  unfold Sh.wherryref11_Fold at h
  refine yO 29 func55 fun g0 hn hio => ?_
  refine yyy hn 1 [0] ?_
  refine yyy hn 1 [0,3] ?_
  refine ht_seq ?_
  refine yyy hn 1 [0,3,4] ?_
  refine ht_sub (fs:=[(0,vs s),(3,.fl (.own 5) 1 (map (int .u8) [])),(4,vi 0)]) (.same _ (.sub _ (sub_nil 5 1) rfl (.same _ .nil))) ?_
  refine ht_loopS h (fun ((s37,s38):(List Int)×Int)=>[(0,vs s),(3,.fl (.own 5) 1 (map (int .u8) s37)),(4,vi s38)]) (fun (s54:(List Int))=>[(3,.fl (.own 5) 1 (map (int .u8) s54))]) ?_ ?_
  ·rintro s54 h
   refine pt_then (ht_seq ?_)
   obtain ⟨v76, hv76, h⟩:=zn h
   refine yx hn 0 ?_
   refine ym 0 ?_
   refine ys 1 ⟨lS hv76⟩ ?_
   refine yee [2] ?_
   refine ht_ret ?_
   obtain rfl:=zi h
   exact pt_ret hio rfl (.tmp _ _ .nil) rfl rfl
  ·rintro u55 hl56 hr57 ⟨s37, s38⟩ rr60 h ho58
   refine ht_seq ?_
   refine yyy hn 4 [0,3,4,9] ?_
   refine ht_cond _ rfl (fun hb61 => ?_) (fun hb61 => ?_)
   ·have h:=cond_t hb61 h
    refine ht_skip ?_
    refine pt_then (ht_seq ?_)
    refine ht_block ?_
    refine ht_seq ?_
    obtain ⟨v2, hv2, h⟩:=zn h
    refine yx hn 2 ?_
    refine ys 1 ⟨lh hv2⟩ ?_
    refine yee [0,3,4,5] ?_
    refine ht_seq ?_
    refine ht_joinS h (fun (s67:Int)=>[(0,vs s),(3,.fl (.own 5) 1 (map (int .u8) s37)),(4,vi s38),(5,.v (.int .u8 s67))]) ?_ ?_
    ·rintro s67 h
     refine pt_then ?_
     obtain ⟨v18, hv18, h⟩:=zn h
     refine yx hn 0 ?_
     refine ym 1 ?_
     refine yS (.fl (.own 5) 1 (map (int .u8) [s67])) 0 ⟨op_buildSlice _ _ 1 (.int .u8 0) (map (int .u8) [s67]) [(0,.int .u8 s67)] underlying25 sz5 zr5 (fun _ V w o a hv hes=>by have e0:=rd_v hv hes (x := .tmp 24) rfl; simp only [List.map_toArray,List.map_cons,List.map_nil,e0]; try rfl) (litfill (by simp [Instr.fill,Value.cells]; rfl) (by simp [List.range,List.range.loop] <;> rfl)) (by simp [Value.oneCell']) rfl (by decide) (by decide) (by decide)⟩ ?_
     refine yp el25 hv18 0 ?_
     refine ya 0 ?_
     refine ye [0,4,3] ?_
     refine pt_inb ?_
     refine pt_then ?_
     obtain ⟨v19, hv19, h⟩:=zn h
     refine yx hn 1 ?_
     refine ys 0 ⟨lb hv19⟩ ?_
     refine yw [4] 1 ?_
     refine ye [0,3,4] ?_
     exact pt_next _ (zi h).symm rfl
    ·intro u68 h hl69 hr70
     refine ht_seq ?_
     refine ht_joinS h (fun (s71:Bool)=>[(0,vs s),(3,.fl (.own 5) 1 (map (int .u8) s37)),(4,vi s38),(5,.v (.int .u8 v2)),(20,vb s71)]) ?_ ?_
     ·rintro s71 h
      refine pt_then ?_
      refine ht_cond _ rfl (fun hb75 => ?_) (fun hb75 => ?_)
      ·have h:=cond_t hb75 h
       obtain ⟨v8, hv8, h⟩:=zn h
       refine yx hn 1 ?_
       refine ys 0 ⟨lb hv8⟩ ?_
       refine yw [5] 1 ?_
       refine ye [0,3,4,5] ?_
       exact hl69 _ (zi h).symm
      ·have h:=cond_f hb75 h
       refine ht_skip ?_
       refine pt_pick [0,1,2,3] (by kernel_rfl) (es':=[(_,_),(_,_),(_,_),(_,_)]) rfl ?_
       exact hl69 _ (zi h).symm
     ·intro u72 h hl73 hr74
      refine cond_some h (fun hg6_2 h => ?_) (fun hg6_2 h => ?_)
      ·refine yx hn 3 ?_
       refine yd hg6_2 3 ?_
       refine ye [0,3,4,5,20] ?_
       exact hl73 _ (zi h).symm
      ·refine yx hn 3 ?_
       refine yd hg6_2 3 ?_
       refine ye [0,3,4,5,20] ?_
       exact hl73 _ (zi h).symm
   ·have h:=cond_f hb61 h
    refine ht_exit ?_
    refine pt_x_then ?_
    refine pt_x_then ?_
    refine pt_x_in ?_
    refine pt_pick [1] (by kernel_rfl) (es':=[(_,_)]) rfl ?_
    exact hl56 _ (ho58 _ (zi h).symm).symm
theorem ok_wherryref11_begins (s:ByteArray) (with_:ByteArray) (r:(ByteArray×Bool)) (h:Sh.wherryref11_begins s with_=some r):FnOK Tryz.prog 38 [.v (.string s), .v (.string with_)] (.tup [.v (.string r.1), .v (.bool r.2)]):=by
  unfold Sh.wherryref11_begins at h
  refine yO 24 func38 fun g0 hn hio => ?_
  refine yyy hn 2 [0,1] ?_
  refine ht_seq ?_
  refine ht_seq ?_
  refine ht_joinS h (fun (s3:Bool)=>[(0,vs s),(1,vs with_),(19,vb s3)]) ?_ ?_
  ·rintro s3 h
   refine pt_then ?_
   refine ht_cond _ rfl (fun hb7 => ?_) (fun hb7 => ?_)
   ·have h:=cond_t hb7 h
    refine yyy hn 2 [4,5] ?_
    refine ht_ret ?_
    refine pt_r_then ?_
    obtain rfl:=zi h
    exact pt_ret hio rfl (.tmp _ _ (.tmp _ _ .nil)) rfl rfl
   ·have h:=cond_f hb7 h
    refine ht_skip ?_
    refine pt_then (ht_seq ?_)
    obtain ⟨v8, hv8, h⟩:=zn h
    refine yx hn 3 ?_
    refine yS (vs v8) 2 ⟨op_substr _ _ _ (with_.size:Int) (s.size:Int) _ underlying9 rfl ⟨_,rfl⟩ rfl hv8⟩ ?_
    refine yee [4,5] ?_
    refine ht_ret ?_
    obtain rfl:=zi h
    exact pt_ret hio rfl (.tmp _ _ (.tmp _ _ .nil)) rfl rfl
  ·intro u4 h hl5 hr6
   refine cond_some h (fun hg1_5 h => ?_) (fun hg1_5 h => ?_)
   ·refine yx hn 6 ?_
    refine yd hg1_5 8 ?_
    refine ye [0,1,19] ?_
    exact hl5 _ (zi h).symm
   ·obtain ⟨v1, hv1, h⟩:=zn h
    obtain ⟨v2, hv2, h⟩:=zn h
    refine yx hn 6 ?_
    refine yd hg1_5 3 ?_
    refine yS (vs v1) 0 ⟨op_substr _ _ _ 0 (with_.size:Int) _ underlying9 rfl rfl ⟨_,rfl⟩ hv1⟩ ?_
    refine ys 3 ⟨lk call55 (ok_wherryref11_Fold _ _ hv2)⟩ ?_
    refine ye [0,1,19] ?_
    exact hl5 _ (zi h).symm
theorem ok_wherryref11_in (n:Int) (lo:Int) (hi:Int) (r:Bool) (h:Sh.wherryref11_in n lo hi=some r):FnOK Tryz.prog 76 [.v (.int .i64 n), .v (.int .i64 lo), .v (.int .i64 hi)] (.v (.bool r)):=by
  unfold Sh.wherryref11_in at h
  refine yO 15 func76 fun g0 hn hio => ?_
  refine yyy hn 1 [0,1,2] ?_
  refine ht_seq ?_
  refine ht_joinS h (fun (s1:Bool)=>[(6,vb s1)]) ?_ ?_
  ·rintro s1 h
   refine pt_then (ht_ret ?_)
   obtain rfl:=zi h
   exact pt_ret hio rfl (.tmp _ _ .nil) rfl rfl
  ·intro u2 h hl3 hr4
   refine cond_some h (fun hg1_3 h => ?_) (fun hg1_3 h => ?_)
   ·refine yx hn 4 ?_
    refine yd hg1_3 5 ?_
    refine ye [6] ?_
    exact hl3 _ (zi h).symm
   ·refine yx hn 4 ?_
    refine yd hg1_3 5 ?_
    refine ye [6] ?_
    exact hl3 _ (zi h).symm
theorem ok_wherryref11_letter (c:Int) (r:Bool) (h:Sh.wherryref11_letter c=some r):FnOK Tryz.prog 77 [.v (.int .u8 c)] (.v (.bool r)):=by
  unfold Sh.wherryref11_letter at h
  refine yO 17 func77 fun g0 hn hio => ?_
  refine yyy hn 1 [0] ?_
  refine ht_seq ?_
  refine ht_joinS h (fun (s1:Bool)=>[(2,vb s1)]) ?_ ?_
  ·rintro s1 h
   refine pt_then (ht_ret ?_)
   obtain rfl:=zi h
   exact pt_ret hio rfl (.tmp _ _ .nil) rfl rfl
  ·intro u2 h hl3 hr4
   refine cond_some h (fun hg1_2 h => ?_) (fun hg1_2 h => ?_)
   ·refine cond_some h (fun hg1_6 h => ?_) (fun hg1_6 h => ?_)
    ·refine yx hn 3 ?_
     refine yd hg1_2 4 ?_
     refine yd hg1_6 8 ?_
     refine ye [2] ?_
     exact hl3 _ (zi h).symm
    ·refine cond_some h (fun hg1_9 h => ?_) (fun hg1_9 h => ?_)
     ·refine yx hn 3 ?_
      refine yd hg1_2 4 ?_
      refine yd hg1_6 3 ?_
      refine yd hg1_9 5 ?_
      refine ye [2] ?_
      exact hl3 _ (zi h).symm
     ·refine yx hn 3 ?_
      refine yd hg1_2 4 ?_
      refine yd hg1_6 3 ?_
      refine yd hg1_9 5 ?_
      refine ye [2] ?_
      exact hl3 _ (zi h).symm
   ·refine cond_some h (fun hg1_9 h => ?_) (fun hg1_9 h => ?_)
    ·refine yx hn 3 ?_
     refine yd hg1_2 7 ?_
     refine yd hg1_9 5 ?_
     refine ye [2] ?_
     exact hl3 _ (zi h).symm
    ·refine yx hn 3 ?_
     refine yd hg1_2 7 ?_
     refine yd hg1_9 5 ?_
     refine ye [2] ?_
     exact hl3 _ (zi h).symm
theorem ok_wherryref11_digit (c:Int) (r:Bool) (h:Sh.wherryref11_digit c=some r):FnOK Tryz.prog 78 [.v (.int .u8 c)] (.v (.bool r)):=by
  unfold Sh.wherryref11_digit at h
  refine yO 9 func78 fun g0 hn hio => ?_
  refine yyy hn 1 [0] ?_
  refine ht_seq ?_
  refine ht_joinS h (fun (s1:Bool)=>[(2,vb s1)]) ?_ ?_
  ·rintro s1 h
   refine pt_then (ht_ret ?_)
   obtain rfl:=zi h
   exact pt_ret hio rfl (.tmp _ _ .nil) rfl rfl
  ·intro u2 h hl3 hr4
   refine cond_some h (fun hg1_2 h => ?_) (fun hg1_2 h => ?_)
   ·refine yx hn 3 ?_
    refine yd hg1_2 4 ?_
    refine ye [2] ?_
    exact hl3 _ (zi h).symm
   ·refine yx hn 3 ?_
    refine yd hg1_2 4 ?_
    refine ye [2] ?_
    exact hl3 _ (zi h).symm
theorem ok_wherryref11_sign (c:Int) (r:Bool) (h:Sh.wherryref11_sign c=some r):FnOK Tryz.prog 92 [.v (.int .u8 c)] (.v (.bool r)):=by
  unfold Sh.wherryref11_sign at h
  refine yO 24 func92 fun g0 hn hio => ?_
  refine yyy hn 1 [0] ?_
  refine ht_seq ?_
  refine ht_seq ?_
  refine ht_joinS h (fun (s3:Bool)=>[(0,.v (.int .u8 c)),(10,vb s3)]) ?_ ?_
  ·rintro s3 h
   refine pt_then ?_
   refine ht_cond _ rfl (fun hb7 => ?_) (fun hb7 => ?_)
   ·have h:=cond_t hb7 h
    refine yyy hn 1 [2] ?_
    refine ht_ret ?_
    refine pt_r_then ?_
    obtain rfl:=zi h
    exact pt_ret hio rfl (.tmp _ _ .nil) rfl rfl
   ·have h:=cond_f hb7 h
    refine ht_skip ?_
    refine pt_then ?_
    refine yyy hn 1 [0,3] ?_
    refine ht_seq ?_
    refine yyy hn 1 [0,3,4] ?_
    refine ht_loopS h (fun (s15:Int)=>[(0,.v (.int .u8 c)),(3,vs (⟨#[33,35,36,37,38,39,42,43,45,47,61,63,94,95,123,124,125,126]⟩:ByteArray)),(4,vi s15)]) (fun (():Unit)=>[(0,.v (.int .u8 c))]) ?_ ?_
    ·rintro ⟨⟩ h
     refine pt_then ?_
     refine yyy hn 3 [2] ?_
     refine ht_ret ?_
     obtain rfl:=zi h
     exact pt_ret hio rfl (.tmp _ _ .nil) rfl rfl
    ·rintro u18 hl19 hr20 s15 rr23 h ho21
     refine ht_seq ?_
     refine yyy hn 4 [0,3,4,14] ?_
     refine ht_cond _ rfl (fun hb24 => ?_) (fun hb24 => ?_)
     ·have h:=cond_t hb24 h
      refine ht_skip ?_
      refine pt_then (ht_seq ?_)
      refine ht_block ?_
      refine ht_seq ?_
      obtain ⟨v9, hv9, h⟩:=zn h
      refine yx hn 2 ?_
      refine ys 2 ⟨lh hv9⟩ ?_
      refine yee [0,3,4,21] ?_
      refine ht_cond _ rfl (fun hb25 => ?_) (fun hb25 => ?_)
      ·have h:=cond_t hb25 h
       refine yyy hn 1 [2] ?_
       refine ht_ret ?_
       refine pt_r_in ?_
       refine pt_r_then ?_
       refine pt_r_then ?_
       refine pt_r_in ?_
       refine pt_r_then ?_
       have h:=hr20 _ (ho21 _ (zi h).symm).symm
       obtain rfl:=zi h
       exact pt_ret hio rfl (.tmp _ _ .nil) rfl rfl
      ·have h:=cond_f hb25 h
       refine ht_skip ?_
       refine pt_inb ?_
       refine pt_then ?_
       obtain ⟨v11, hv11, h⟩:=zn h
       refine yx hn 1 ?_
       refine ys 0 ⟨lb hv11⟩ ?_
       refine yw [4] 1 ?_
       refine ye [0,3,4] ?_
       exact pt_next _ (zi h).symm rfl
     ·have h:=cond_f hb24 h
      refine ht_exit ?_
      refine pt_x_then ?_
      refine pt_x_then ?_
      refine pt_x_in ?_
      refine pt_pick [0] (by kernel_rfl) (es':=[(_,_)]) rfl ?_
      exact hl19 _ (ho21 _ (zi h).symm).symm
  ·intro u4 h hl5 hr6
   obtain ⟨v1, hv1, h⟩:=zn h
   refine cond_some h (fun hg1_2 h => ?_) (fun hg1_2 h => ?_)
   ·refine yx hn 1 ?_
    refine ys 1 ⟨lk call77 (ok_wherryref11_letter _ _ hv1)⟩ ?_
    refine yd hg1_2 3 ?_
    refine ye [0,10] ?_
    exact hl5 _ (zi h).symm
   ·obtain ⟨v2, hv2, h⟩:=zn h
    refine yx hn 1 ?_
    refine ys 1 ⟨lk call77 (ok_wherryref11_letter _ _ hv1)⟩ ?_
    refine yd hg1_2 1 ?_
    refine ys 1 ⟨lk call78 (ok_wherryref11_digit _ _ hv2)⟩ ?_
    refine ye [0,10] ?_
    exact hl5 _ (zi h).symm
theorem ok_wherryref11_Local (s:ByteArray) (r:Bool) (h:Sh.wherryref11_Local s=some r):FnOK Tryz.prog 75 [.v (.string s)] (.v (.bool r)):=by
  unfold Sh.wherryref11_Local at h
  refine yO 51 func75 fun g0 hn hio => ?_
  refine yyy hn 1 [0] ?_
  refine ht_seq ?_
  refine ht_seq ?_
  refine ht_joinS h (fun (s5:Bool)=>[(0,vs s),(20,vb s5)]) ?_ ?_
  ·rintro s5 h
   refine pt_then ?_
   refine ht_cond _ rfl (fun hb9 => ?_) (fun hb9 => ?_)
   ·have h:=cond_t hb9 h
    refine yyy hn 1 [2] ?_
    refine ht_ret ?_
    refine pt_r_then ?_
    obtain rfl:=zi h
    exact pt_ret hio rfl (.tmp _ _ .nil) rfl rfl
   ·have h:=cond_f hb9 h
    refine ht_skip ?_
    refine pt_then (ht_seq ?_)
    refine yyy hn 1 [0,3] ?_
    refine ht_loopS h (fun (s33:Int)=>[(0,vs s),(3,vi s33)]) (fun (():Unit)=>[]) ?_ ?_
    ·rintro ⟨⟩ h
     refine pt_then ?_
     refine yyy hn 1 [2] ?_
     refine ht_ret ?_
     obtain rfl:=zi h
     exact pt_ret hio rfl (.tmp _ _ .nil) rfl rfl
    ·rintro u40 hl41 hr42 s33 rr45 h ho43
     refine ht_seq ?_
     refine yyy hn 4 [0,3,24] ?_
     refine ht_cond _ rfl (fun hb46 => ?_) (fun hb46 => ?_)
     ·have h:=cond_t hb46 h
      refine ht_skip ?_
      refine pt_then (ht_seq ?_)
      refine ht_block ?_
      refine ht_seq ?_
      refine ht_joinS h (fun (s47:Bool)=>[(0,vs s),(3,vi s33),(50,vb s47)]) ?_ ?_
      ·rintro s47 h
       refine pt_then ?_
       refine ht_cond _ rfl (fun hb51 => ?_) (fun hb51 => ?_)
       ·have h:=cond_t hb51 h
        refine yyy hn 1 [2] ?_
        refine ht_ret ?_
        refine pt_r_in ?_
        refine pt_r_then ?_
        refine pt_r_then ?_
        refine pt_r_in ?_
        refine pt_r_then ?_
        have h:=hr42 _ (ho43 _ (zi h).symm).symm
        obtain rfl:=zi h
        exact pt_ret hio rfl (.tmp _ _ .nil) rfl rfl
       ·have h:=cond_f hb51 h
        refine ht_skip ?_
        refine pt_inb ?_
        refine pt_then ?_
        obtain ⟨v25, hv25, h⟩:=zn h
        refine yx hn 1 ?_
        refine ys 0 ⟨lb hv25⟩ ?_
        refine yw [3] 1 ?_
        refine ye [0,3] ?_
        exact pt_next _ (zi h).symm rfl
      ·intro u48 h hl49 hr50
       obtain ⟨v11, hv11, h⟩:=zn h
       refine cond_some h (fun hg6_4 h => ?_) (fun hg6_4 h => ?_)
       ·obtain ⟨v12, hv12, h⟩:=zn h
        obtain ⟨v13, hv13, h⟩:=zn h
        refine cond_some h (fun hg6_11 h => ?_) (fun hg6_11 h => ?_)
        ·refine yx hn 2 ?_
         refine ys 2 ⟨lh hv11⟩ ?_
         refine yd hg6_4 2 ?_
         refine ys 0 ⟨lb hv12⟩ ?_
         refine ys 3 ⟨lh hv13⟩ ?_
         refine yd hg6_11 12 ?_
         refine ye [0,3,50] ?_
         exact hl49 _ (zi h).symm
        ·obtain ⟨v14, hv14, h⟩:=zn h
         refine cond_some h (fun hg6_16 h => ?_) (fun hg6_16 h => ?_)
         ·obtain ⟨v15, hv15, h⟩:=zn h
          obtain ⟨v16, hv16, h⟩:=zn h
          refine yx hn 2 ?_
          refine ys 2 ⟨lh hv11⟩ ?_
          refine yd hg6_4 2 ?_
          refine ys 0 ⟨lb hv12⟩ ?_
          refine ys 3 ⟨lh hv13⟩ ?_
          refine yd hg6_11 2 ?_
          refine ys 2 ⟨lh hv14⟩ ?_
          refine yd hg6_16 2 ?_
          refine ys 0 ⟨lh hv15⟩ ?_
          refine ys 3 ⟨lk call92 (ok_wherryref11_sign _ _ hv16)⟩ ?_
          refine ye [0,3,50] ?_
          exact hl49 _ (zi h).symm
         ·refine yx hn 2 ?_
          refine ys 2 ⟨lh hv11⟩ ?_
          refine yd hg6_4 2 ?_
          refine ys 0 ⟨lb hv12⟩ ?_
          refine ys 3 ⟨lh hv13⟩ ?_
          refine yd hg6_11 2 ?_
          refine ys 2 ⟨lh hv14⟩ ?_
          refine yd hg6_16 7 ?_
          refine ye [0,3,50] ?_
          exact hl49 _ (zi h).symm
       ·obtain ⟨v17, hv17, h⟩:=zn h
        refine cond_some h (fun hg6_16 h => ?_) (fun hg6_16 h => ?_)
        ·obtain ⟨v18, hv18, h⟩:=zn h
         obtain ⟨v19, hv19, h⟩:=zn h
         refine yx hn 2 ?_
         refine ys 2 ⟨lh hv11⟩ ?_
         refine yd hg6_4 9 ?_
         refine ys 2 ⟨lh hv17⟩ ?_
         refine yd hg6_16 2 ?_
         refine ys 0 ⟨lh hv18⟩ ?_
         refine ys 3 ⟨lk call92 (ok_wherryref11_sign _ _ hv19)⟩ ?_
         refine ye [0,3,50] ?_
         exact hl49 _ (zi h).symm
        ·refine yx hn 2 ?_
         refine ys 2 ⟨lh hv11⟩ ?_
         refine yd hg6_4 9 ?_
         refine ys 2 ⟨lh hv17⟩ ?_
         refine yd hg6_16 7 ?_
         refine ye [0,3,50] ?_
         exact hl49 _ (zi h).symm
     ·have h:=cond_f hb46 h
      refine ht_exit ?_
      refine pt_x_then ?_
      refine pt_x_then ?_
      refine pt_x_in ?_
      refine pt_pick [] (by kernel_rfl) (es':=[]) rfl ?_
      exact hl41 _ (ho43 _ (zi h).symm).symm
  ·intro u6 h hl7 hr8
   obtain ⟨v1, hv1, h⟩:=zn h
   refine cond_some h (fun hg1_4 h => ?_) (fun hg1_4 h => ?_)
   ·refine yx hn 2 ?_
    refine ys 2 ⟨lk call76 (ok_wherryref11_in _ _ _ _ hv1)⟩ ?_
    refine yd hg1_4 12 ?_
    refine ye [0,20] ?_
    exact hl7 _ (zi h).symm
   ·obtain ⟨v2, hv2, h⟩:=zn h
    refine cond_some h (fun hg1_9 h => ?_) (fun hg1_9 h => ?_)
    ·refine yx hn 2 ?_
     refine ys 2 ⟨lk call76 (ok_wherryref11_in _ _ _ _ hv1)⟩ ?_
     refine yd hg1_4 1 ?_
     refine ys 3 ⟨lh hv2⟩ ?_
     refine yd hg1_9 7 ?_
     refine ye [0,20] ?_
     exact hl7 _ (zi h).symm
    ·obtain ⟨v3, hv3, h⟩:=zn h
     obtain ⟨v4, hv4, h⟩:=zn h
     refine yx hn 2 ?_
     refine ys 2 ⟨lk call76 (ok_wherryref11_in _ _ _ _ hv1)⟩ ?_
     refine yd hg1_4 1 ?_
     refine ys 3 ⟨lh hv2⟩ ?_
     refine yd hg1_9 3 ?_
     refine ys 0 ⟨lb hv3⟩ ?_
     refine ys 2 ⟨lh hv4⟩ ?_
     refine ye [0,20] ?_
     exact hl7 _ (zi h).symm
theorem ok_wherryref11_Domain (s:ByteArray) (r:Bool) (h:Sh.wherryref11_Domain s=some r):FnOK Tryz.prog 58 [.v (.string s)] (.v (.bool r)):=by
  unfold Sh.wherryref11_Domain at h
  refine yO 63 func58 fun g0 hn hio => ?_
  refine yyy hn 1 [0] ?_
  refine ht_seq ?_
  refine ht_seq ?_
  obtain ⟨v1, hv1, h⟩:=zn h
  refine yx hn 2 ?_
  refine ys 1 ⟨lk call76 (ok_wherryref11_in _ _ _ _ hv1)⟩ ?_
  refine yee [0,8] ?_
  refine ht_cond _ rfl (fun hb2 => ?_) (fun hb2 => ?_)
  ·have h:=cond_t hb2 h
   refine yyy hn 1 [2] ?_
   refine ht_ret ?_
   refine pt_r_then ?_
   obtain rfl:=zi h
   exact pt_ret hio rfl (.tmp _ _ .nil) rfl rfl
  ·have h:=cond_f hb2 h
   refine ht_skip ?_
   refine pt_then ?_
   refine yyy hn 1 [0,3] ?_
   refine ht_seq ?_
   refine yyy hn 1 [0,3,4] ?_
   refine ht_loopS h (fun ((s88,s89):Int×Int)=>[(0,vs s),(3,vi s88),(4,vi s89)]) (fun (():Unit)=>[]) ?_ ?_
   ·rintro ⟨⟩ h
    refine pt_then ?_
    refine yyy hn 1 [2] ?_
    refine ht_ret ?_
    obtain rfl:=zi h
    exact pt_ret hio rfl (.tmp _ _ .nil) rfl rfl
   ·rintro u125 hl126 hr127 ⟨s88, s89⟩ rr130 h ho128
    refine ht_seq ?_
    refine yyy hn 4 [0,3,4,12] ?_
    refine ht_cond _ rfl (fun hb131 => ?_) (fun hb131 => ?_)
    ·have h:=cond_t hb131 h
     refine ht_skip ?_
     refine pt_then (ht_seq ?_)
     refine ht_joinS h (fun (s147:Int)=>[(0,vs s),(3,vi s147),(4,vi s89)]) ?_ ?_
     ·rintro s147 h
      refine pt_then ?_
      obtain ⟨v50, hv50, h⟩:=zn h
      refine yx hn 1 ?_
      refine ys 0 ⟨lb hv50⟩ ?_
      refine yw [4] 1 ?_
      refine ye [0,3,4] ?_
      exact pt_next _ (zi h).symm rfl
     ·intro u148 h hl149 hr150
      refine ht_block ?_
      refine ht_seq ?_
      refine ht_seq ?_
      refine ht_joinS h (fun (s151:Bool)=>[(0,vs s),(3,vi s88),(4,vi s89),(24,vb s151)]) ?_ ?_
      ·rintro s151 h
       refine pt_then ?_
       refine ht_cond _ rfl (fun hb155 => ?_) (fun hb155 => ?_)
       ·have h:=cond_t hb155 h
        refine ht_seq ?_
        refine ht_seq ?_
        refine ht_joinS h (fun (s156:Bool)=>[(0,vs s),(3,vi s88),(4,vi s89),(42,vb s156)]) ?_ ?_
        ·rintro s156 h
         refine pt_then ?_
         refine ht_cond _ rfl (fun hb160 => ?_) (fun hb160 => ?_)
         ·have h:=cond_t hb160 h
          refine yyy hn 1 [2] ?_
          refine ht_ret ?_
          refine pt_r_then ?_
          refine pt_r_then ?_
          refine pt_r_in ?_
          refine pt_r_then ?_
          refine pt_r_then ?_
          refine pt_r_in ?_
          refine pt_r_then ?_
          have h:=hr150 _ (zi h).symm
          have h:=hr127 _ (ho128 _ (zi h).symm).symm
          obtain rfl:=zi h
          exact pt_ret hio rfl (.tmp _ _ .nil) rfl rfl
         ·have h:=cond_f hb160 h
          refine ht_skip ?_
          refine pt_then ?_
          refine ht_exit ?_
          refine pt_x_then ?_
          refine pt_x_in ?_
          refine pt_pick [0,1,2] (by kernel_rfl) (es':=[(_,_),(_,_),(_,_)]) rfl ?_
          exact hl149 _ (zi h).symm
        ·intro u157 h hl158 hr159
         obtain ⟨v10, hv10, h⟩:=zn h
         obtain ⟨v11, hv11, h⟩:=zn h
         refine cond_some h (fun hg8_5 h => ?_) (fun hg8_5 h => ?_)
         ·obtain ⟨v12, hv12, h⟩:=zn h
          obtain ⟨v13, hv13, h⟩:=zn h
          refine cond_some h (fun hg8_12 h => ?_) (fun hg8_12 h => ?_)
          ·obtain ⟨v14, hv14, h⟩:=zn h
           refine yx hn 2 ?_
           refine ys 0 ⟨lh hv10⟩ ?_
           refine ys 2 ⟨lk call77 (ok_wherryref11_letter _ _ hv11)⟩ ?_
           refine yd hg8_5 2 ?_
           refine ys 0 ⟨lh hv12⟩ ?_
           refine ys 3 ⟨lk call78 (ok_wherryref11_digit _ _ hv13)⟩ ?_
           refine yd hg8_12 2 ?_
           refine ys 2 ⟨lh hv14⟩ ?_
           refine ye [0,3,4,42] ?_
           exact hl158 _ (zi h).symm
          ·refine yx hn 2 ?_
           refine ys 0 ⟨lh hv10⟩ ?_
           refine ys 2 ⟨lk call77 (ok_wherryref11_letter _ _ hv11)⟩ ?_
           refine yd hg8_5 2 ?_
           refine ys 0 ⟨lh hv12⟩ ?_
           refine ys 3 ⟨lk call78 (ok_wherryref11_digit _ _ hv13)⟩ ?_
           refine yd hg8_12 5 ?_
           refine ye [0,3,4,42] ?_
           exact hl158 _ (zi h).symm
         ·refine yx hn 2 ?_
          refine ys 0 ⟨lh hv10⟩ ?_
          refine ys 2 ⟨lk call77 (ok_wherryref11_letter _ _ hv11)⟩ ?_
          refine yd hg8_5 12 ?_
          refine ye [0,3,4,42] ?_
          exact hl158 _ (zi h).symm
       ·have h:=cond_f hb155 h
        refine ht_skip ?_
        refine pt_then (ht_seq ?_)
        refine ht_seq ?_
        refine ht_joinS h (fun (s161:Bool)=>[(0,vs s),(4,vi s89),(60,vb s161)]) ?_ ?_
        ·rintro s161 h
         refine pt_then ?_
         refine ht_cond _ rfl (fun hb165 => ?_) (fun hb165 => ?_)
         ·have h:=cond_t hb165 h
          refine yyy hn 1 [2] ?_
          refine ht_ret ?_
          refine pt_r_then ?_
          refine pt_r_in ?_
          refine pt_r_then ?_
          refine pt_r_then ?_
          refine pt_r_in ?_
          refine pt_r_then ?_
          have h:=hr150 _ (zi h).symm
          have h:=hr127 _ (ho128 _ (zi h).symm).symm
          obtain rfl:=zi h
          exact pt_ret hio rfl (.tmp _ _ .nil) rfl rfl
         ·have h:=cond_f hb165 h
          refine ht_skip ?_
          refine pt_then ?_
          obtain ⟨v30, hv30, h⟩:=zn h
          refine yx hn 1 ?_
          refine ys 1 ⟨lb hv30⟩ ?_
          refine ye [0,4,3] ?_
          refine pt_inb ?_
          refine pt_pick [0,2,1] (by kernel_rfl) (es':=[(_,_),(_,_),(_,_)]) rfl ?_
          exact hl149 _ (zi h).symm
        ·intro u162 h hl163 hr164
         obtain ⟨v20, hv20, h⟩:=zn h
         obtain ⟨v21, hv21, h⟩:=zn h
         refine cond_some h (fun hg10_5 h => ?_) (fun hg10_5 h => ?_)
         ·refine yx hn 2 ?_
          refine ys 0 ⟨lb hv20⟩ ?_
          refine ys 2 ⟨lk call76 (ok_wherryref11_in _ _ _ _ hv21)⟩ ?_
          refine yd hg10_5 12 ?_
          refine ye [0,4,60] ?_
          exact hl163 _ (zi h).symm
         ·obtain ⟨v22, hv22, h⟩:=zn h
          refine cond_some h (fun hg10_11 h => ?_) (fun hg10_11 h => ?_)
          ·refine yx hn 2 ?_
           refine ys 0 ⟨lb hv20⟩ ?_
           refine ys 2 ⟨lk call76 (ok_wherryref11_in _ _ _ _ hv21)⟩ ?_
           refine yd hg10_5 2 ?_
           refine ys 3 ⟨lh hv22⟩ ?_
           refine yd hg10_11 6 ?_
           refine ye [0,4,60] ?_
           exact hl163 _ (zi h).symm
          ·obtain ⟨v23, hv23, h⟩:=zn h
           obtain ⟨v24, hv24, h⟩:=zn h
           refine yx hn 2 ?_
           refine ys 0 ⟨lb hv20⟩ ?_
           refine ys 2 ⟨lk call76 (ok_wherryref11_in _ _ _ _ hv21)⟩ ?_
           refine yd hg10_5 2 ?_
           refine ys 3 ⟨lh hv22⟩ ?_
           refine yd hg10_11 2 ?_
           refine ys 0 ⟨lb hv23⟩ ?_
           refine ys 2 ⟨lh hv24⟩ ?_
           refine ye [0,4,60] ?_
           exact hl163 _ (zi h).symm
      ·intro u152 h hl153 hr154
       refine cond_some h (fun hg7_4 h => ?_) (fun hg7_4 h => ?_)
       ·obtain ⟨v4, hv4, h⟩:=zn h
        refine yx hn 5 ?_
        refine yd hg7_4 2 ?_
        refine ys 2 ⟨lh hv4⟩ ?_
        refine ye [0,3,4,24] ?_
        exact hl153 _ (zi h).symm
       ·refine yx hn 5 ?_
        refine yd hg7_4 5 ?_
        refine ye [0,3,4,24] ?_
        exact hl153 _ (zi h).symm
    ·have h:=cond_f hb131 h
     refine ht_exit ?_
     refine pt_x_then ?_
     refine pt_x_then ?_
     refine pt_x_in ?_
     refine pt_pick [] (by kernel_rfl) (es':=[]) rfl ?_
     exact hl126 _ (ho128 _ (zi h).symm).symm
theorem ok_wherryref11_Path (p:T_Path) (r:Bool) (h:Sh.wherryref11_Path p=some r):FnOK Tryz.prog 57 [.agg [.v (.bool p.Null), .v (.string p.Local), .v (.string p.Domain)]] (.v (.bool r)):=by
  unfold Sh.wherryref11_Path at h
  refine yO 21 func57 fun g0 hn hio => ?_
  refine yyy hn 2 [1] ?_
  refine ht_seq ?_
  refine yyy hn 2 [1,4] ?_
  refine ht_cond _ rfl (fun hb1 => ?_) (fun hb1 => ?_)
  ·have h:=cond_t hb1 h
   refine ht_seq ?_
   refine ht_joinS h (fun (s2:Bool)=>[(2,vb s2)]) ?_ ?_
   ·rintro s2 h
    refine pt_then (ht_ret ?_)
    refine pt_r_then ?_
    obtain rfl:=zi h
    exact pt_ret hio rfl (.tmp _ _ .nil) rfl rfl
   ·intro u3 h hl4 hr5
    refine cond_some h (fun hg2_3 h => ?_) (fun hg2_3 h => ?_)
    ·refine yx hn 4 ?_
     refine yd hg2_3 5 ?_
     refine ye [2] ?_
     exact hl4 _ (zi h).symm
    ·refine yx hn 4 ?_
     refine yd hg2_3 5 ?_
     refine ye [2] ?_
     exact hl4 _ (zi h).symm
  ·have h:=cond_f hb1 h
   refine ht_skip ?_
   refine pt_then (ht_seq ?_)
   refine ht_joinS h (fun (s8:Bool)=>[(2,vb s8)]) ?_ ?_
   ·rintro s8 h
    refine pt_then (ht_ret ?_)
    obtain rfl:=zi h
    exact pt_ret hio rfl (.tmp _ _ .nil) rfl rfl
   ·intro u9 h hl10 hr11
    obtain ⟨v6, hv6, h⟩:=zn h
    refine cond_some h (fun hg3_3 h => ?_) (fun hg3_3 h => ?_)
    ·obtain ⟨v7, hv7, h⟩:=zn h
     refine yx hn 2 ?_
     refine ys 1 ⟨lk call75 (ok_wherryref11_Local _ _ hv6)⟩ ?_
     refine yd hg3_3 2 ?_
     refine ys 2 ⟨lk call58 (ok_wherryref11_Domain _ _ hv7)⟩ ?_
     refine ye [2] ?_
     exact hl10 _ (zi h).symm
    ·refine yx hn 2 ?_
     refine ys 1 ⟨lk call75 (ok_wherryref11_Local _ _ hv6)⟩ ?_
     refine yd hg3_3 5 ?_
     refine ye [2] ?_
     exact hl10 _ (zi h).symm
theorem ok_wherryref11_keep (p:T_Path) (ok:Bool) (r:(T_Path×Bool)) (h:Sh.wherryref11_keep p ok=some r):FnOK Tryz.prog 56 [.agg [.v (.bool p.Null), .v (.string p.Local), .v (.string p.Domain)], .v (.bool ok)] (.tup [.agg [.v (.bool r.1.Null), .v (.string r.1.Local), .v (.string r.1.Domain)], .v (.bool r.2)]):=by
  unfold Sh.wherryref11_keep at h
  refine yO 10 func56 fun g0 hn hio => ?_
  refine yxx hn 1 ?_
  refine yS (.box 24 [vb false,vs z0,vs z0]) 1 ⟨oA (op_alloc _ _ zr24)⟩ ?_
  refine yee [1,2,4] ?_
  refine ht_seq ?_
  refine yyy hn 2 [2,4,7] ?_
  refine ht_cond _ rfl (fun hb1 => ?_) (fun hb1 => ?_)
  ·have h:=cond_t hb1 h
   refine yxx hn 0 ?_
   refine yS (.agg [vb false,vs z0,vs z0]) 0 ⟨op_build _ _ _ _ [1,1,1] _ _ underlying24 zr24 (fs24 _ underlying24) Src.nil rfl rfl rfl⟩ ?_
   refine yk [8,4] [] ?_
   refine yt (4,.box 24 [vb false,vs z0,vs z0]) 1 ⟨op_store_self _ _ _ 8 4 3 sz24 rfl rfl rfl rfl rfl (.eq _ (.eq _ (.eq _ (.nil _)))) rfl⟩ ?_
   refine yee [4,5] ?_
   refine ht_ret ?_
   refine pt_r_then ?_
   obtain rfl:=zi h
   exact pt_ret hio rfl (.cellA _ _ _ _ underlying24 rfl sz24 (.tmp _ _ .nil)) rfl rfl
  ·have h:=cond_f hb1 h
   refine ht_skip ?_
   refine pt_then ?_
   refine yyy hn 3 [4,5] ?_
   refine ht_ret ?_
   obtain rfl:=zi h
   exact pt_ret hio rfl (.cellA _ _ _ _ underlying24 rfl sz24 (.tmp _ _ .nil)) rfl rfl
theorem ok_wherryref11_Parse (s:ByteArray) (r:(T_Path×Bool)) (h:Sh.wherryref11_Parse s=some r):FnOK Tryz.prog 39 [.v (.string s)] (.tup [.agg [.v (.bool r.1.Null), .v (.string r.1.Local), .v (.string r.1.Domain)], .v (.bool r.2)]):=by
  unfold Sh.wherryref11_Parse at h
  refine yO 56 func39 fun g0 hn hio => ?_
  refine yxx hn 0 ?_
  refine yS (.box 24 [vb false,vs z0,vs z0]) 1 ⟨oA (op_alloc _ _ zr24)⟩ ?_
  refine yee [0,2] ?_
  refine ht_seq ?_
  refine yyy hn 2 [0,2,7] ?_
  refine ht_cond _ rfl (fun hb1 => ?_) (fun hb1 => ?_)
  ·have h:=cond_t hb1 h
   refine yxx hn 0 ?_
   refine yS (.agg [vb true,vs z0,vs z0]) 2 ⟨op_build _ _ _ _ [1,1,1] _ _ underlying24 zr24 (fs24 _ underlying24) (.copy _ Src.nil) rfl rfl rfl⟩ ?_
   refine yee [2,3] ?_
   refine ht_ret ?_
   refine pt_r_then ?_
   obtain rfl:=zi h
   exact pt_ret hio rfl (.cellA _ _ _ _ underlying24 rfl sz24 (.tmp _ _ .nil)) rfl rfl
  ·have h:=cond_f hb1 h
   refine ht_skip ?_
   refine pt_then (ht_seq ?_)
   refine ht_seq ?_
   refine ht_joinS h (fun (s5:Bool)=>[(0,vs s),(2,.box 24 [vb false,vs z0,vs z0]),(24,vb s5)]) ?_ ?_
   ·rintro s5 h
    refine pt_then ?_
    refine ht_cond _ rfl (fun hb9 => ?_) (fun hb9 => ?_)
    ·have h:=cond_t hb9 h
     refine yxx hn 0 ?_
     refine yS (.agg [vb false,vs z0,vs z0]) 0 ⟨op_build _ _ _ _ [1,1,1] _ _ underlying24 zr24 (fs24 _ underlying24) Src.nil rfl rfl rfl⟩ ?_
     refine yk [25,2] [] ?_
     refine yt (2,.box 24 [vb false,vs z0,vs z0]) 1 ⟨op_store_self _ _ _ 25 2 3 sz24 rfl rfl rfl rfl rfl (.eq _ (.eq _ (.eq _ (.nil _)))) rfl⟩ ?_
     refine yee [2,3] ?_
     refine ht_ret ?_
     refine pt_r_then ?_
     obtain rfl:=zi h
     exact pt_ret hio rfl (.cellA _ _ _ _ underlying24 rfl sz24 (.tmp _ _ .nil)) rfl rfl
    ·have h:=cond_f hb9 h
     refine ht_skip ?_
     refine pt_then (ht_seq ?_)
     obtain ⟨v10, hv10, h⟩:=zn h
     obtain ⟨v11, hv11, h⟩:=zn h
     refine yx hn 3 ?_
     refine ys 0 ⟨lb hv10⟩ ?_
     refine yS (vs v11) 0 ⟨op_substr _ _ _ 1 v10 _ underlying9 rfl ⟨_,rfl⟩ ⟨_,rfl⟩ hv11⟩ ?_
     refine yw [0] 1 ?_
     refine yee [2,0] ?_
     refine ht_seq ?_
     refine yyy hn 1 [2,0,4] ?_
     refine ht_loopS h (fun (s24:Int)=>[(2,.box 24 [vb false,vs z0,vs z0]),(0,vs v11),(4,vi s24)]) (fun (():Unit)=>[(2,.box 24 [vb false,vs z0,vs z0])]) ?_ ?_
     ·rintro ⟨⟩ h
      refine pt_then ?_
      refine yxx hn 0 ?_
      refine yS (.agg [vb false,vs z0,vs z0]) 0 ⟨op_build _ _ _ _ [1,1,1] _ _ underlying24 zr24 (fs24 _ underlying24) Src.nil rfl rfl rfl⟩ ?_
      refine yk [55,2] [] ?_
      refine yt (2,.box 24 [vb false,vs z0,vs z0]) 1 ⟨op_store_self _ _ _ 55 2 3 sz24 rfl rfl rfl rfl rfl (.eq _ (.eq _ (.eq _ (.nil _)))) rfl⟩ ?_
      refine yee [2,3] ?_
      refine ht_ret ?_
      obtain rfl:=zi h
      exact pt_ret hio rfl (.cellA _ _ _ _ underlying24 rfl sz24 (.tmp _ _ .nil)) rfl rfl
     ·rintro u27 hl28 hr29 s24 rr32 h ho30
      refine ht_seq ?_
      refine yyy hn 4 [2,0,4,34] ?_
      refine ht_cond _ rfl (fun hb33 => ?_) (fun hb33 => ?_)
      ·have h:=cond_t hb33 h
       refine ht_skip ?_
       refine pt_then (ht_seq ?_)
       refine ht_block ?_
       refine ht_seq ?_
       obtain ⟨v13, hv13, h⟩:=zn h
       refine yx hn 2 ?_
       refine ys 1 ⟨lh hv13⟩ ?_
       refine yee [2,0,4,40] ?_
       refine ht_cond _ rfl (fun hb34 => ?_) (fun hb34 => ?_)
       ·have h:=cond_t hb34 h
        refine ht_seq ?_
        obtain ⟨v15, hv15, h⟩:=zn h
        obtain ⟨v16, hv16, h⟩:=zn h
        obtain ⟨v17, hv17, h⟩:=zn h
        refine wb [[0],[4]] ?_
        refine wN [41,42] ?_
        refine wS (vs v15) [[0],[4]] ⟨op_substr _ _ _ 0 s24 _ underlying9 rfl rfl ⟨_,rfl⟩ hv15⟩ ?_
        refine wN [45] ?_
        refine wo [] ⟨lb hv16⟩ ?_
        refine wN [44,46] ?_
        refine wS (vs v17) [] ⟨op_substr _ _ _ v16 (v11.size:Int) _ underlying9 rfl ⟨_,rfl⟩ rfl hv17⟩ ?_
        refine wN [43,47] ?_
        refine wS (.agg [vb false,vs v15,vs v17]) [] ⟨op_build _ _ _ _ [1,1,1] _ _ underlying24 zr24 (fs24 _ underlying24) (.copy _ (.copy _ Src.nil)) rfl rfl rfl⟩ ?_
        refine wN [] ?_
        refine wS (.box 24 [vb false,vs z0,vs z0]) [] ⟨oA (op_alloc _ _ zr24)⟩ ?_
        refine wK [5] [48] ?_
        refine wt [(5,.box 24 [vb false,vs v15,vs v17])] [] ⟨op_store _ _ _ _ _ _ _ _ sz24 rfl rfl rfl rfl (zl rfl) rfl rfl⟩ ?_
        refine wee hn [2,5] ?_
        refine ht_seq ?_
        obtain ⟨v18, hv18, h⟩:=zn h
        obtain ⟨v19, hv19, h⟩:=zn h
        refine wb [[5],[5]] ?_
        refine wN [50] ?_
        refine wo [] ⟨lk call57 (ok_wherryref11_Path _ _ hv18)⟩ ?_
        refine wN [49,51] ?_
        refine wo [] ⟨lk call56 (ok_wherryref11_keep _ _ _ hv19)⟩ ?_
        refine wN [52] ?_
        refine wS (.agg [vb v19.1.Null,vs v19.1.Local,vs v19.1.Domain]) [[52]] ⟨op_extract_no _ _ _ _ _ _ rfl rfl (zl rfl) rfl rfl⟩ ?_
        refine wK [2] [53] ?_
        refine wt [(2,.box 24 [vb v19.1.Null,vs v19.1.Local,vs v19.1.Domain])] [[54]] ⟨op_store _ _ _ _ _ _ _ _ sz24 rfl rfl rfl rfl (zl rfl) rfl rfl⟩ ?_
        refine wee hn [2,3] ?_
        refine ht_ret ?_
        refine pt_r_in ?_
        refine pt_r_then ?_
        refine pt_r_then ?_
        refine pt_r_in ?_
        refine pt_r_then ?_
        have h:=hr29 _ (ho30 _ (zi h).symm).symm
        obtain rfl:=zi h
        exact pt_ret hio rfl (.cellA _ _ _ _ underlying24 rfl sz24 (.tmp _ _ .nil)) rfl rfl
       ·have h:=cond_f hb34 h
        refine ht_skip ?_
        refine pt_inb ?_
        refine pt_then ?_
        obtain ⟨v20, hv20, h⟩:=zn h
        refine yx hn 1 ?_
        refine ys 0 ⟨lb hv20⟩ ?_
        refine yw [4] 1 ?_
        refine ye [2,0,4] ?_
        exact pt_next _ (zi h).symm rfl
      ·have h:=cond_f hb33 h
       refine ht_exit ?_
       refine pt_x_then ?_
       refine pt_x_then ?_
       refine pt_x_in ?_
       refine pt_pick [0] (by kernel_rfl) (es':=[(_,_)]) rfl ?_
       exact hl28 _ (ho30 _ (zi h).symm).symm
   ·intro u6 h hl7 hr8
    refine cond_some h (fun hg3_3 h => ?_) (fun hg3_3 h => ?_)
    ·refine yx hn 4 ?_
     refine yd hg3_3 12 ?_
     refine ye [0,2,24] ?_
     exact hl7 _ (zi h).symm
    ·obtain ⟨v2, hv2, h⟩:=zn h
     refine cond_some h (fun hg3_8 h => ?_) (fun hg3_8 h => ?_)
     ·refine yx hn 4 ?_
      refine yd hg3_3 1 ?_
      refine ys 3 ⟨lh hv2⟩ ?_
      refine yd hg3_8 7 ?_
      refine ye [0,2,24] ?_
      exact hl7 _ (zi h).symm
     ·obtain ⟨v3, hv3, h⟩:=zn h
      obtain ⟨v4, hv4, h⟩:=zn h
      refine yx hn 4 ?_
      refine yd hg3_3 1 ?_
      refine ys 3 ⟨lh hv2⟩ ?_
      refine yd hg3_8 3 ?_
      refine ys 0 ⟨lb hv3⟩ ?_
      refine ys 2 ⟨lh hv4⟩ ?_
      refine ye [0,2,24] ?_
      exact hl7 _ (zi h).symm
theorem ok_wherryref11_RightReport (site:ByteArray) (sender:T_Path) (rcpt:T_Path) (r:Bool) (h:Sh.wherryref11_RightReport site sender rcpt=some r):FnOK Tryz.prog 40 [.v (.string site), .agg [.v (.bool sender.Null), .v (.string sender.Local), .v (.string sender.Domain)], .agg [.v (.bool rcpt.Null), .v (.string rcpt.Local), .v (.string rcpt.Domain)]] (.v (.bool r)):=by
  unfold Sh.wherryref11_RightReport at h
  refine yO 27 func40 fun g0 hn hio => ?_
  refine yyy hn 3 [0,4,5] ?_
  refine ht_seq ?_
  refine ht_joinS h (fun (s4:Bool)=>[(6,vb s4)]) ?_ ?_
  ·rintro s4 h
   refine pt_then (ht_ret ?_)
   obtain rfl:=zi h
   exact pt_ret hio rfl (.tmp _ _ .nil) rfl rfl
  ·intro u5 h hl6 hr7
   obtain ⟨v1, hv1, h⟩:=zn h
   refine cond_some h (fun hg1_2 h => ?_) (fun hg1_2 h => ?_)
   ·obtain ⟨v2, hv2, h⟩:=zn h
    refine cond_some h (fun hg1_6 h => ?_) (fun hg1_6 h => ?_)
    ·obtain ⟨v3, hv3, h⟩:=zn h
     refine cond_some h (fun hg1_10 h => ?_) (fun hg1_10 h => ?_)
     ·refine cond_some h (fun hg1_15 h => ?_) (fun hg1_15 h => ?_)
      ·refine yx hn 1 ?_
       refine ys 1 ⟨lk call58 (ok_wherryref11_Domain _ _ hv1)⟩ ?_
       refine yd hg1_2 1 ?_
       refine ys 2 ⟨lk call57 (ok_wherryref11_Path _ _ hv2)⟩ ?_
       refine yd hg1_6 1 ?_
       refine ys 2 ⟨lk call57 (ok_wherryref11_Path _ _ hv3)⟩ ?_
       refine yd hg1_10 5 ?_
       refine yd hg1_15 5 ?_
       refine ye [6] ?_
       exact hl6 _ (zi h).symm
      ·refine yx hn 1 ?_
       refine ys 1 ⟨lk call58 (ok_wherryref11_Domain _ _ hv1)⟩ ?_
       refine yd hg1_2 1 ?_
       refine ys 2 ⟨lk call57 (ok_wherryref11_Path _ _ hv2)⟩ ?_
       refine yd hg1_6 1 ?_
       refine ys 2 ⟨lk call57 (ok_wherryref11_Path _ _ hv3)⟩ ?_
       refine yd hg1_10 5 ?_
       refine yd hg1_15 5 ?_
       refine ye [6] ?_
       exact hl6 _ (zi h).symm
     ·refine yx hn 1 ?_
      refine ys 1 ⟨lk call58 (ok_wherryref11_Domain _ _ hv1)⟩ ?_
      refine yd hg1_2 1 ?_
      refine ys 2 ⟨lk call57 (ok_wherryref11_Path _ _ hv2)⟩ ?_
      refine yd hg1_6 1 ?_
      refine ys 2 ⟨lk call57 (ok_wherryref11_Path _ _ hv3)⟩ ?_
      refine yd hg1_10 10 ?_
      refine ye [6] ?_
      exact hl6 _ (zi h).symm
    ·refine yx hn 1 ?_
     refine ys 1 ⟨lk call58 (ok_wherryref11_Domain _ _ hv1)⟩ ?_
     refine yd hg1_2 1 ?_
     refine ys 2 ⟨lk call57 (ok_wherryref11_Path _ _ hv2)⟩ ?_
     refine yd hg1_6 14 ?_
     refine ye [6] ?_
     exact hl6 _ (zi h).symm
   ·refine yx hn 1 ?_
    refine ys 1 ⟨lk call58 (ok_wherryref11_Domain _ _ hv1)⟩ ?_
    refine yd hg1_2 18 ?_
    refine ye [6] ?_
    exact hl6 _ (zi h).symm
end Go.Proofs.YtofbofdggabfiaaGreatDoor
