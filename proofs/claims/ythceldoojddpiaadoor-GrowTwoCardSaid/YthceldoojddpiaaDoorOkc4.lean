/-
  The model's runs are what is told in Lean.
-/
import Derived.Test.YthceldoojddpiaaDoorProg
import Derived.KernelRfl
import Derived.Test.YthceldoojddpiaaDoorShelf
import Derived.Test.YthceldoojddpiaaDoorB2
import Derived.Test.YthceldoojddpiaaDoorB4
import Derived.Test.YthceldoojddpiaaDoorB5
import Derived.Test.YthceldoojddpiaaDoorB8
import Derived.Test.YthceldoojddpiaaDoorSrt
import Derived.Test.YthceldoojddpiaaDoorB9
import Derived.Test.YthceldoojddpiaaDoorShr
import Derived.Test.YthceldoojddpiaaDoorC1
import Derived.Test.YthceldoojddpiaaDoorBA
import Derived.Test.YthceldoojddpiaaDoorOkc3
set_option linter.unusedVariables false
set_option linter.unusedSimpArgs false
set_option maxHeartbeats 1000000
namespace Go.Proofs.YthceldoojddpiaaDoor
open Go.Abs Go.Abs.Sh Tryd
open List (map flatten)
open Value (int)
theorem ok_shrink_rowStep (lengths:(List Int)) (at_:Int) (r:(Int×Int×Int)) (h:Sh.shrink_rowStep lengths at_=some r):FnOK Tryd.prog 75 [.fl .shr 1 (map (int .i64) lengths), .v (.int .i64 at_)] (.tup [.v (.int .i64 r.1), .v (.int .i64 r.2.1), .v (.int .i64 r.2.2)]):=by
  unfold Sh.shrink_rowStep at h
  refine yO 79 func75 fun g0 hn hio => ?_
  refine yyy hn 3 [0,1] ?_
  refine ht_seq ?_
  obtain ⟨v1, hv1, h⟩:=zn h
  obtain ⟨v2, hv2, h⟩:=zn h
  refine yx hn 2 ?_
  refine ys 0 ⟨li hv1⟩ ?_
  refine ys 1 ⟨ll hv2⟩ ?_
  refine yee [0,1,7] ?_
  refine yyy hn 1 [0,1,7,8] ?_
  refine ht_seq ?_
  refine ht_loopS h (fun (s19:Int)=>[(0,fi lengths),(1,vi at_),(7,vi v2),(8,vi s19)]) (fun (s25:Int)=>[(0,fi lengths),(1,vi at_),(7,vi v2),(8,vi s25)]) ?_ ?_
  ·rintro s25 h
   refine pt_then (ht_seq ?_)
   refine ht_block ?_
   refine ht_seq ?_
   refine ht_joinS h (fun (s37:Bool)=>[(0,fi lengths),(1,vi at_),(7,vi v2),(8,vi s25),(31,vb s37)]) ?_ ?_
   ·rintro s37 h
    refine pt_then ?_
    refine ht_cond _ rfl (fun hb41 => ?_) (fun hb41 => ?_)
    ·have h:=cond_t hb41 h
     refine ht_seq ?_
     obtain ⟨v42, hv42, h⟩:=zn h
     refine yx hn 1 ?_
     refine yS (vi v42) 1 ⟨(Option.some.inj hv42) ▸ op_min _ _ _ _ rfl rfl⟩ ?_
     refine yee [6] ?_
     refine ht_seq ?_
     obtain ⟨v43, hv43, h⟩:=zn h
     refine yx hn 1 ?_
     refine ys 3 ⟨lb hv43⟩ ?_
     refine yw [6] 1 ?_
     refine yee [4,5,6] ?_
     refine ht_ret ?_
     refine pt_r_in ?_
     refine pt_r_then ?_
     obtain rfl:=zi h
     exact pt_ret hio rfl (.tmp _ _ (.tmp _ _ (.tmp _ _ .nil))) rfl rfl
    ·have h:=cond_f hb41 h
     refine ht_seq ?_
     refine ht_joinS h (fun (s44:Bool)=>[(0,fi lengths),(1,vi at_),(7,vi v2),(8,vi s25),(43,vb s44)]) ?_ ?_
     ·rintro s44 h
      refine pt_then ?_
      refine ht_cond _ rfl (fun hb48 => ?_) (fun hb48 => ?_)
      ·have h:=cond_t hb48 h
       refine ht_seq ?_
       obtain ⟨v49, hv49, h⟩:=zn h
       refine yx hn 1 ?_
       refine ys 4 ⟨lb hv49⟩ ?_
       refine yee [4,5,6] ?_
       refine ht_ret ?_
       refine pt_r_in ?_
       refine pt_r_then ?_
       obtain rfl:=zi h
       exact pt_ret hio rfl (.tmp _ _ (.tmp _ _ (.tmp _ _ .nil))) rfl rfl
      ·have h:=cond_f hb48 h
       refine ht_seq ?_
       refine ht_joinS h (fun (s53:Bool)=>[(7,vi v2),(8,vi s25),(53,vb s53)]) ?_ ?_
       ·rintro s53 h
        refine pt_then ?_
        refine ht_cond _ rfl (fun hb57 => ?_) (fun hb57 => ?_)
        ·have h:=cond_t hb57 h
         refine ht_seq ?_
         obtain ⟨v58, hv58, h⟩:=zn h
         refine yx hn 1 ?_
         refine yS (vi v58) 1 ⟨(Option.some.inj hv58) ▸ op_min _ _ _ _ rfl rfl⟩ ?_
         refine yee [6] ?_
         refine ht_seq ?_
         obtain ⟨v59, hv59, h⟩:=zn h
         refine yx hn 1 ?_
         refine ys 3 ⟨lb hv59⟩ ?_
         refine yw [6] 1 ?_
         refine yee [4,5,6] ?_
         refine ht_ret ?_
         refine pt_r_in ?_
         refine pt_r_then ?_
         obtain rfl:=zi h
         exact pt_ret hio rfl (.tmp _ _ (.tmp _ _ (.tmp _ _ .nil))) rfl rfl
        ·have h:=cond_f hb57 h
         refine ht_skip ?_
         refine pt_inb ?_
         refine pt_then ?_
         refine yyy hn 4 [4,5,6] ?_
         refine ht_ret ?_
         obtain rfl:=zi h
         exact pt_ret hio rfl (.tmp _ _ (.tmp _ _ (.tmp _ _ .nil))) rfl rfl
       ·intro u54 h hl55 hr56
        refine cond_some h (fun hg10_2 h => ?_) (fun hg10_2 h => ?_)
        ·refine cond_some h (fun hg10_6 h => ?_) (fun hg10_6 h => ?_)
         ·refine cond_some h (fun hg10_10 h => ?_) (fun hg10_10 h => ?_)
          ·obtain ⟨v50, hv50, h⟩:=zn h
           obtain ⟨v51, hv51, h⟩:=zn h
           obtain ⟨v52, hv52, h⟩:=zn h
           refine yx hn 3 ?_
           refine yd hg10_2 4 ?_
           refine yd hg10_6 4 ?_
           refine yd hg10_10 2 ?_
           refine ys 0 ⟨lb hv50⟩ ?_
           refine ys 0 ⟨li hv51⟩ ?_
           refine ys 4 ⟨ll hv52⟩ ?_
           refine ye [7,8,53] ?_
           exact hl55 _ (zi h).symm
          ·refine yx hn 3 ?_
           refine yd hg10_2 4 ?_
           refine yd hg10_6 4 ?_
           refine yd hg10_10 9 ?_
           refine ye [7,8,53] ?_
           exact hl55 _ (zi h).symm
         ·refine yx hn 3 ?_
          refine yd hg10_2 4 ?_
          refine yd hg10_6 13 ?_
          refine ye [7,8,53] ?_
          exact hl55 _ (zi h).symm
        ·refine yx hn 3 ?_
         refine yd hg10_2 17 ?_
         refine ye [7,8,53] ?_
         exact hl55 _ (zi h).symm
     ·intro u45 h hl46 hr47
      refine cond_some h (fun hg8_2 h => ?_) (fun hg8_2 h => ?_)
      ·refine yx hn 3 ?_
       refine yd hg8_2 4 ?_
       refine ye [0,1,7,8,43] ?_
       exact hl46 _ (zi h).symm
      ·refine yx hn 3 ?_
       refine yd hg8_2 4 ?_
       refine ye [0,1,7,8,43] ?_
       exact hl46 _ (zi h).symm
   ·intro u38 h hl39 hr40
    refine cond_some h (fun hg5_2 h => ?_) (fun hg5_2 h => ?_)
    ·refine yx hn 3 ?_
     refine yd hg5_2 4 ?_
     refine ye [0,1,7,8,31] ?_
     exact hl39 _ (zi h).symm
    ·refine yx hn 3 ?_
     refine yd hg5_2 4 ?_
     refine ye [0,1,7,8,31] ?_
     exact hl39 _ (zi h).symm
  ·rintro u26 hl27 hr28 s19 rr31 h ho29
   refine ht_seq ?_
   refine ht_seq ?_
   refine ht_joinS h (fun (s32:Bool)=>[(0,fi lengths),(1,vi at_),(7,vi v2),(8,vi s19),(28,vb s32)]) ?_ ?_
   ·rintro s32 h
    refine pt_then ?_
    refine ht_cond _ rfl (fun hb36 => ?_) (fun hb36 => ?_)
    ·have h:=cond_t hb36 h
     refine ht_skip ?_
     refine pt_then ?_
     refine ht_block ?_
     obtain ⟨v12, hv12, h⟩:=zn h
     refine yx hn 1 ?_
     refine ys 0 ⟨lb hv12⟩ ?_
     refine yw [8] 1 ?_
     refine ye [0,1,7,8] ?_
     refine pt_inb ?_
     exact pt_next _ (zi h).symm rfl
    ·have h:=cond_f hb36 h
     refine ht_exit ?_
     refine pt_x_then ?_
     refine pt_x_then ?_
     refine pt_x_in ?_
     refine pt_pick [0,1,2,3] (by kernel_rfl) (es':=[(_,_),(_,_),(_,_),(_,_)]) rfl ?_
     exact hl27 _ (ho29 _ (zi h).symm).symm
   ·intro u33 h hl34 hr35
    obtain ⟨v3, hv3, h⟩:=zn h
    refine cond_some h (fun hg3_6 h => ?_) (fun hg3_6 h => ?_)
    ·obtain ⟨v4, hv4, h⟩:=zn h
     obtain ⟨v5, hv5, h⟩:=zn h
     obtain ⟨v6, hv6, h⟩:=zn h
     refine yx hn 2 ?_
     refine ys 4 ⟨lb hv3⟩ ?_
     refine yd hg3_6 3 ?_
     refine ys 0 ⟨lb hv4⟩ ?_
     refine ys 0 ⟨li hv5⟩ ?_
     refine ys 3 ⟨ll hv6⟩ ?_
     refine ye [0,1,7,8,28] ?_
     exact hl34 _ (zi h).symm
    ·refine yx hn 2 ?_
     refine ys 4 ⟨lb hv3⟩ ?_
     refine yd hg3_6 9 ?_
     refine ye [0,1,7,8,28] ?_
     exact hl34 _ (zi h).symm
theorem ok_shrink_Row (lengths:(List Int)) (r:((List Int)×(List Int)×Int)) (h:Sh.shrink_Row lengths=some r):FnOK Tryd.prog 56 [.fl .shr 1 (map (int .i64) lengths)] (.tup [.fl (.own 3) 1 (map (int .i64) r.1), .fl (.own 3) 1 (map (int .i64) r.2.1), .v (.int .i64 r.2.2)]):=by
  unfold Sh.shrink_Row at h
  refine yO 51 func56 fun g0 hn hio => ?_
  refine yyy hn 3 [0,2,3] ?_
  refine ht_seq ?_
  refine yyy hn 3 [0,2,3,13] ?_
  refine ht_cond _ rfl (fun hb1 => ?_) (fun hb1 => ?_)
  ·have h:=cond_t hb1 h
   refine yxx hn 0 ?_
   refine yw [2] 1 ?_
   refine yw [3] 2 ?_
   refine yee [2,3,4] ?_
   refine ht_ret ?_
   refine pt_sub (fs:=[(2,.fl (.own 3) 1 (map (int .i64) [])),(3,.fl (.own 3) 1 (map (int .i64) [])),(4,vi 1)]) (.sub _ (sub_nil 3 1) rfl (.sub _ (sub_nil 3 1) rfl (.same _ .nil))) ?_
   refine pt_r_then ?_
   obtain rfl:=zi h
   exact pt_ret hio rfl (.tmp _ _ (.tmp _ _ (.tmp _ _ .nil))) rfl rfl
  ·have h:=cond_f hb1 h
   refine ht_skip ?_
   refine pt_then (ht_seq ?_)
   refine yyy hn 3 [0,2,3,14,15,16] ?_
   refine ht_loopS h (fun (s18:Int)=>[(0,fi lengths),(2,vz),(3,vz),(14,fi lengths),(15,vi (lengths.length:Int)),(16,vi s18)]) (fun (():Unit)=>[(0,fi lengths),(2,vz),(3,vz)]) ?_ ?_
   ·rintro ⟨⟩ h
    refine pt_then (ht_seq ?_)
    refine yyy hn 1 [0,2,3,7] ?_
    refine ht_sub (fs:=[(0,fi lengths),(2,.fl (.own 3) 1 (map (int .i64) [])),(3,.fl (.own 3) 1 (map (int .i64) [])),(7,vi 0)]) (.same _ (.sub _ (sub_nil 3 1) rfl (.sub _ (sub_nil 3 1) rfl (.same _ .nil)))) ?_
    refine ht_loopS h (fun ((s46,s47,s48):(List Int)×(List Int)×Int)=>[(0,fi lengths),(2,.fl (.own 3) 1 (map (int .i64) s46)),(3,.fl (.own 3) 1 (map (int .i64) s47)),(7,vi s48)]) (fun ((s50,s51):(List Int)×(List Int))=>[(2,.fl (.own 3) 1 (map (int .i64) s50)),(3,.fl (.own 3) 1 (map (int .i64) s51))]) ?_ ?_
    ·rintro ⟨s50, s51⟩ h
     refine pt_then ?_
     refine yxx hn 0 ?_
     refine ym 0 ?_
     refine ym 0 ?_
     refine ya 0 ?_
     refine ya 1 ?_
     refine yee [2,3,4] ?_
     refine ht_ret ?_
     obtain rfl:=zi h
     exact pt_ret hio rfl (.tmp _ _ (.tmp _ _ (.tmp _ _ .nil))) rfl rfl
    ·rintro u52 hl53 hr54 ⟨s46, s47, s48⟩ rr57 h ho55
     refine ht_seq ?_
     refine yyy hn 4 [0,2,3,7,30] ?_
     refine ht_cond _ rfl (fun hb58 => ?_) (fun hb58 => ?_)
     ·have h:=cond_t hb58 h
      refine ht_skip ?_
      refine pt_then ?_
      refine ht_block ?_
      refine ht_seq ?_
      obtain ⟨v38, hv38, h⟩:=zn h
      refine yx hn 2 ?_
      refine ys 0 ⟨lk call75 (ok_shrink_rowStep _ _ _ hv38)⟩ ?_
      refine ym 6 ?_
      refine yee [0,2,3,7,8,9,10] ?_
      refine ht_seq ?_
      obtain ⟨v39, hv39, h⟩:=zn h
      refine yx hn 0 ?_
      refine ym 1 ?_
      refine yS (.fl (.own 3) 1 (map (int .i64) [v38.1])) 0 ⟨op_buildSlice _ _ 1 (.int .i64 0) (map (int .i64) [v38.1]) [(0,.int .i64 v38.1)] underlying73 sz3 zr3 (fun _ V w o a hv hes=>by have e0:=rd_v hv hes (x := .tmp 39) rfl; simp only [List.map_toArray,List.map_cons,List.map_nil,e0]; try rfl) (litfill (by simp [Instr.fill,Value.cells]; rfl) (by simp [List.range,List.range.loop] <;> rfl)) (by simp [Value.oneCell']) rfl (by decide) (by decide) (by decide)⟩ ?_
      refine yp el73 hv39 0 ?_
      refine ya 0 ?_
      refine yee [0,3,7,9,10,2] ?_
      refine ht_seq ?_
      obtain ⟨v40, hv40, h⟩:=zn h
      refine yx hn 0 ?_
      refine ym 1 ?_
      refine yS (.fl (.own 3) 1 (map (int .i64) [v38.2.1])) 0 ⟨op_buildSlice _ _ 1 (.int .i64 0) (map (int .i64) [v38.2.1]) [(0,.int .i64 v38.2.1)] underlying73 sz3 zr3 (fun _ V w o a hv hes=>by have e0:=rd_v hv hes (x := .tmp 43) rfl; simp only [List.map_toArray,List.map_cons,List.map_nil,e0]; try rfl) (litfill (by simp [Instr.fill,Value.cells]; rfl) (by simp [List.range,List.range.loop] <;> rfl)) (by simp [Value.oneCell']) rfl (by decide) (by decide) (by decide)⟩ ?_
      refine yp el73 hv40 0 ?_
      refine ya 0 ?_
      refine yee [0,7,10,2,3] ?_
      obtain ⟨v41, hv41, h⟩:=zn h
      refine yx hn 2 ?_
      refine ys 0 ⟨lb hv41⟩ ?_
      refine yw [7] 1 ?_
      refine ye [0,2,3,7] ?_
      refine pt_inb ?_
      exact pt_next _ (zi h).symm rfl
     ·have h:=cond_f hb58 h
      refine ht_exit ?_
      refine pt_x_then ?_
      refine pt_x_then ?_
      refine pt_x_in ?_
      refine pt_pick [1,2] (by kernel_rfl) (es':=[(_,_),(_,_)]) rfl ?_
      exact hl53 _ (ho55 _ (zi h).symm).symm
   ·rintro u25 hl26 hr27 s18 rr30 h ho28
    refine yyy hn 1 [0,2,3,14,15,16,17] ?_
    refine ht_seq ?_
    refine ht_cond _ rfl (fun hb31 => ?_) (fun hb31 => ?_)
    ·have h:=cond_t hb31 h
     refine ht_skip ?_
     refine pt_then (ht_seq ?_)
     refine ht_block ?_
     refine ht_seq ?_
     obtain ⟨v3, hv3, h⟩:=zn h
     obtain ⟨v4, hv4, h⟩:=zn h
     refine yx hn 0 ?_
     refine ys 0 ⟨li hv3⟩ ?_
     refine ys 1 ⟨ll hv4⟩ ?_
     refine yee [0,2,3,14,15,16,6] ?_
     refine ht_seq ?_
     refine ht_joinS h (fun (s32:Bool)=>[(0,fi lengths),(2,vz),(3,vz),(14,fi lengths),(15,vi (lengths.length:Int)),(16,vi s18),(25,vb s32)]) ?_ ?_
     ·rintro s32 h
      refine pt_then ?_
      refine ht_cond _ rfl (fun hb36 => ?_) (fun hb36 => ?_)
      ·have h:=cond_t hb36 h
       refine yxx hn 0 ?_
       refine yw [2] 1 ?_
       refine yw [3] 2 ?_
       refine yee [2,3,4] ?_
       refine ht_ret ?_
       refine pt_sub (fs:=[(2,.fl (.own 3) 1 (map (int .i64) [])),(3,.fl (.own 3) 1 (map (int .i64) [])),(4,vi 1)]) (.sub _ (sub_nil 3 1) rfl (.sub _ (sub_nil 3 1) rfl (.same _ .nil))) ?_
       refine pt_r_in ?_
       refine pt_r_then ?_
       refine pt_r_then ?_
       refine pt_r_in ?_
       refine pt_r_then ?_
       have h:=hr27 _ (ho28 _ (zi h).symm).symm
       obtain rfl:=zi h
       exact pt_ret hio rfl (.tmp _ _ (.tmp _ _ (.tmp _ _ .nil))) rfl rfl
      ·have h:=cond_f hb36 h
       refine ht_skip ?_
       refine pt_inb ?_
       refine pt_then ?_
       obtain ⟨v10, hv10, h⟩:=zn h
       refine yx hn 0 ?_
       refine ys 0 ⟨lb hv10⟩ ?_
       refine yw [16] 1 ?_
       refine ye [0,2,3,14,15,16] ?_
       exact pt_next _ (zi h).symm rfl
     ·intro u33 h hl34 hr35
      refine cond_some h (fun hg6_2 h => ?_) (fun hg6_2 h => ?_)
      ·refine yx hn 3 ?_
       refine yd hg6_2 3 ?_
       refine ye [0,2,3,14,15,16,25] ?_
       exact hl34 _ (zi h).symm
      ·refine yx hn 3 ?_
       refine yd hg6_2 3 ?_
       refine ye [0,2,3,14,15,16,25] ?_
       exact hl34 _ (zi h).symm
    ·have h:=cond_f hb31 h
     refine ht_exit ?_
     refine pt_x_then ?_
     refine pt_x_then ?_
     refine pt_x_in ?_
     refine pt_pick [0,1,2] (by kernel_rfl) (es':=[(_,_),(_,_),(_,_)]) rfl ?_
     exact hl26 _ (ho28 _ (zi h).symm).symm
theorem ok_shrink_rowMore (s:Int) (r:Int) (h:Sh.shrink_rowMore s=some r):FnOK Tryd.prog 57 [.v (.int .i64 s)] (.v (.int .i64 r)):=by
  unfold Sh.shrink_rowMore at h
  refine yO 10 func57 fun g0 hn hio => ?_
  refine yyy hn 1 [0] ?_
  refine ht_seq ?_
  refine yyy hn 1 [3] ?_
  refine ht_block ?_
  refine yyy hn 2 [3,4] ?_
  refine ht_cond _ rfl (fun hb1 => ?_) (fun hb1 => ?_)
  ·have h:=cond_t hb1 h
   refine yyy hn 1 [2] ?_
   refine ht_ret ?_
   refine pt_r_in ?_
   refine pt_r_then ?_
   obtain rfl:=zi h
   exact pt_ret hio rfl (.tmp _ _ .nil) rfl rfl
  ·have h:=cond_f hb1 h
   refine yyy hn 2 [3,6] ?_
   refine ht_cond _ rfl (fun hb2 => ?_) (fun hb2 => ?_)
   ·have h:=cond_t hb2 h
    refine yyy hn 1 [2] ?_
    refine ht_ret ?_
    refine pt_r_in ?_
    refine pt_r_then ?_
    obtain rfl:=zi h
    exact pt_ret hio rfl (.tmp _ _ .nil) rfl rfl
   ·have h:=cond_f hb2 h
    refine yyy hn 2 [8] ?_
    refine ht_cond _ rfl (fun hb3 => ?_) (fun hb3 => ?_)
    ·have h:=cond_t hb3 h
     refine yyy hn 1 [2] ?_
     refine ht_ret ?_
     refine pt_r_in ?_
     refine pt_r_then ?_
     obtain rfl:=zi h
     exact pt_ret hio rfl (.tmp _ _ .nil) rfl rfl
    ·have h:=cond_f hb3 h
     refine ht_skip ?_
     refine pt_inb ?_
     refine pt_then ?_
     refine yyy hn 1 [2] ?_
     refine ht_ret ?_
     obtain rfl:=zi h
     exact pt_ret hio rfl (.tmp _ _ .nil) rfl rfl
theorem ok_shrink_writer_putLengths (mx:Int) (w:T_shrink_writer) (lits:(List Int)) (dists:(List Int)) (r:T_shrink_writer) (h:Sh.shrink_writer_putLengths w lits dists=some r):FnPG Tryd.prog (GL mx) 38 [.box 54 [.fl (.own 5) 1 (map (int .u8) w.b), .v (.int .i64 w.n)], .fl .shr 1 (map (int .i64) lits), .fl .shr 1 (map (int .i64) dists)] [.box 54 [.fl (.own 5) 1 (map (int .u8) r.b), .v (.int .i64 r.n)]] (.tup []):=by
  unfold Sh.shrink_writer_putLengths at h
  refine yPG 113 func38 fun args0 hargs0 g0 hn hio => ?_
  refine ht_seq ?_
  obtain ⟨v1, hv1, h⟩:=zn h
  obtain ⟨v2, hv2, h⟩:=zn h
  obtain ⟨v3, hv3, h⟩:=zn h
  refine yx hn 1 ?_
  refine yS (.fl (.own 3) 1 (map (int .i64) v1)) 1 ⟨op_app_nil _ _ _ _ el73 rfl rfl (map_len _) hv1 (congrArg (map _) (app_nil_eq hv1))⟩ ?_
  refine yp el73 hv2 0 ?_
  refine ys 0 ⟨lk call56 (ok_shrink_Row _ _ hv3)⟩ ?_
  refine ym 0 ?_
  refine yx_ 0 ?_
  refine yx_ 1 ?_
  refine ya 0 ?_
  refine ya 1 ?_
  refine yee [0,1,2,113,6,7,0] ?_
  refine ht_seq ?_
  obtain ⟨v4, hv4, h⟩:=zn h
  refine yx hn 0 ?_
  refine yS (.fl (.own 3) 1 (map (int .i64) v4)) 0 ⟨op_mk (f:=int .i64) _ _ _ _ el73 (by decide) zr3 rfl rfl rfl hv4⟩ ?_
  refine ya 0 ?_
  refine yee [0,1,2,113,6,7,9,0] ?_
  refine ht_seq ?_
  refine yyy hn 3 [0,1,2,113,6,7,9,32,33,34,0] ?_
  refine ht_loopS h (fun ((s17,s18):(List Int)×Int)=>[(0,.box 54 [.fl (.own 5) 1 (map (int .u8) w.b),vi w.n]),(1,fi lits),(2,fi dists),(113,.glob (GL mx)),(6,.fl (.own 3) 1 (map (int .i64) v3.1)),(7,.fl (.own 3) 1 (map (int .i64) v3.2.1)),(9,.fl (.own 3) 1 (map (int .i64) s17)),(32,.same (.slot 6)),(33,vi (v3.1.length:Int)),(34,vi s18),(0,.v (List.getD args0 0 undef))]) (fun (s20:(List Int))=>[(0,.box 54 [.fl (.own 5) 1 (map (int .u8) w.b),vi w.n]),(1,fi lits),(2,fi dists),(113,.glob (GL mx)),(6,.fl (.own 3) 1 (map (int .i64) v3.1)),(7,.fl (.own 3) 1 (map (int .i64) v3.2.1)),(9,.fl (.own 3) 1 (map (int .i64) s20)),(0,.v (List.getD args0 0 undef))]) ?_ ?_
  ·rintro s20 h
   refine pt_then (ht_seq ?_)
   obtain ⟨v28, hv28, h⟩:=zn h
   refine yx hn 0 ?_
   refine ym 0 ?_
   refine ys 0 ⟨lk call37 (ok_tree_Lengths _ _ _ hv28)⟩ ?_
   refine ym 0 ?_
   refine yx_ 1 ?_
   refine ya 1 ?_
   refine yee [0,1,2,113,6,7,12,0] ?_
   refine ht_seq ?_
   obtain ⟨v29, hv29, h⟩:=zn h
   refine yx hn 0 ?_
   refine yS (.fl (.own 3) 1 (map (int .i64) v29)) 0 ⟨op_mk (f:=int .i64) _ _ _ _ el73 (by decide) zr3 rfl rfl rfl hv29⟩ ?_
   refine ya 0 ?_
   refine yee [0,1,2,113,6,7,12,14,0] ?_
   refine ht_seq ?_
   refine yxx hn 0 ?_
   refine yS (.v (.agg (map (int .i64) shrink_rowOrder).toArray)) 1 ⟨op_loadA_glob _ _ 113 0 (map (int .i64) shrink_rowOrder) underlying108 rfl sz108 rfl rfl (gl_mem0 mx)⟩ ?_
   refine yee [0,1,2,113,6,7,12,14,51,52,0] ?_
   refine ht_loopS h (fun ((s41,s42):(List Int)×Int)=>[(0,.box 54 [.fl (.own 5) 1 (map (int .u8) w.b),vi w.n]),(1,fi lits),(2,fi dists),(113,.glob (GL mx)),(6,.fl (.own 3) 1 (map (int .i64) v3.1)),(7,.fl (.own 3) 1 (map (int .i64) v3.2.1)),(12,.fl (.own 3) 1 (map (int .i64) v28.1)),(14,.fl (.own 3) 1 (map (int .i64) s41)),(51,.v (.agg (map (int .i64) shrink_rowOrder).toArray)),(52,vi s42),(0,.v (List.getD args0 0 undef))]) (fun (s44:(List Int))=>[(0,.box 54 [.fl (.own 5) 1 (map (int .u8) w.b),vi w.n]),(1,fi lits),(2,fi dists),(113,.glob (GL mx)),(6,.fl (.own 3) 1 (map (int .i64) v3.1)),(7,.fl (.own 3) 1 (map (int .i64) v3.2.1)),(12,.fl (.own 3) 1 (map (int .i64) v28.1)),(14,.fl (.own 3) 1 (map (int .i64) s44)),(0,.v (List.getD args0 0 undef))]) ?_ ?_
   ·rintro s44 h
    refine pt_then (ht_seq ?_)
    refine ht_frzE 7 hio (es':=[(0, .box 54 [.fl (.own 5) 1 (map (int .u8) w.b), .v (.int .i64 w.n)]), (1, fi lits), (2, fi dists), (113, .glob (GL mx)), (6, .fl (.own 3) 1 (map (int .i64) v3.1)), (7, .fl (.own 3) 1 (map (int .i64) v3.2.1)), (12, .fl (.own 3) 1 (map (int .i64) v28.1)), (14, .fl .ro 1 (map (int .i64) s44)), (0, .v (List.getD args0 0 undef))]) rfl ?_
    obtain ⟨v52, hv52, h⟩:=zn h
    refine yx hn 1 ?_
    refine ys 0 ⟨lr call39 (ok_shrink_trim_ro _ _ _ hv52)⟩ ?_
    refine yw [14] 1 ?_
    refine yee [0,1,2,113,6,7,12,14,0] ?_
    refine ht_seq ?_
    obtain ⟨v53, hv53, h⟩:=zn h
    obtain ⟨v54, hv54, h⟩:=zn h
    refine yx hn 3 ?_
    refine ys 0 ⟨lb hv53⟩ ?_
    refine yQ call32 (ok_shrink_writer_put _ _ _ _ hv54) 0 [66,69] 0 ?_
    refine yee [0,2,113,6,7,12,14,0] ?_
    refine ht_seq ?_
    obtain ⟨v55, hv55, h⟩:=zn h
    obtain ⟨v56, hv56, h⟩:=zn h
    refine yx hn 3 ?_
    refine ys 0 ⟨lb hv55⟩ ?_
    refine yQ call32 (ok_shrink_writer_put _ _ _ _ hv56) 0 [71,74] 0 ?_
    refine yee [0,113,6,7,12,14,0] ?_
    refine ht_seq ?_
    obtain ⟨v57, hv57, h⟩:=zn h
    obtain ⟨v58, hv58, h⟩:=zn h
    refine yx hn 3 ?_
    refine ys 0 ⟨lb hv57⟩ ?_
    refine yQ call32 (ok_shrink_writer_put _ _ _ _ hv58) 0 [76,79] 0 ?_
    refine yee [0,113,6,7,12,14,0] ?_
    refine ht_seq ?_
    refine yyy hn 3 [0,113,6,7,12,81,82,83,0] ?_
    refine ht_loopS h (fun ((s68,s69,s70):(List Int)×Int×Int)=>[(0,.box 54 [.fl (.own 5) 1 (map (int .u8) s68),vi s69]),(113,.glob (GL mx)),(6,.fl (.own 3) 1 (map (int .i64) v3.1)),(7,.fl (.own 3) 1 (map (int .i64) v3.2.1)),(12,.fl (.own 3) 1 (map (int .i64) v28.1)),(81,.fl .ro 1 (map (int .i64) v52)),(82,vi (v52.length:Int)),(83,vi s70),(0,.v (List.getD args0 0 undef))]) (fun ((s72,s73):(List Int)×Int)=>[(0,.box 54 [.fl (.own 5) 1 (map (int .u8) s72),vi s73]),(113,.glob (GL mx)),(6,.fl (.own 3) 1 (map (int .i64) v3.1)),(7,.fl (.own 3) 1 (map (int .i64) v3.2.1)),(12,.fl (.own 3) 1 (map (int .i64) v28.1)),(0,.v (List.getD args0 0 undef))]) ?_ ?_
    ·rintro ⟨s72, s73⟩ h
     refine pt_then (ht_seq ?_)
     refine ht_frzE 4 hio (es':=[(0, .box 54 [.fl (.own 5) 1 (map (int .u8) s72), .v (.int .i64 s73)]), (113, .glob (GL mx)), (6, .fl (.own 3) 1 (map (int .i64) v3.1)), (7, .fl (.own 3) 1 (map (int .i64) v3.2.1)), (12, .fl .ro 1 (map (int .i64) v28.1)), (0, .v (List.getD args0 0 undef))]) rfl ?_
     obtain ⟨v81, hv81, h⟩:=zn h
     refine yx hn 1 ?_
     refine ys 0 ⟨lr call35 (ok_shrink_newCode_ro _ _ hv81)⟩ ?_
     refine yS (.box 78 [vz,vz]) 1 ⟨oA (op_alloc _ _ zr78)⟩ ?_
     refine yee [0,113,6,7,19,0] ?_
     refine yxx hn 0 ?_
     refine ym 2 ?_
     refine yee [0,113,7,19,93,94,95,0] ?_
     refine ht_loopS h (fun ((s95,s96,s97):(List Int)×Int×Int)=>[(0,.box 54 [.fl (.own 5) 1 (map (int .u8) s95),vi s96]),(113,.glob (GL mx)),(7,.fl (.own 3) 1 (map (int .i64) v3.2.1)),(19,.box 78 [.fl .ro 1 (map (int .i64) v81.lengths),.fl .ro 1 (map (int .i64) v81.codes)]),(93,.fl (.own 3) 1 (map (int .i64) v3.1)),(94,vi (v3.1.length:Int)),(95,vi s97),(0,.v (List.getD args0 0 undef))]) (fun ((s99,s100):(List Int)×Int)=>[(0,.box 54 [.fl (.own 5) 1 (map (int .u8) s99),vi s100]),(113,.glob (GL mx)),(0,.v (List.getD args0 0 undef))]) ?_ ?_
     ·rintro ⟨s99, s100⟩ h
      refine pt_pick [0,2] (by kernel_rfl) (es':=[(_,_),(_,_)]) rfl ?_
      obtain rfl:=zi h
      exact pt_endP (es:=[]) (posts:=[.box 54 [.fl (.own 5) 1 (map (int .u8) s99), .v (.int .i64 s100)]]) hio rfl rfl .nil rfl rfl hargs0 rfl
     ·rintro u101 hl102 hr103 ⟨s95, s96, s97⟩ rr106 h ho104
      refine yyy hn 1 [0,113,7,19,93,94,95,96,0] ?_
      refine ht_seq ?_
      refine ht_cond _ rfl (fun hb107 => ?_) (fun hb107 => ?_)
      ·have h:=cond_t hb107 h
       refine ht_skip ?_
       refine pt_then (ht_seq ?_)
       refine ht_block ?_
       refine ht_seq ?_
       obtain ⟨v83, hv83, h⟩:=zn h
       obtain ⟨v84, hv84, h⟩:=zn h
       refine yx hn 1 ?_
       refine ys 0 ⟨li hv83⟩ ?_
       refine ys 2 ⟨ll hv84⟩ ?_
       refine yee [0,113,7,19,93,94,95,20,21,0] ?_
       refine ht_seq ?_
       obtain ⟨v85, hv85, h⟩:=zn h
       refine yx hn 3 ?_
       refine yQ call45 (ok_shrink_writer_putSym _ _ _ _ hv85) 0 [100,101,102] 0 ?_
       refine yee [0,113,7,19,93,94,95,20,21,0] ?_
       obtain ⟨v86, hv86, h⟩:=zn h
       obtain ⟨v87, hv87, h⟩:=zn h
       obtain ⟨v88, hv88, h⟩:=zn h
       obtain ⟨v89, hv89, h⟩:=zn h
       refine wb [[0],[7],[20]] ?_
       refine wN [105,7,106] ?_
       refine wo [] ⟨li hv86⟩ ?_
       refine wN [107,7] ?_
       refine wo [[21]] ⟨ll hv87⟩ ?_
       refine wN [109] ?_
       refine wo [] ⟨lk call57 (ok_shrink_rowMore _ _ hv88)⟩ ?_
       refine wK [0] [104,108,110] ?_
       refine wt [(0,.box 54 [.fl (.own 5) 1 (map (int .u8) v89.b),vi v89.n]),(111,.tup [])] [] ⟨op_callP _ _ _ _ 111 32 [.tmp 104] [.tmp 108,.tmp 110] _ _ _ rfl call32 rfl rfl rfl (ok_shrink_writer_put v85 v87 v88 _ hv89) (zl rfl) rfl rfl rfl rfl rfl rfl rfl rfl⟩ ?_
       refine we hn [0,113,7,19,93,94,95,0] ?_
       refine pt_inb ?_
       refine pt_then ?_
       obtain ⟨v90, hv90, h⟩:=zn h
       refine yx hn 0 ?_
       refine ys 0 ⟨lb hv90⟩ ?_
       refine yw [95] 1 ?_
       refine ye [0,113,7,19,93,94,95,0] ?_
       exact pt_next _ (zi h).symm rfl
      ·have h:=cond_f hb107 h
       refine ht_exit ?_
       refine pt_x_then ?_
       refine pt_x_then ?_
       refine pt_x_in ?_
       refine pt_pick [0,1,8] (by kernel_rfl) (es':=[(_,_),(_,_),(_,_)]) rfl ?_
       exact hl102 _ (ho104 _ (zi h).symm).symm
    ·rintro u74 hl75 hr76 ⟨s68, s69, s70⟩ rr79 h ho77
     refine yyy hn 1 [0,113,6,7,12,81,82,83,84,0] ?_
     refine ht_seq ?_
     refine ht_cond _ rfl (fun hb80 => ?_) (fun hb80 => ?_)
     ·have h:=cond_t hb80 h
      refine ht_skip ?_
      refine pt_then (ht_seq ?_)
      refine ht_block ?_
      refine ht_seq ?_
      obtain ⟨v60, hv60, h⟩:=zn h
      obtain ⟨v61, hv61, h⟩:=zn h
      refine yx hn 0 ?_
      refine ys 0 ⟨li hv60⟩ ?_
      refine ys 1 ⟨ll hv61⟩ ?_
      refine yee [0,113,6,7,12,81,82,83,18,0] ?_
      obtain ⟨v62, hv62, h⟩:=zn h
      refine yx hn 2 ?_
      refine yQ call32 (ok_shrink_writer_put _ _ _ _ hv62) 0 [87,88] 0 ?_
      refine ye [0,113,6,7,12,81,82,83,0] ?_
      refine pt_inb ?_
      refine pt_then ?_
      obtain ⟨v63, hv63, h⟩:=zn h
      refine yx hn 0 ?_
      refine ys 0 ⟨lb hv63⟩ ?_
      refine yw [83] 1 ?_
      refine ye [0,113,6,7,12,81,82,83,0] ?_
      exact pt_next _ (zi h).symm rfl
     ·have h:=cond_f hb80 h
      refine ht_exit ?_
      refine pt_x_then ?_
      refine pt_x_then ?_
      refine pt_x_in ?_
      refine pt_pick [0,1,2,3,4,9] (by kernel_rfl) (es':=[(_,_),(_,_),(_,_),(_,_),(_,_),(_,_)]) rfl ?_
      exact hl75 _ (ho77 _ (zi h).symm).symm
   ·rintro u45 hl46 hr47 ⟨s41, s42⟩ rr50 h ho48
    refine yyy hn 1 [0,1,2,113,6,7,12,14,51,52,53,0] ?_
    refine ht_seq ?_
    refine ht_cond _ rfl (fun hb51 => ?_) (fun hb51 => ?_)
    ·have h:=cond_t hb51 h
     refine ht_skip ?_
     refine pt_then (ht_seq ?_)
     refine ht_block ?_
     refine ht_seq ?_
     obtain ⟨v31, hv31, h⟩:=zn h
     obtain ⟨v32, hv32, h⟩:=zn h
     refine yx hn 1 ?_
     refine yS (vi v32) 2 ⟨op_index_arr _ _ _ _ 19 v31 underlying108 sz3 rfl (congrArg (fun j=>AV.v (int .i64 j)) (ix_ok hv31).1) (ix_ok hv31).2 (map_get1 hv32) ⟨_,underlying3,rfl⟩⟩ ?_
     refine yee [0,1,2,113,6,7,12,14,51,52,15,16,0] ?_
     obtain ⟨v33, hv33, h⟩:=zn h
     obtain ⟨v34, hv34, h⟩:=zn h
     obtain ⟨v35, hv35, h⟩:=zn h
     obtain ⟨v36, hv36, h⟩:=zn h
     refine yx hn 4 ?_
     refine ys 0 ⟨li hv33⟩ ?_
     refine ys 0 ⟨ll hv34⟩ ?_
     refine ys 0 ⟨li hv35⟩ ?_
     refine yk [14] [62,61] ?_
     refine yt (14,.fl (.own 3) 1 (map (int .i64) v36)) 0 ⟨op_store_e _ _ _ _ _ _ _ _ sz3 rfl rfl rfl (by decide) (map_lt (ix_ok hv35).2) ((map_set (f:=int .i64) _ (ix_ok hv35).2).trans (congrArg (map _) (Option.some.inj hv36)))⟩ ?_
     refine ye [0,1,2,113,6,7,12,14,51,52,0] ?_
     refine pt_inb ?_
     refine pt_then ?_
     obtain ⟨v37, hv37, h⟩:=zn h
     refine yx hn 0 ?_
     refine ys 0 ⟨lb hv37⟩ ?_
     refine yw [52] 1 ?_
     refine ye [0,1,2,113,6,7,12,14,51,52,0] ?_
     exact pt_next _ (zi h).symm rfl
    ·have h:=cond_f hb51 h
     refine ht_exit ?_
     refine pt_x_then ?_
     refine pt_x_then ?_
     refine pt_x_in ?_
     refine pt_pick [0,1,2,3,4,5,6,7,11] (by kernel_rfl) (es':=[(_,_),(_,_),(_,_),(_,_),(_,_),(_,_),(_,_),(_,_),(_,_)]) rfl ?_
     exact hl46 _ (ho48 _ (zi h).symm).symm
  ·rintro u21 hl22 hr23 ⟨s17, s18⟩ rr26 h ho24
   refine yyy hn 1 [0,1,2,113,6,7,9,32,33,34,35,0] ?_
   refine ht_seq ?_
   refine ht_cond _ rfl (fun hb27 => ?_) (fun hb27 => ?_)
   ·have h:=cond_t hb27 h
    refine ht_skip ?_
    refine pt_then (ht_seq ?_)
    refine ht_block ?_
    refine ht_seq ?_
    obtain ⟨v6, hv6, h⟩:=zn h
    obtain ⟨v7, hv7, h⟩:=zn h
    refine yx hn 0 ?_
    refine ys 0 ⟨li hv6⟩ ?_
    refine ys 1 ⟨ll hv7⟩ ?_
    refine yee [0,1,2,113,6,7,9,32,33,34,11,0] ?_
    obtain ⟨v8, hv8, h⟩:=zn h
    obtain ⟨v9, hv9, h⟩:=zn h
    obtain ⟨v10, hv10, h⟩:=zn h
    obtain ⟨v11, hv11, h⟩:=zn h
    obtain ⟨v12, hv12, h⟩:=zn h
    refine yx hn 2 ?_
    refine ys 0 ⟨li hv8⟩ ?_
    refine ys 0 ⟨ll hv9⟩ ?_
    refine ys 0 ⟨lb hv10⟩ ?_
    refine ys 0 ⟨li hv11⟩ ?_
    refine yk [9] [43,42] ?_
    refine yt (9,.fl (.own 3) 1 (map (int .i64) v12)) 0 ⟨op_store_e _ _ _ _ _ _ _ _ sz3 rfl rfl rfl (by decide) (map_lt (ix_ok hv11).2) ((map_set (f:=int .i64) _ (ix_ok hv11).2).trans (congrArg (map _) (Option.some.inj hv12)))⟩ ?_
    refine ye [0,1,2,113,6,7,9,32,33,34,0] ?_
    refine pt_inb ?_
    refine pt_then ?_
    obtain ⟨v13, hv13, h⟩:=zn h
    refine yx hn 0 ?_
    refine ys 0 ⟨lb hv13⟩ ?_
    refine yw [34] 1 ?_
    refine ye [0,1,2,113,6,7,9,32,33,34,0] ?_
    exact pt_next _ (zi h).symm rfl
   ·have h:=cond_f hb27 h
    refine ht_exit ?_
    refine pt_x_then ?_
    refine pt_x_then ?_
    refine pt_x_in ?_
    refine pt_pick [0,1,2,3,4,5,6,11] (by kernel_rfl) (es':=[(_,_),(_,_),(_,_),(_,_),(_,_),(_,_),(_,_),(_,_)]) rfl ?_
    exact hl22 _ (ho24 _ (zi h).symm).symm
theorem ok_shrink_dynamicBlock (mx:Int) (l:(List T_Tok)) (r:(Option T_shrink_writer)) (h:Sh.shrink_dynamicBlock l=some r):FnG Tryd.prog (GL mx) 23 [.fl .shr 3 (flatten (map T_Tok.enc l))] (.obox (Option.isSome r) 54 [.fl (.own 5) 1 (map (int .u8) (((Option.getD r (default:T_shrink_writer))).b)), .v (.int .i64 (((Option.getD r (default:T_shrink_writer))).n))]):=by
  unfold Sh.shrink_dynamicBlock at h
  refine yG 42 func23 fun g0 hn hio => ?_
  refine yyy hn 1 [0,42] ?_
  refine ht_seq ?_
  obtain ⟨v1, hv1, h⟩:=zn h
  refine yx hn 1 ?_
  refine ys 0 ⟨lk call36 (ok_sym_Weights _ _ hv1)⟩ ?_
  refine ym 0 ?_
  refine yx_ 0 ?_
  refine yx_ 1 ?_
  refine ya 0 ?_
  refine ya 1 ?_
  refine yee [0,42,3,4] ?_
  refine ht_seq ?_
  obtain ⟨v2, hv2, h⟩:=zn h
  refine yx hn 0 ?_
  refine ym 0 ?_
  refine ys 0 ⟨lk call37 (ok_tree_Lengths _ _ _ hv2)⟩ ?_
  refine ym 0 ?_
  refine yx_ 1 ?_
  refine ya 1 ?_
  refine yee [0,42,4,6] ?_
  refine ht_seq ?_
  obtain ⟨v3, hv3, h⟩:=zn h
  refine yx hn 0 ?_
  refine ym 0 ?_
  refine ys 0 ⟨lk call37 (ok_tree_Lengths _ _ _ hv3)⟩ ?_
  refine ym 0 ?_
  refine yx_ 1 ?_
  refine ya 1 ?_
  refine yee [0,42,6,8] ?_
  refine ht_seq ?_
  obtain ⟨v4, hv4, h⟩:=zn h
  refine yx hn 0 ?_
  refine ys 0 ⟨lk call31 (ok_shrink_newBlock _ _ hv4)⟩ ?_
  refine ya 0 ?_
  refine ye [0,42,6,8,10] ?_
  refine pt_ob (d:=default) (f:=fun (v5:T_shrink_writer)=>[.fl (.own 5) 1 (map (int .u8) v5.b), .v (.int .i64 v5.n)]) 4 2 10 54 h (es1:=fun v5=>[(0, .fl .shr 3 (flatten (map T_Tok.enc l))), (42, .glob (GL mx)), (6, .fl (.own 3) 1 (map (int .i64) v2.1)), (8, .fl (.own 3) 1 (map (int .i64) v3.1)), (10, .box 54 [.fl (.own 5) 1 (map (int .u8) v5.b), .v (.int .i64 v5.n)])]) (es0:=[(0, .fl .shr 3 (flatten (map T_Tok.enc l))), (42, .glob (GL mx)), (6, .fl (.own 3) 1 (map (int .i64) v2.1)), (8, .fl (.own 3) 1 (map (int .i64) v3.1)), (10, .v (.pointer none))]) rfl (fun _=>rfl) (by kernel_rfl) (fun _=>rfl) (fun _=>rfl) rfl (fun v5 hv6 h => ?_) (fun hv6 h => ?_)
  ·refine pt_then (ht_seq ?_)
   refine ht_frz 2 hio (es':=[(0, .fl .shr 3 (flatten (map T_Tok.enc l))), (42, .glob (GL mx)), (6, .fl .ro 1 (map (int .i64) v2.1)), (8, .fl (.own 3) 1 (map (int .i64) v3.1)), (10, .box 54 [.fl (.own 5) 1 (map (int .u8) v5.b), .v (.int .i64 v5.n)])]) rfl ?_
   refine ht_frz 3 hio (es':=[(0, .fl .shr 3 (flatten (map T_Tok.enc l))), (42, .glob (GL mx)), (6, .fl .ro 1 (map (int .i64) v2.1)), (8, .fl .ro 1 (map (int .i64) v3.1)), (10, .box 54 [.fl (.own 5) 1 (map (int .u8) v5.b), .v (.int .i64 v5.n)])]) rfl ?_
   obtain ⟨v7, hv7, h⟩:=zn h
   obtain ⟨v8, hv8, h⟩:=zn h
   obtain ⟨v9, hv9, h⟩:=zn h
   refine yx hn 2 ?_
   refine ys 1 ⟨lr call39 (ok_shrink_trim_ro _ _ _ hv7)⟩ ?_
   refine ys 0 ⟨lr call39 (ok_shrink_trim_ro _ _ _ hv8)⟩ ?_
   refine yk [10] [28,30,32,42] ?_
   refine ytt (10,.box 54 [.fl (.own 5) 1 (map (int .u8) v9.b),vi v9.n]) (33,.tup []) 0 ⟨op_callPSG _ _ _ _ 33 42 38 [.tmp 28] [.tmp 30,.tmp 32] _ _ _ rfl call38 rfl rfl rfl rfl (fun _ h=>h) (ok_shrink_writer_putLengths mx v5 v7 v8 _ hv9) (zl rfl) rfl rfl rfl rfl rfl rfl rfl⟩ ?_
   refine yee [0,42,6,8,10] ?_
   refine ht_seq ?_
   obtain ⟨v10, hv10, h⟩:=zn h
   obtain ⟨v11, hv11, h⟩:=zn h
   obtain ⟨v12, hv12, h⟩:=zn h
   refine yx hn 3 ?_
   refine ys 1 ⟨lr call35 (ok_shrink_newCode_ro _ _ hv10)⟩ ?_
   refine ys 0 ⟨lr call35 (ok_shrink_newCode_ro _ _ hv11)⟩ ?_
   refine yQ call34 (ok_shrink_writer_putTokens _ _ _ _ _ hv12) 10 [34,35,37,39] 0 ?_
   refine yee [42,10] ?_
   refine yxx hn 0 ?_
   refine ym 0 ?_
   refine ya 0 ?_
   refine yee [42,2] ?_
   refine ht_ret ?_
   refine pt_pick [1] (by kernel_rfl) (es':=[(_,_)]) rfl ?_
   refine pt_sub (fs:=[(2,.obox true 54 [.fl (.own 5) 1 (map (int .u8) v12.b),vi v12.n])]) (.sub _ (sub_ob_box 54 (subs_refl _)) rfl .nil) ?_
   obtain rfl:=zi h
   exact pt_ret hio rfl (.tmp _ _ .nil) rfl rfl
  ·cases h
theorem ok_shrink_Shrink (mx:Int) (b:(List Int)) (r:((List Int)×Int)) (h:Sh.shrink_Shrink b=some r):FnG Tryd.prog (GL mx) 10 [.fl .shr 1 (map (int .u8) b)] (.tup [.fl (.own 5) 1 (map (int .u8) r.1), .v (.int .i64 r.2)]):=by
  unfold Sh.shrink_Shrink at h
  obtain ⟨v1, hv1, h⟩:=zn h
  have hT:=(FnOK.toG (gl:=GL mx) (ok_match_Tokens b v1 hv1))
  by_cases e:v1.2=0
  · rw [show (v1.2 != 0)=false by simp [e], cond_false] at h
    rw [e] at hT
    obtain ⟨v2, hv2, h⟩:=zn h
    obtain ⟨v3, hv3, h⟩:=zn h
    obtain ⟨v4, hv4, h⟩:=zn h
    cases v2 with
    | none=>cases h
    | some s =>
      cases v3 with
      | none=>cases h
      | some f =>
        cases v4 with
        | none=>cases h
        | some d =>
          have hr:r=(_, 0):=(Option.some.inj (show some _=some r from h)).symm
          subst hr
          have hq:=shr_fn (gl:=GL mx) Tryd.shr_walk hT (FnOK.toG (gl:=GL mx) (ok_shrink_storedBlock b _ hv2)) (FnOK.toG (gl:=GL mx) (ok_shrink_fixedBlock _ _ hv3)) (ok_shrink_dynamicBlock mx _ _ hv4)
          have hm:∀ (p:Prop) [Decidable p] (x y:List Int), (if p then map (int .u8) x else map (int .u8) y)=map (int .u8) (if p then x else y):=by intro p _ x y; split <;> rfl
          simp only [Option.getD_some] at hq
          rw [hm, hm] at hq
          exact hq
  · rw [show (v1.2 != 0)=true by simp [e], cond_true] at h
    have hr:r=_:=(zi h).symm
    subst hr
    exact shr_fnE (gl:=GL mx) Tryd.shr_walk e hT
theorem ok_bits_bytesFor (n:Int) (r:Int) (h:Sh.bits_bytesFor n=some r):FnOK Tryd.prog 27 [.v (.int .i64 n)] (.v (.int .i64 r)):=by
  unfold Sh.bits_bytesFor at h
  refine yO 6 func27 fun g0 hn hio => ?_
  refine yyy hn 1 [0] ?_
  refine ht_seq ?_
  obtain ⟨v1, hv1, h⟩:=zn h
  obtain ⟨v2, hv2, h⟩:=zn h
  refine yx hn 1 ?_
  refine ys 0 ⟨lb hv1⟩ ?_
  refine ys 1 ⟨lB (quo_ok hv2)⟩ ?_
  refine yee [2] ?_
  refine ht_ret ?_
  obtain rfl:=zi h
  exact pt_ret hio rfl (.tmp _ _ .nil) rfl rfl
theorem ok_bits_Get (b:(List Int)) (at_:Int) (n:Int) (r:(Int×Int×Int)) (h:Sh.bits_Get b at_ n=some r):FnOK Tryd.prog 76 [.fl .shr 1 (map (int .u8) b), .v (.int .i64 at_), .v (.int .i64 n)] (.tup [.v (.int .i64 r.1), .v (.int .i64 r.2.1), .v (.int .i64 r.2.2)]):=by
  unfold Sh.bits_Get at h
  refine yO 73 func76 fun g0 hn hio => ?_
  refine yyy hn 3 [0,1,2] ?_
  refine ht_seq ?_
  refine ht_seq ?_
  refine ht_joinS h (fun (s2:Bool)=>[(0,fb b),(1,vi at_),(2,vi n),(29,vb s2)]) ?_ ?_
  ·rintro s2 h
   refine pt_then ?_
   refine ht_cond _ rfl (fun hb6 => ?_) (fun hb6 => ?_)
   ·have h:=cond_t hb6 h
    refine yyy hn 3 [6,7,8] ?_
    refine ht_ret ?_
    refine pt_r_then ?_
    obtain rfl:=zi h
    exact pt_ret hio rfl (.tmp _ _ (.tmp _ _ (.tmp _ _ .nil))) rfl rfl
   ·have h:=cond_f hb6 h
    refine ht_skip ?_
    refine pt_then (ht_seq ?_)
    refine ht_seq ?_
    obtain ⟨v7, hv7, h⟩:=zn h
    obtain ⟨v8, hv8, h⟩:=zn h
    refine yx hn 2 ?_
    refine ys 2 ⟨lb hv7⟩ ?_
    refine ys 1 ⟨lb hv8⟩ ?_
    refine yee [0,1,2,36] ?_
    refine ht_cond _ rfl (fun hb9 => ?_) (fun hb9 => ?_)
    ·have h:=cond_t hb9 h
     refine yyy hn 3 [6,7,8] ?_
     refine ht_ret ?_
     refine pt_r_then ?_
     obtain rfl:=zi h
     exact pt_ret hio rfl (.tmp _ _ (.tmp _ _ (.tmp _ _ .nil))) rfl rfl
    ·have h:=cond_f hb9 h
     refine ht_skip ?_
     refine pt_then ?_
     refine yyy hn 1 [0,1,2,9] ?_
     refine ht_seq ?_
     obtain ⟨v10, hv10, h⟩:=zn h
     refine yx hn 1 ?_
     refine ys 1 ⟨lB (quo_ok hv10)⟩ ?_
     refine yee [0,1,2,9,10] ?_
     refine ht_seq ?_
     refine yyy hn 2 [0,1,2,9,10,11] ?_
     refine ht_loopS h (fun ((s25,s26):Int×Int)=>[(0,fb b),(1,vi at_),(2,vi n),(9,.v (.int .u32 s25)),(10,vi v10),(11,vi s26)]) (fun (s28:Int)=>[(1,vi at_),(2,vi n),(9,.v (.int .u32 s28))]) ?_ ?_
     ·rintro s28 h
      refine pt_then (ht_seq ?_)
      obtain ⟨v36, hv36, h⟩:=zn h
      obtain ⟨v37, hv37, h⟩:=zn h
      refine yx hn 1 ?_
      refine ys 0 ⟨lB (shl_ok hv36)⟩ ?_
      refine ys 1 ⟨lb hv37⟩ ?_
      refine yee [1,2,9,12] ?_
      refine ht_seq ?_
      obtain ⟨v38, hv38, h⟩:=zn h
      obtain ⟨v39, hv39, h⟩:=zn h
      obtain ⟨v40, hv40, h⟩:=zn h
      obtain ⟨v41, hv41, h⟩:=zn h
      obtain ⟨v42, hv42, h⟩:=zn h
      refine yx hn 2 ?_
      refine ys 0 ⟨lB (rem_ok hv38)⟩ ?_
      refine ys 1 ⟨lB (shr_ok hv39)⟩ ?_
      refine ys 0 ⟨lb hv40⟩ ?_
      refine ys 2 ⟨lv hv41⟩ ?_
      refine ys 3 ⟨lb hv42⟩ ?_
      refine yee [6,7,8] ?_
      refine ht_ret ?_
      obtain rfl:=zi h
      exact pt_ret hio rfl (.tmp _ _ (.tmp _ _ (.tmp _ _ .nil))) rfl rfl
     ·rintro u29 hl30 hr31 ⟨s25, s26⟩ rr34 h ho32
      refine ht_seq ?_
      refine ht_seq ?_
      obtain ⟨v11, hv11, h⟩:=zn h
      obtain ⟨v12, hv12, h⟩:=zn h
      refine yx hn 3 ?_
      refine ys 0 ⟨lb hv11⟩ ?_
      refine ys 1 ⟨lk call27 (ok_bits_bytesFor _ _ hv12)⟩ ?_
      refine yee [0,1,2,9,10,11,45] ?_
      refine ht_cond _ rfl (fun hb35 => ?_) (fun hb35 => ?_)
      ·have h:=cond_t hb35 h
       refine ht_skip ?_
       refine pt_then (ht_seq ?_)
       refine ht_block ?_
       obtain ⟨v14, hv14, h⟩:=zn h
       obtain ⟨v15, hv15, h⟩:=zn h
       obtain ⟨v16, hv16, h⟩:=zn h
       obtain ⟨v17, hv17, h⟩:=zn h
       obtain ⟨v18, hv18, h⟩:=zn h
       obtain ⟨v19, hv19, h⟩:=zn h
       obtain ⟨v20, hv20, h⟩:=zn h
       refine yx hn 3 ?_
       refine ys 0 ⟨li hv14⟩ ?_
       refine ys 0 ⟨ll hv15⟩ ?_
       refine ys 2 ⟨lv hv16⟩ ?_
       refine ys 0 ⟨lb hv17⟩ ?_
       refine ys 0 ⟨lb hv18⟩ ?_
       refine ys 0 ⟨lB (shl_ok hv19)⟩ ?_
       refine ys 0 ⟨lb hv20⟩ ?_
       refine yw [9] 1 ?_
       refine ye [0,1,2,10,11,9] ?_
       refine pt_inb ?_
       refine pt_then ?_
       obtain ⟨v21, hv21, h⟩:=zn h
       refine yx hn 1 ?_
       refine ys 0 ⟨lb hv21⟩ ?_
       refine yw [11] 1 ?_
       refine ye [0,1,2,10,9,11] ?_
       refine pt_pick [0,1,2,4,3,5] (by kernel_rfl) (es':=[(_,_),(_,_),(_,_),(_,_),(_,_),(_,_)]) rfl ?_
       exact pt_next _ (zi h).symm rfl
      ·have h:=cond_f hb35 h
       refine ht_exit ?_
       refine pt_x_then ?_
       refine pt_x_then ?_
       refine pt_x_in ?_
       refine pt_pick [1,2,3] (by kernel_rfl) (es':=[(_,_),(_,_),(_,_)]) rfl ?_
       exact hl30 _ (ho32 _ (zi h).symm).symm
  ·intro u3 h hl4 hr5
   refine cond_some h (fun hg1_2 h => ?_) (fun hg1_2 h => ?_)
   ·refine yx hn 3 ?_
    refine yd hg1_2 14 ?_
    refine ye [0,1,2,29] ?_
    exact hl4 _ (zi h).symm
   ·refine cond_some h (fun hg1_6 h => ?_) (fun hg1_6 h => ?_)
    ·refine yx hn 3 ?_
     refine yd hg1_2 4 ?_
     refine yd hg1_6 10 ?_
     refine ye [0,1,2,29] ?_
     exact hl4 _ (zi h).symm
    ·refine cond_some h (fun hg1_10 h => ?_) (fun hg1_10 h => ?_)
     ·refine yx hn 3 ?_
      refine yd hg1_2 4 ?_
      refine yd hg1_6 4 ?_
      refine yd hg1_10 6 ?_
      refine ye [0,1,2,29] ?_
      exact hl4 _ (zi h).symm
     ·obtain ⟨v1, hv1, h⟩:=zn h
      refine yx hn 3 ?_
      refine yd hg1_2 4 ?_
      refine yd hg1_6 4 ?_
      refine yd hg1_10 3 ?_
      refine ys 2 ⟨lb hv1⟩ ?_
      refine ye [0,1,2,29] ?_
      exact hl4 _ (zi h).symm
theorem ok_grow_stream_number (s:T_grow_stream) (n:Int) (r:(Int×Int×T_grow_stream)) (h:Sh.grow_stream_number s n=some r):FnP Tryd.prog 58 [.box 59 [.fl .shr 1 (map (int .u8) s.b), .v (.int .i64 s.at_), .fl (.own 5) 1 (map (int .u8) s.out), .v (.int .i64 s.most), .v (.int .i64 s.blocks)], .v (.int .i64 n)] [.box 59 [.fl .shr 1 (map (int .u8) r.2.2.b), .v (.int .i64 r.2.2.at_), .fl (.own 5) 1 (map (int .u8) r.2.2.out), .v (.int .i64 r.2.2.most), .v (.int .i64 r.2.2.blocks)]] (.tup [.v (.int .i64 r.1), .v (.int .i64 r.2.1)]):=by
  unfold Sh.grow_stream_number at h
  refine yP 31 func58 fun args0 hargs0 g0 hn hio => ?_
  refine yyy hn 2 [0,1,0] ?_
  refine ht_seq ?_
  obtain ⟨v1, hv1, h⟩:=zn h
  refine wb [[],[10,0],[11,0],[12,0],[],[14,0],[15,0],[16,0],[1]] ?_
  refine wN [13,17,18] ?_
  refine wo [] ⟨lk call76 (ok_bits_Get _ _ _ _ hv1)⟩ ?_
  refine wK [19] [] ?_
  refine wt [(9,.tup [vi v1.1,vi v1.2.1,vi v1.2.2])] [[9],[9],[9],[20],[21],[22]] ⟨op_move_take _ _ _ _ rfl⟩ ?_
  refine wee hn [0,6,7,8,0] ?_
  refine ht_seq ?_
  refine yyy hn 2 [0,6,7,8,24,0] ?_
  refine ht_cond _ rfl (fun hb2 => ?_) (fun hb2 => ?_)
  ·have h:=cond_t hb2 h
   refine yyy hn 3 [0,4,5,0] ?_
   refine ht_ret ?_
   refine pt_pick [1,2,0,3] (by kernel_rfl) (es':=[(_,_),(_,_),(_,_),(_,_)]) rfl ?_
   refine pt_r_then ?_
   obtain rfl:=zi h
   exact pt_retP (es:=[(4, .v (.int .i64 0)), (5, .v (.int .i64 v1.2.2))]) (posts:=[.box 59 [fb s.b,.v (.int .i64 s.at_),.fl (.own 5) 1 (map (int .u8) s.out),.v (.int .i64 s.most),.v (.int .i64 s.blocks)]]) hio rfl rfl (.tmp _ _ (.tmp _ _ .nil)) rfl rfl hargs0 rfl
  ·have h:=cond_f hb2 h
   refine ht_skip ?_
   refine pt_then ?_
   refine yyy hn 5 [0,6,0] ?_
   refine yyy hn 3 [0,4,5,0] ?_
   refine ht_ret ?_
   refine pt_pick [1,2,0,3] (by kernel_rfl) (es':=[(_,_),(_,_),(_,_),(_,_)]) rfl ?_
   obtain rfl:=zi h
   exact pt_retP (es:=[(4, .v (.int .i64 v1.1)), (5, .v (.int .i64 0))]) (posts:=[.box 59 [fb s.b,.v (.int .i64 v1.2.1),.fl (.own 5) 1 (map (int .u8) s.out),.v (.int .i64 s.most),.v (.int .i64 s.blocks)]]) hio rfl rfl (.tmp _ _ (.tmp _ _ .nil)) rfl rfl hargs0 rfl
theorem ok_grow_stream_pad (s:T_grow_stream) (r:(Int×T_grow_stream)) (h:Sh.grow_stream_pad s=some r):FnP Tryd.prog 62 [.box 59 [.fl .shr 1 (map (int .u8) s.b), .v (.int .i64 s.at_), .fl (.own 5) 1 (map (int .u8) s.out), .v (.int .i64 s.most), .v (.int .i64 s.blocks)]] [.box 59 [.fl .shr 1 (map (int .u8) r.2.b), .v (.int .i64 r.2.at_), .fl (.own 5) 1 (map (int .u8) r.2.out), .v (.int .i64 r.2.most), .v (.int .i64 r.2.blocks)]] (.v (.int .i64 r.1)):=by
  unfold Sh.grow_stream_pad at h
  refine yP 22 func62 fun args0 hargs0 g0 hn hio => ?_
  refine yyy hn 1 [0,0] ?_
  refine ht_seq ?_
  obtain ⟨v1, hv1, h⟩:=zn h
  obtain ⟨v2, hv2, h⟩:=zn h
  obtain ⟨v3, hv3, h⟩:=zn h
  obtain ⟨v4, hv4, h⟩:=zn h
  refine yx hn 5 ?_
  refine ys 0 ⟨lB (rem_ok hv1)⟩ ?_
  refine ys 0 ⟨lb hv2⟩ ?_
  refine ys 0 ⟨lB (rem_ok hv3)⟩ ?_
  refine yq call58 (ok_grow_stream_number _ _ _ hv4) 0 [6,13] 0 ?_
  refine ym 4 ?_
  refine yee [0,3,4,0] ?_
  refine ht_seq ?_
  refine yyy hn 2 [0,3,4,18,0] ?_
  refine ht_cond _ rfl (fun hb5 => ?_) (fun hb5 => ?_)
  ·have h:=cond_t hb5 h
   refine yyy hn 2 [0,2,0] ?_
   refine ht_ret ?_
   refine pt_pick [1,0,2] (by kernel_rfl) (es':=[(_,_),(_,_),(_,_)]) rfl ?_
   refine pt_r_then ?_
   obtain rfl:=zi h
   exact pt_retP (es:=[(2, .v (.int .i64 v4.2.1))]) (posts:=[.box 59 [fb v4.2.2.b,.v (.int .i64 v4.2.2.at_),.fl (.own 5) 1 (map (int .u8) v4.2.2.out),.v (.int .i64 v4.2.2.most),.v (.int .i64 v4.2.2.blocks)]]) hio rfl rfl (.tmp _ _ .nil) rfl rfl hargs0 rfl
  ·have h:=cond_f hb5 h
   refine ht_skip ?_
   refine pt_then (ht_seq ?_)
   refine yyy hn 2 [0,21,0] ?_
   refine ht_cond _ rfl (fun hb6 => ?_) (fun hb6 => ?_)
   ·have h:=cond_t hb6 h
    refine yyy hn 1 [0,2,0] ?_
    refine ht_ret ?_
    refine pt_pick [1,0,2] (by kernel_rfl) (es':=[(_,_),(_,_),(_,_)]) rfl ?_
    refine pt_r_then ?_
    obtain rfl:=zi h
    exact pt_retP (es:=[(2, .v (.int .i64 3))]) (posts:=[.box 59 [fb v4.2.2.b,.v (.int .i64 v4.2.2.at_),.fl (.own 5) 1 (map (int .u8) v4.2.2.out),.v (.int .i64 v4.2.2.most),.v (.int .i64 v4.2.2.blocks)]]) hio rfl rfl (.tmp _ _ .nil) rfl rfl hargs0 rfl
   ·have h:=cond_f hb6 h
    refine ht_skip ?_
    refine pt_then ?_
    refine yyy hn 1 [0,2,0] ?_
    refine ht_ret ?_
    refine pt_pick [1,0,2] (by kernel_rfl) (es':=[(_,_),(_,_),(_,_)]) rfl ?_
    obtain rfl:=zi h
    exact pt_retP (es:=[(2, .v (.int .i64 0))]) (posts:=[.box 59 [fb v4.2.2.b,.v (.int .i64 v4.2.2.at_),.fl (.own 5) 1 (map (int .u8) v4.2.2.out),.v (.int .i64 v4.2.2.most),.v (.int .i64 v4.2.2.blocks)]]) hio rfl rfl (.tmp _ _ .nil) rfl rfl hargs0 rfl
theorem ok_grow_stream_literal (s:T_grow_stream) (x:Int) (r:(Int×T_grow_stream)) (h:Sh.grow_stream_literal s x=some r):FnP Tryd.prog 77 [.box 59 [.fl .shr 1 (map (int .u8) s.b), .v (.int .i64 s.at_), .fl (.own 5) 1 (map (int .u8) s.out), .v (.int .i64 s.most), .v (.int .i64 s.blocks)], .v (.int .i64 x)] [.box 59 [.fl .shr 1 (map (int .u8) r.2.b), .v (.int .i64 r.2.at_), .fl (.own 5) 1 (map (int .u8) r.2.out), .v (.int .i64 r.2.most), .v (.int .i64 r.2.blocks)]] (.v (.int .i64 r.1)):=by
  unfold Sh.grow_stream_literal at h
  refine yP 27 func77 fun args0 hargs0 g0 hn hio => ?_
  refine yyy hn 1 [0,1,0] ?_
  refine ht_seq ?_
  refine ht_seq ?_
  obtain ⟨v1, hv1, h⟩:=zn h
  refine wb [[],[5,0],[6,0],[7,0],[8,0]] ?_
  refine wN [9] ?_
  refine wo [[],[11,0],[12,0],[13,0],[10,14]] ⟨lb hv1⟩ ?_
  refine wee hn [0,1,15,0] ?_
  refine ht_cond _ rfl (fun hb2 => ?_) (fun hb2 => ?_)
  ·have h:=cond_t hb2 h
   refine yyy hn 1 [0,4,0] ?_
   refine ht_ret ?_
   refine pt_pick [1,0,2] (by kernel_rfl) (es':=[(_,_),(_,_),(_,_)]) rfl ?_
   refine pt_r_then ?_
   obtain rfl:=zi h
   exact pt_retP (es:=[(4, .v (.int .i64 2))]) (posts:=[.box 59 [fb s.b,.v (.int .i64 s.at_),.fl (.own 5) 1 (map (int .u8) s.out),.v (.int .i64 s.most),.v (.int .i64 s.blocks)]]) hio rfl rfl (.tmp _ _ .nil) rfl rfl hargs0 rfl
  ·have h:=cond_f hb2 h
   refine ht_skip ?_
   refine pt_then (ht_seq ?_)
   obtain ⟨v3, hv3, h⟩:=zn h
   obtain ⟨v4, hv4, h⟩:=zn h
   refine yx hn 6 ?_
   refine ys 0 ⟨lv hv3⟩ ?_
   refine yS (.fl (.own 5) 1 (map (int .u8) [v3])) 0 ⟨op_buildSlice _ _ 1 (.int .u8 0) (map (int .u8) [v3]) [(0,.int .u8 v3)] underlying22 sz5 zr5 (fun _ V w o a hv hes=>by have e0:=rd_v hv hes (x := .tmp 22) rfl; simp only [List.map_toArray,List.map_cons,List.map_nil,e0]; try rfl) (litfill (by simp [Instr.fill,Value.cells]; rfl) (by simp [List.range,List.range.loop] <;> rfl)) (by simp [Value.oneCell']) rfl (by decide) (by decide) (by decide)⟩ ?_
   refine yk [0] [20,23] ?_
   refine ytt (0,.box 59 [fb s.b,vi s.at_,.any,vi s.most,vi s.blocks]) (24,.fl (.own 5) 1 (map (int .u8) v4)) 2 ⟨op_app_cell _ _ _ _ _ _ el22 rfl rfl (zl rfl) rfl (map_len _) (map_len _) hv4 ((List.map_append).symm.trans (congrArg (map _) (app_eq hv4))) (Nat.ne_of_beq_eq_false rfl) rfl rfl⟩ ?_
   refine yw [20] 0 ?_
   refine yk [24,0] [26] ?_
   refine yt (0,.box 59 [fb s.b,vi s.at_,.fl (.own 5) 1 (map (int .u8) v4),vi s.most,vi s.blocks]) 0 ⟨op_store_take _ _ _ _ _ _ _ _ sz22 rfl rfl rfl (zl rfl) rfl rfl⟩ ?_
   refine yee [0,0] ?_
   refine yyy hn 1 [0,4,0] ?_
   refine ht_ret ?_
   refine pt_pick [1,0,2] (by kernel_rfl) (es':=[(_,_),(_,_),(_,_)]) rfl ?_
   obtain rfl:=zi h
   exact pt_retP (es:=[(4, .v (.int .i64 0))]) (posts:=[.box 59 [fb s.b,.v (.int .i64 s.at_),.fl (.own 5) 1 (map (int .u8) v4),.v (.int .i64 s.most),.v (.int .i64 s.blocks)]]) hio rfl rfl (.tmp _ _ .nil) rfl rfl hargs0 rfl
end Go.Proofs.YthceldoojddpiaaDoor
