/-
  The model's runs are what is told in Lean.
-/
import Derived.Test.YtjnnkhmhjcjhdaaGreatDoorProg
import Derived.KernelRfl
import Derived.Test.YtjnnkhmhjcjhdaaGreatDoorShelf
import Derived.Test.YtjnnkhmhjcjhdaaGreatDoorIdx
import Derived.Test.YtjnnkhmhjcjhdaaGreatDoorB3
import Derived.Test.YtjnnkhmhjcjhdaaGreatDoorC1
import Derived.Test.YtjnnkhmhjcjhdaaGreatDoorBC
import Derived.Test.YtjnnkhmhjcjhdaaGreatDoorOkc10
set_option linter.unusedVariables false
set_option linter.unusedSimpArgs false
set_option maxHeartbeats 1000000
namespace Go.Proofs.YtjnnkhmhjcjhdaaGreatDoor
open Go.Abs Go.Abs.Sh Tryz
open List (map flatten)
open Value (int)

theorem ok_wherrylaw23_GateLong (mx:Int×Nat×Value) (n:Int) (c:Int) (r:Bool) (h:Sh.wherrylaw23_GateLong n c=some r):FnG Tryz.prog (GL mx) 8 [.v (.int .i64 n), .v (.int .u8 c)] (.v (.bool r)):=by
  unfold Sh.wherrylaw23_GateLong at h
  refine yG 102 func8 fun g0 hn hio => ?_
  refine yyy hn 1 [0,1,102] ?_
  refine ht_seq ?_
  obtain ⟨v1, hv1, h⟩:=zn h
  obtain ⟨v2, hv2, h⟩:=zn h
  obtain ⟨v3, hv3, h⟩:=zn h
  refine yx hn 1 ?_
  refine ys 0 ⟨lv hv1⟩ ?_
  refine ys 0 ⟨lB (rem_ok hv2)⟩ ?_
  refine ys 0 ⟨lv hv3⟩ ?_
  refine yw [0] 1 ?_
  refine yee [1,102,0] ?_
  refine ht_seq ?_
  refine ht_seq ?_
  refine ht_joinS h (fun (s4:Bool)=>[(1,.v (.int .u8 c)),(102,.glob (GL mx)),(0,vi v3),(22,vb s4)]) ?_ ?_
  ·rintro s4 h
   refine pt_then ?_
   refine ht_cond _ rfl (fun hb8 => ?_) (fun hb8 => ?_)
   ·have h:=cond_t hb8 h
    refine yyy hn 1 [102,4] ?_
    refine ht_ret ?_
    refine pt_pick [1] (by kernel_rfl) (es':=[(_,_)]) rfl ?_
    refine pt_r_then ?_
    obtain rfl:=zi h
    exact pt_ret hio rfl (.tmp _ _ .nil) rfl rfl
   ·have h:=cond_f hb8 h
    refine ht_skip ?_
    refine pt_then ?_
    refine yyy hn 1 [1,102,0,5] ?_
    refine ht_seq ?_
    refine yyy hn 1 [1,102,0,5,6] ?_
    refine ht_sub (fs:=[(1,.v (.int .u8 c)),(102,.glob (GL mx)),(0,vi v3),(5,.fl (.own 5) 1 (map (int .u8) [])),(6,vi 0)]) (.same _ (.same _ (.same _ (.sub _ (sub_nil 5 1) rfl (.same _ .nil))))) ?_
    refine ht_loopS h (fun ((s15,s16):(List Int)×Int)=>[(1,.v (.int .u8 c)),(102,.glob (GL mx)),(0,vi v3),(5,.fl (.own 5) 1 (map (int .u8) s15)),(6,vi s16)]) (fun (s18:(List Int))=>[(102,.glob (GL mx)),(0,vi v3),(5,.fl (.own 5) 1 (map (int .u8) s18))]) ?_ ?_
    ·rintro s18 h
     refine pt_then (ht_seq ?_)
     obtain ⟨v26, hv26, h⟩:=zn h
     obtain ⟨v27, hv27, h⟩:=zn h
     obtain ⟨v28, hv28, h⟩:=zn h
     refine yx hn 0 ?_
     refine ys 0 ⟨lk call20 (ok_wherrylaw23_conf _ hv26)⟩ ?_
     refine ys 0 ⟨lk call22 (ok_gate_New _ _ hv27)⟩ ?_
     refine ym 0 ?_
     refine ys 0 ⟨lg call13 (ok_gate_Feed _ _ _ _ _ _ _ hv28) 102⟩ ?_
     refine ym 0 ?_
     refine yS (.agg [vi v28.1.Phase,vs v28.1.Helo,vb v28.1.From.Null,vs v28.1.From.Local,vs v28.1.From.Domain,.fl .ro 3 (flatten (map T_Path.enc v28.1.To)),vb v28.1.Quiet,.fl .ro 1 (map (int .u8) v28.1.Buf),vs v28.1.Challenge,vb v28.1.Proved]) 2 ⟨op_extract_no _ _ _ _ _ _ rfl rfl (zl rfl) rfl rfl⟩ ?_
     refine yS (.box 30 [vi 0,vs z0,vb false,vs z0,vs z0,vz,vb false,vz,vs z0,vb false]) 3 ⟨oA (op_alloc _ _ zr30)⟩ ?_
     refine yee [102,0,7,8,9] ?_
     refine ht_seq ?_
     refine ht_seq ?_
     refine ht_joinS h (fun (s31:Bool)=>[(102,.glob (GL mx)),(7,.box 30 [vi v28.1.Phase,vs v28.1.Helo,vb v28.1.From.Null,vs v28.1.From.Local,vs v28.1.From.Domain,.fl .ro 3 (flatten (map T_Path.enc v28.1.To)),vb v28.1.Quiet,.fl .ro 1 (map (int .u8) v28.1.Buf),vs v28.1.Challenge,vb v28.1.Proved]),(8,.fr .ro false 12 (flatten (map T_Out.ienc v28.2.1))),(56,vb s31)]) ?_ ?_
     ·rintro s31 h
      refine pt_then ?_
      refine ht_cond _ rfl (fun hb35 => ?_) (fun hb35 => ?_)
      ·have h:=cond_t hb35 h
       refine yyy hn 1 [102,4] ?_
       refine ht_ret ?_
       refine pt_pick [1] (by kernel_rfl) (es':=[(_,_)]) rfl ?_
       refine pt_r_then ?_
       obtain rfl:=zi h
       exact pt_ret hio rfl (.tmp _ _ .nil) rfl rfl
      ·have h:=cond_f hb35 h
       refine ht_skip ?_
       refine pt_then (ht_seq ?_)
       refine yyy hn 1 [102,7,8,10] ?_
       refine ht_loopS h (fun (s44:Int)=>[(102,.glob (GL mx)),(7,.box 30 [vi v28.1.Phase,vs v28.1.Helo,vb v28.1.From.Null,vs v28.1.From.Local,vs v28.1.From.Domain,.fl .ro 3 (flatten (map T_Path.enc v28.1.To)),vb v28.1.Quiet,.fl .ro 1 (map (int .u8) v28.1.Buf),vs v28.1.Challenge,vb v28.1.Proved]),(8,.fr .ro false 12 (flatten (map T_Out.ienc v28.2.1))),(10,vi s44)]) (fun (():Unit)=>[(102,.glob (GL mx)),(7,.box 30 [vi v28.1.Phase,vs v28.1.Helo,vb v28.1.From.Null,vs v28.1.From.Local,vs v28.1.From.Domain,.fl .ro 3 (flatten (map T_Path.enc v28.1.To)),vb v28.1.Quiet,.fl .ro 1 (map (int .u8) v28.1.Buf),vs v28.1.Challenge,vb v28.1.Proved])]) ?_ ?_
       ·rintro ⟨⟩ h
        refine pt_then (ht_seq ?_)
        refine yyy hn 4 [102,7,73] ?_
        refine ht_cond _ rfl (fun hb55 => ?_) (fun hb55 => ?_)
        ·have h:=cond_t hb55 h
         refine ht_seq ?_
         obtain ⟨v56, hv56, h⟩:=zn h
         refine yx hn 0 ?_
         refine ys 1 ⟨lg call14 (ok_wherrylaw23_wakes _ _ hv56) 102⟩ ?_
         refine yee [102,4] ?_
         refine ht_ret ?_
         refine pt_pick [1] (by kernel_rfl) (es':=[(_,_)]) rfl ?_
         refine pt_r_then ?_
         obtain rfl:=zi h
         exact pt_ret hio rfl (.tmp _ _ .nil) rfl rfl
        ·have h:=cond_f hb55 h
         refine ht_skip ?_
         refine pt_then (ht_seq ?_)
         obtain ⟨v57, hv57, h⟩:=zn h
         obtain ⟨v58, hv58, h⟩:=zn h
         refine ht_anyR (by kernel_rfl) hn (El:=(_::_::_::(76,.agg (T_Config.c v57 []))::(77,.agg [vi v28.1.Phase,vs v28.1.Helo,vb v28.1.From.Null,vs v28.1.From.Local,vs v28.1.From.Domain,.fl .ro 3 (flatten (map T_Path.enc v28.1.To)),vb v28.1.Quiet,.fl .ro 1 (map (int .u8) v28.1.Buf),vs v28.1.Challenge,vb v28.1.Proved])::(78,.fl (.own 5) 1 (map (int .u8) [13,10,78,79,79,80,13,10]))::(79,.fl .ro 1 (map (int .u8) [13,10,78,79,79,80,13,10]))::(80,.tup [.agg [vi v58.1.Phase,vs v58.1.Helo,vb v58.1.From.Null,vs v58.1.From.Local,vs v58.1.From.Domain,.fl .ro 3 (flatten (map T_Path.enc v58.1.To)),vb v58.1.Quiet,.fl .ro 1 (map (int .u8) v58.1.Buf),vs v58.1.Challenge,vb v58.1.Proved],.fr .ro false 12 (flatten (map T_Out.ienc v58.2.1)),vi v58.2.2])::(75,.tup [.agg [vi v58.1.Phase,vs v58.1.Helo,vb v58.1.From.Null,vs v58.1.From.Local,vs v58.1.From.Domain,.fl .ro 3 (flatten (map T_Path.enc v58.1.To)),vb v58.1.Quiet,.fl .ro 1 (map (int .u8) v58.1.Buf),vs v58.1.Challenge,vb v58.1.Proved],.any,.any])::(75,.tup [.any,.fr .ro false 12 (flatten (map T_Out.ienc v58.2.1)),vi v58.2.2])::(81,.agg [vi v58.1.Phase,vs v58.1.Helo,vb v58.1.From.Null,vs v58.1.From.Local,vs v58.1.From.Domain,.fl .ro 3 (flatten (map T_Path.enc v58.1.To)),vb v58.1.Quiet,.fl .ro 1 (map (int .u8) v58.1.Buf),vs v58.1.Challenge,vb v58.1.Proved])::(75,.tup [.any,.any,.any])::(82,.fr .ro false 12 (flatten (map T_Out.ienc v58.2.1)))::(83,vi v58.2.2)::(11,.box 30 [vi 0,vs z0,vb false,vs z0,vs z0,vz,vb false,vz,vs z0,vb false])::(11,.box 30 [vi v58.1.Phase,vs v58.1.Helo,vb v58.1.From.Null,vs v58.1.From.Local,vs v58.1.From.Domain,.fl .ro 3 (flatten (map T_Path.enc v58.1.To)),vb v58.1.Quiet,.fl .ro 1 (map (int .u8) v58.1.Buf),vs v58.1.Challenge,vb v58.1.Proved])::(12,.fr .ro false 12 (flatten (map T_Out.ienc v58.2.1)))::(9,vi v58.2.2)::[])) (init:=[0,1,2]) (fin:=[0,16,17]) (sps:=[zq [] 3 76,zq [1] 4 77,zq [] 5 78,⟨[],[5],[6],[(.slot 79)]⟩,zq [3,4,6,0] 7 80,⟨[],[7],[8,9],[(.slot 75)]⟩,⟨[],[8],[11,10],[(.slot 81)]⟩,zq [9] 12 82,zq [9] 13 83,zq [] 14 11,⟨[10],[14],[15],[.cell 11 0,.cell 11 1,.cell 11 2,.cell 11 3,.cell 11 4,.cell 11 5,.cell 11 6,.cell 11 7,.cell 11 8,.cell 11 9]⟩,zq [12] 16 12,zq [13] 17 9]) (es':=[(_,_),(12,.fr .ro false 12 (flatten (map T_Out.ienc v58.2.1))),(9,vi v58.2.2)]) (by kernel_rfl) rfl rfl ⟨zp rfl (op_call _ _ 20 _ _ rfl call20 rfl (ok_wherrylaw23_conf  _ hv57) rfl rfl),zp rfl (op_loadA _ _ _ _ _ _ _ underlying30 rfl sz30 rfl rfl (zl rfl) rfl rfl),zp rfl (op_buildSlice _ _ 1 (.int .u8 0) (map (int .u8) [13,10,78,79,79,80,13,10]) [(0,.int .u8 13),(1,.int .u8 10),(2,.int .u8 78),(3,.int .u8 79),(4,.int .u8 79),(5,.int .u8 80),(6,.int .u8 13),(7,.int .u8 10)] underlying28 sz5 zr5 (fun _ V w o a hv hes=>by simp only [List.map_toArray,List.map_cons,List.map_nil]; try rfl) (litfill (by simp [Instr.fill,Value.cells]; rfl) (by simp [List.range,List.range.loop] <;> rfl)) (by simp [Value.oneCell']) rfl (by decide) (by decide) (by decide)),zp rfl (op_conv_mark _ _ _ underlying28 underlying5 (by intro h; cases h)),zp rfl (op_callG _ _ 102 13 _ _ rfl call13 rfl rfl (fun _ h=>h) (ok_gate_Feed mx ((T_Config.mk (([(v57.Domains.getD 0 z0),(v57.Domains.getD 1 z0)]:List ByteArray)) v57.Expiry v57.User v57.Secret v57.Log v57.Held)) 1 1 ((T_Gate.mk v28.1.Phase v28.1.Helo (T_Path.mk v28.1.From.Null v28.1.From.Local v28.1.From.Domain) v28.1.To v28.1.Quiet v28.1.Buf v28.1.Challenge v28.1.Proved)) [13,10,78,79,79,80,13,10] _ hv58) rfl rfl),zp rfl (LOp.split (A:=[]) 75 0 _ _ _ (op_move_take _ _ _ _ rfl) (zl rfl) rfl rfl),zp rfl (op_extract_take _ _ _ _ _ rfl (zl rfl) rfl rfl (by decide) rfl),zp rfl (oE rfl),zp rfl (oE rfl),zp rfl (op_alloc _ _ zr30),zp rfl (oS sz30 rfl),z2 rfl,z2 rfl,zz⟩ ?_
         refine pt_then (ht_seq ?_)
         refine ht_joinS h (fun (s62:Bool)=>[(102,.glob (GL mx)),(4,vb s62)]) ?_ ?_
         ·rintro s62 h
          refine pt_then (ht_ret ?_)
          refine pt_pick [1] (by kernel_rfl) (es':=[(_,_)]) rfl ?_
          obtain rfl:=zi h
          exact pt_ret hio rfl (.tmp _ _ .nil) rfl rfl
         ·intro u63 h hl64 hr65
          refine cond_some h (fun hg20_2 h => ?_) (fun hg20_2 h => ?_)
          ·refine cond_some h (fun hg20_7 h => ?_) (fun hg20_7 h => ?_)
           ·obtain ⟨v59, hv59, h⟩:=zn h
            obtain ⟨v60, hv60, h⟩:=zn h
            refine cond_some h (fun hg20_15 h => ?_) (fun hg20_15 h => ?_)
            ·obtain ⟨v61, hv61, h⟩:=zn h
             refine yx hn 3 ?_
             refine yd hg20_2 5 ?_
             refine yd hg20_7 1 ?_
             refine ys 2 ⟨lI hv59⟩ ?_
             refine yS (vi v60.Reply.Code) 3 ⟨op_load_fr _ _ _ _ _ _ _ underlying3 rfl rfl rfl (gflat_cell (j:=0) T_Out.ilen hv60 rfl) (.v _)⟩ ?_
             refine yd hg20_15 0 ?_
             refine ys 2 ⟨lg call14 (ok_wherrylaw23_wakes _ _ hv61) 102⟩ ?_
             refine ye [102,4] ?_
             exact hl64 _ (zi h).symm
            ·refine yx hn 3 ?_
             refine yd hg20_2 5 ?_
             refine yd hg20_7 1 ?_
             refine ys 2 ⟨lI hv59⟩ ?_
             refine yS (vi v60.Reply.Code) 3 ⟨op_load_fr _ _ _ _ _ _ _ underlying3 rfl rfl rfl (gflat_cell (j:=0) T_Out.ilen hv60 rfl) (.v _)⟩ ?_
             refine yd hg20_15 3 ?_
             refine ye [102,4] ?_
             exact hl64 _ (zi h).symm
           ·refine yx hn 3 ?_
            refine yd hg20_2 5 ?_
            refine yd hg20_7 11 ?_
            refine ye [102,4] ?_
            exact hl64 _ (zi h).symm
          ·refine yx hn 3 ?_
           refine yd hg20_2 16 ?_
           refine ye [102,4] ?_
           exact hl64 _ (zi h).symm
       ·rintro u47 hl48 hr49 s44 rr52 h ho50
        refine ht_seq ?_
        refine yyy hn 4 [102,7,8,10,60] ?_
        refine ht_cond _ rfl (fun hb53 => ?_) (fun hb53 => ?_)
        ·have h:=cond_t hb53 h
         refine ht_skip ?_
         refine pt_then (ht_seq ?_)
         refine ht_block ?_
         refine ht_seq ?_
         obtain ⟨v37, hv37, h⟩:=zn h
         obtain ⟨v38, hv38, h⟩:=zn h
         refine yx hn 2 ?_
         refine ys 2 ⟨lI hv37⟩ ?_
         refine yS (vi v38.Reply.Code) 1 ⟨op_load_fr _ _ _ _ _ _ _ underlying3 rfl rfl rfl (gflat_cell (j:=0) T_Out.ilen hv38 rfl) (.v _)⟩ ?_
         refine yee [102,7,8,10,69] ?_
         refine ht_cond _ rfl (fun hb54 => ?_) (fun hb54 => ?_)
         ·have h:=cond_t hb54 h
          refine yyy hn 1 [102,4] ?_
          refine ht_ret ?_
          refine pt_pick [1] (by kernel_rfl) (es':=[(_,_)]) rfl ?_
          refine pt_r_in ?_
          refine pt_r_then ?_
          refine pt_r_then ?_
          refine pt_r_in ?_
          refine pt_r_then ?_
          have h:=hr49 _ (ho50 _ (zi h).symm).symm
          obtain rfl:=zi h
          exact pt_ret hio rfl (.tmp _ _ .nil) rfl rfl
         ·have h:=cond_f hb54 h
          refine ht_skip ?_
          refine pt_inb ?_
          refine pt_then ?_
          obtain ⟨v40, hv40, h⟩:=zn h
          refine yx hn 1 ?_
          refine ys 0 ⟨lb hv40⟩ ?_
          refine yw [10] 1 ?_
          refine ye [102,7,8,10] ?_
          exact pt_next _ (zi h).symm rfl
        ·have h:=cond_f hb53 h
         refine ht_exit ?_
         refine pt_x_then ?_
         refine pt_x_then ?_
         refine pt_x_in ?_
         refine pt_pick [0,1] (by kernel_rfl) (es':=[(_,_),(_,_)]) rfl ?_
         exact hl48 _ (ho50 _ (zi h).symm).symm
     ·intro u32 h hl33 hr34
      refine cond_some h (fun hg10_2 h => ?_) (fun hg10_2 h => ?_)
      ·refine yx hn 3 ?_
       refine yd hg10_2 14 ?_
       refine ye [102,7,8,56] ?_
       exact hl33 _ (zi h).symm
      ·obtain ⟨v29, hv29, h⟩:=zn h
       refine cond_some h (fun hg10_9 h => ?_) (fun hg10_9 h => ?_)
       ·refine yx hn 3 ?_
        refine yd hg10_2 3 ?_
        refine ys 3 ⟨lB (quo_ok hv29)⟩ ?_
        refine yd hg10_9 7 ?_
        refine ye [102,7,8,56] ?_
        exact hl33 _ (zi h).symm
       ·obtain ⟨v30, hv30, h⟩:=zn h
        refine yx hn 3 ?_
        refine yd hg10_2 3 ?_
        refine ys 3 ⟨lB (quo_ok hv29)⟩ ?_
        refine yd hg10_9 4 ?_
        refine ys 2 ⟨lB (rem_ok hv30)⟩ ?_
        refine ye [102,7,8,56] ?_
        exact hl33 _ (zi h).symm
    ·rintro u19 hl20 hr21 ⟨s15, s16⟩ rr24 h ho22
     refine ht_seq ?_
     refine yyy hn 3 [1,102,0,5,6,25] ?_
     refine ht_cond _ rfl (fun hb25 => ?_) (fun hb25 => ?_)
     ·have h:=cond_t hb25 h
      refine ht_skip ?_
      refine pt_then (ht_seq ?_)
      refine ht_block ?_
      obtain ⟨v10, hv10, h⟩:=zn h
      refine yx hn 0 ?_
      refine ym 1 ?_
      refine yS (.fl (.own 5) 1 (map (int .u8) [c])) 0 ⟨op_buildSlice _ _ 1 (.int .u8 0) (map (int .u8) [c]) [(0,.int .u8 c)] underlying28 sz5 zr5 (fun _ V w o a hv hes=>by have e0:=rd_v hv hes (x := .tmp 29) rfl; simp only [List.map_toArray,List.map_cons,List.map_nil,e0]; try rfl) (litfill (by simp [Instr.fill,Value.cells]; rfl) (by simp [List.range,List.range.loop] <;> rfl)) (by simp [Value.oneCell']) rfl (by decide) (by decide) (by decide)⟩ ?_
      refine yp el28 hv10 0 ?_
      refine ya 0 ?_
      refine ye [1,102,0,6,5] ?_
      refine pt_inb ?_
      refine pt_then ?_
      obtain ⟨v11, hv11, h⟩:=zn h
      refine yx hn 1 ?_
      refine ys 0 ⟨lb hv11⟩ ?_
      refine yw [6] 1 ?_
      refine ye [1,102,0,5,6] ?_
      exact pt_next _ (zi h).symm rfl
     ·have h:=cond_f hb25 h
      refine ht_exit ?_
      refine pt_x_then ?_
      refine pt_x_then ?_
      refine pt_x_in ?_
      refine pt_pick [1,2,3] (by kernel_rfl) (es':=[(_,_),(_,_),(_,_)]) rfl ?_
      exact hl20 _ (ho22 _ (zi h).symm).symm
  ·intro u5 h hl6 hr7
   refine cond_some h (fun hg2_2 h => ?_) (fun hg2_2 h => ?_)
   ·refine yx hn 3 ?_
    refine yd hg2_2 3 ?_
    refine ye [1,102,0,22] ?_
    exact hl6 _ (zi h).symm
   ·refine yx hn 3 ?_
    refine yd hg2_2 3 ?_
    refine ye [1,102,0,22] ?_
    exact hl6 _ (zi h).symm

end Go.Proofs.YtjnnkhmhjcjhdaaGreatDoor
