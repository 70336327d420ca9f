/-
  The model's runs are what is told in Lean.
-/
import Derived.Test.YtjnnkhmhjcjhdaaGreatDoorProg
import Derived.KernelRfl
import Derived.Test.YtjnnkhmhjcjhdaaGreatDoorShelf
import Derived.Test.YtjnnkhmhjcjhdaaGreatDoorIdx
import Derived.Test.YtjnnkhmhjcjhdaaGreatDoorB3
import Derived.Test.YtjnnkhmhjcjhdaaGreatDoorC1
import Derived.Test.YtjnnkhmhjcjhdaaGreatDoorBC
import Derived.Test.YtjnnkhmhjcjhdaaGreatDoorOkc6
set_option linter.unusedVariables false
set_option linter.unusedSimpArgs false
set_option maxHeartbeats 1000000
namespace Go.Proofs.YtjnnkhmhjcjhdaaGreatDoor
open Go.Abs Go.Abs.Sh Tryz
open List (map flatten)
open Value (int)
theorem ok_verb_parameters (mx:Int×Nat×Value) (kind:Int) (s:ByteArray) (r:((List T_Param)×Bool)) (h:Sh.verb_parameters kind s=some r):FnG Tryz.prog (GL mx) 159 [.v (.int .i64 kind), .v (.string s)] (.tup [.fl .ro 2 (flatten (map T_Param.enc r.1)), .v (.bool r.2)]):=by
  unfold Sh.verb_parameters at h
  refine yG 53 func159 fun g0 hn hio => ?_
  refine yxx hn 1 ?_
  refine yS (.box 120 [vz]) 0 ⟨oA (op_alloc _ _ zr120)⟩ ?_
  refine yS (.box 4 [vb false]) 0 ⟨oA (op_alloc _ _ zr4)⟩ ?_
  refine yee [1,53,2,4,5] ?_
  refine yxx hn 0 ?_
  refine yS (.box 120 [vz]) 0 ⟨oA (op_alloc _ _ zr120)⟩ ?_
  refine yee [1,53,2,4,5,6] ?_
  refine ht_seq ?_
  refine yyy hn 2 [1,53,2,4,5,6,15] ?_
  refine ht_cond _ rfl (fun hb33 => ?_) (fun hb33 => ?_)
  ·have h:=cond_t hb33 h
   refine yyy hn 3 [53,4,5] ?_
   refine ht_ret ?_
   refine pt_pick [1,2] (by kernel_rfl) (es':=[(_,_),(_,_)]) rfl ?_
   refine pt_sub (fs:=[(4,.box 120 [.fl (.own 181) 2 (flatten (map T_Param.enc []))]),(5,.box 4 [vb true])]) (.box _ _ (subs_cons (sub_nil 181 2) (subs_nil)) rfl (.same _ .nil)) ?_
   refine pt_frz 0 hio (es':=[(4, .box 120 [.fl .ro 2 (flatten (map T_Param.enc []))]), (5, .box 4 [.v (.bool true)])]) rfl ?_
   refine pt_r_then ?_
   obtain rfl:=zi h
   exact pt_ret hio rfl (.cell1 _ _ _ _ underlying120 rfl (.cell1 _ _ _ _ underlying4 rfl .nil)) rfl rfl
  ·have h:=cond_f hb33 h
   refine ht_skip ?_
   refine pt_then (ht_seq ?_)
   obtain ⟨v2, hv2, h⟩:=zn h
   refine yx hn 1 ?_
   refine ys 0 ⟨lk call184 (ok_strings_CutPrefix _ _ _ hv2)⟩ ?_
   refine ym 2 ?_
   refine yw [1] 2 ?_
   refine yee [53,2,4,5,6,1,7] ?_
   refine ht_seq ?_
   refine yyy hn 2 [53,2,4,5,6,1,23] ?_
   refine ht_cond _ rfl (fun hb34 => ?_) (fun hb34 => ?_)
   ·have h:=cond_t hb34 h
    refine yyy hn 2 [53,4,5] ?_
    refine ht_ret ?_
    refine pt_pick [1,2] (by kernel_rfl) (es':=[(_,_),(_,_)]) rfl ?_
    refine pt_sub (fs:=[(4,.box 120 [.fl (.own 181) 2 (flatten (map T_Param.enc []))]),(5,.box 4 [vb false])]) (.box _ _ (subs_cons (sub_nil 181 2) (subs_nil)) rfl (.same _ .nil)) ?_
    refine pt_frz 0 hio (es':=[(4, .box 120 [.fl .ro 2 (flatten (map T_Param.enc []))]), (5, .box 4 [.v (.bool false)])]) rfl ?_
    refine pt_r_then ?_
    obtain rfl:=zi h
    exact pt_ret hio rfl (.cell1 _ _ _ _ underlying120 rfl (.cell1 _ _ _ _ underlying4 rfl .nil)) rfl rfl
   ·have h:=cond_f hb34 h
    refine ht_skip ?_
    refine pt_then (ht_seq ?_)
    refine ht_seq ?_
    obtain ⟨v4, hv4, h⟩:=zn h
    refine yx hn 1 ?_
    refine yk [] [24] ?_
    refine yt (25,.cloB 119 [.box 9 [vs v4.1],.box 9 [vs v4.2.1],.box 3 [vi v4.2.2]]) 0 ⟨op_callS _ _ 80 _ _ rfl call80 rfl rfl (ok_strings_SplitSeq v2.1 (⟨#[32]⟩:ByteArray) _ hv4) rfl⟩ ?_
    refine yee [53,2,4,5,6,25] ?_
    refine ht_block ?_
    refine ht_pick [5,0,1,2,3,4] (by kernel_rfl) (es':=[(25,.cloB 119 [.box 9 [vs v4.1],.box 9 [vs v4.2.1],.box 3 [vi v4.2.2]]),(53,.glob (GL mx)),(2,.box 3 [vi kind]),(4,.box 120 [vz]),(5,.box 4 [vb false]),(6,.box 120 [vz])]) rfl ?_
    refine ht_sub (fs:=[(25,.cloB 119 [.box 9 [vs v4.1],.box 9 [vs v4.2.1],.box 3 [vi v4.2.2]]),(53,.glob (GL mx)),(2,.box 3 [vi kind]),(4,.box 120 [vz]),(5,.box 4 [vb false]),(6,.box 120 [.fl (.own 181) 2 (flatten (map T_Param.enc []))])]) (.same _ (.same _ (.same _ (.same _ (.same _ (.box _ _ (subs_cons (sub_nil 181 2) (subs_nil)) rfl .nil)))))) ?_
    refine ht_rangeF h 119 25 26 54 _ [53, 2, 4, 5, 6] call119 (fun (s46:(List T_Param))=>[(53, .glob (GL mx)), (2, .box 3 [.v (.int .i64 kind)]), (4, .box 120 [vz]), (5, .box 4 [.v (.bool false)]), (6, .box 120 [.fl (.own 181) 2 (flatten (map T_Param.enc s46))])]) (fun (s52:(List T_Param))=>[(53, .glob (GL mx)), (2, .box 3 [.v (.int .i64 kind)]), (4, .box 120 [vz]), (5, .box 4 [.v (.bool false)]), (6, .box 120 [.fl (.own 181) 2 (flatten (map T_Param.enc s52))])]) (fun l J Y hY t t' h=>ok_strings_splitSeq_1 mx l J Y hY v4.1 v4.2.1 v4.2.2 t t' h) hn rfl (fun _=>rfl) (fun _=>rfl) (fun _=>rfl) rfl rfl (fun _=>⟨rfl, rfl⟩) rfl (glIn_look 53 rfl) ?_ ?_ ?_
    ·rintro kk g0 hn hio x s46 u h
     refine ht_es (es':=[(26,vs x),(53,.glob (GL mx)),(2,.box 3 [vi kind]),(4,.box 120 [vz]),(5,.box 4 [vb false]),(6,.box 120 [.fl (.own 181) 2 (flatten (map T_Param.enc s46))]),(53,.v (kk.tm.getD 53 undef)),(2,.v (kk.tm.getD 2 undef)),(4,.v (kk.tm.getD 4 undef)),(5,.v (kk.tm.getD 5 undef)),(6,.v (kk.tm.getD 6 undef)),(54,.inv kk.ready)]) rfl ?_
     refine yy hn 1 [53,2,4,5,6,54,8,53,2,4,5,6] ?_
     refine pt_pick [0,1,2,3,4,6,7,8,9,10,11,5] (by kernel_rfl) (es':=[(53,.glob (GL mx)),(2,.box 3 [vi kind]),(4,.box 120 [vz]),(5,.box 4 [vb false]),(6,.box 120 [.fl (.own 181) 2 (flatten (map T_Param.enc s46))]),(8,vs x),(53,.v (kk.tm.getD 53 undef)),(2,.v (kk.tm.getD 2 undef)),(4,.v (kk.tm.getD 4 undef)),(5,.v (kk.tm.getD 5 undef)),(6,.v (kk.tm.getD 6 undef)),(54,.inv kk.ready)]) rfl ?_
     refine pt_begin (es:=[(53,.glob (GL mx)),(2,.box 3 [vi kind]),(4,.box 120 [vz]),(5,.box 4 [vb false]),(6,.box 120 [.fl (.own 181) 2 (flatten (map T_Param.enc s46))]),(8,vs x),(53,.v (kk.tm.getD 53 undef)),(2,.v (kk.tm.getD 2 undef)),(4,.v (kk.tm.getD 4 undef)),(5,.v (kk.tm.getD 5 undef)),(6,.v (kk.tm.getD 6 undef))]) 54 rfl ?_
     refine ht_block ?_
     refine ht_seq ?_
     obtain ⟨v5, hv5, h⟩:=zn h
     refine yx hn 1 ?_
     refine ys 0 ⟨lk call134 (ok_strings_Cut _ _ _ hv5)⟩ ?_
     refine ym 6 ?_
     refine yee [53,2,4,5,6,54,9,10,53,2,4,5,6] ?_
     refine ht_seq ?_
     obtain ⟨v6, hv6, h⟩:=zn h
     obtain ⟨v7, hv7, h⟩:=zn h
     refine ht_anyR (by kernel_rfl) hn (El:=(_::_::_::_::_::_::_::_::_::_::_::_::_::(34,vi kind)::(35,vs v5.1)::(36,vs v6)::(37,vs v5.2.1)::(38,.tup [.agg [vs v7.1.Key,vs v7.1.Val],vb v7.2])::(33,.tup [.agg [vs v7.1.Key,vs v7.1.Val],.any])::(33,.tup [.any,vb v7.2])::(39,.agg [vs v7.1.Key,vs v7.1.Val])::(33,.tup [.any,.any])::(40,vb v7.2)::(12,.box 181 [vs z0,vs z0])::(12,.box 181 [vs v7.1.Key,vs v7.1.Val])::(13,vb v7.2)::[])) (init:=[0,1,2,3,4,5,6,7,8,9,10,11,12]) (fin:=[0,1,2,3,4,5,24,25,8,9,10,11,12]) (sps:=[zq [1] 13 34,zq [6] 14 35,zq [14] 15 36,zq [7] 16 37,zq [13,15,16] 17 38,⟨[],[17],[18,19],[(.slot 33)]⟩,⟨[],[18],[21,20],[(.slot 39)]⟩,zq [19] 22 40,zq [] 23 12,⟨[20],[23],[24],[.cell 12 0,.cell 12 1]⟩,zq [22] 25 13]) (es':=[(_,_),(_,_),(_,_),(_,_),(_,_),(_,_),(12,.box 181 [vs v7.1.Key,vs v7.1.Val]),(13,vb v7.2),(_,_),(_,_),(_,_),(_,_),(_,_)]) (by kernel_rfl) rfl rfl ⟨zp rfl (oL underlying3 rfl),z1 rfl,zp rfl (op_call _ _ 71 _ _ rfl call71 rfl (ok_path_Fold v5.1 _ hv6) rfl rfl),z1 rfl,zp rfl (op_call _ _ 186 _ _ rfl call186 rfl (ok_verb_parameter kind v6 v5.2.1 _ hv7) rfl rfl),zp rfl (LOp.split (A:=[]) 33 0 _ _ _ (op_move_take _ _ _ _ rfl) (zl rfl) rfl rfl),zp rfl (op_extract_take _ _ _ _ _ rfl (zl rfl) rfl rfl (by decide) rfl),zp rfl (oE rfl),zp rfl (op_alloc _ _ zr181),zp rfl (oS sz181 rfl),z2 rfl,zz⟩ ?_
     refine pt_then (ht_seq ?_)
     refine ht_seq ?_
     refine ht_joinS h (fun (s53:Bool)=>[(53,.glob (GL mx)),(2,.box 3 [vi kind]),(4,.box 120 [vz]),(5,.box 4 [vb false]),(6,.box 120 [.fl (.own 181) 2 (flatten (map T_Param.enc s46))]),(54,.inv kk.busy),(12,.box 181 [vs v7.1.Key,vs v7.1.Val]),(47,vb s53),(53,.v (kk.tm.getD 53 undef)),(2,.v (kk.tm.getD 2 undef)),(4,.v (kk.tm.getD 4 undef)),(5,.v (kk.tm.getD 5 undef)),(6,.v (kk.tm.getD 6 undef))]) ?_ ?_
     ·rintro s53 h
      refine pt_then ?_
      refine ht_cond _ rfl (fun hb57 => ?_) (fun hb57 => ?_)
      ·have h:=cond_t hb57 h
       refine yyy hn 2 [53,2,4,5,6,54,53,2,4,5,6] ?_
       refine ht_ret ?_
       refine pt_r_then ?_
       refine pt_r_in ?_
       refine pt_pick [0,1,2,3,4,6,7,8,9,10,5] (by kernel_rfl) (es':=[(_,_),(_,_),(_,_),(_,_),(_,_),(_,_),(_,_),(_,_),(_,_),(_,_),(_,_)]) rfl ?_
       obtain rfl:=zi h
       exact pt_rret 54 [53, 2, 4, 5, 6] _ rfl rfl (by kernel_rfl)
      ·have h:=cond_f hb57 h
       refine ht_skip ?_
       refine pt_then ?_
       obtain ⟨v14, hv14, h⟩:=zn h
       refine yx hn 2 ?_
       refine yS (.fl (.own 181) 2 (flatten (map T_Param.enc [v7.1]))) 0 ⟨op_buildSlice _ _ 2 (.agg #[.string ByteArray.empty,.string ByteArray.empty]) (flatten (map T_Param.enc [v7.1])) [(0,.agg #[.string v7.1.Key,.string v7.1.Val])] underlying120 sz181 zr181 (fun _ V w o a hv hes=>by have e0:=agg_v (ys:=[.string v7.1.Key,.string v7.1.Val]) hv hes (x := .tmp 49) rfl; simp only [List.map_toArray,List.map_cons,List.map_nil,e0]; try rfl) (litfill (by simp [Instr.fill,Value.cells]; rfl) (by simp [List.range,List.range.loop,T_Param.enc] <;> rfl)) (by simp [Value.oneCell',T_Param.enc]) rfl (by decide) (by decide) (by decide)⟩ ?_
       refine yk [6] [48,50] ?_
       refine ytt (6,.box 120 [.any]) (51,.fl (.own 181) 2 (flatten (map T_Param.enc v14))) 0 ⟨op_app_cell _ _ _ _ _ _ el120 rfl rfl (zl rfl) rfl (flat_len T_Param.len _) (flat_len T_Param.len _) hv14 (flat_app (app_eq hv14)) (Nat.ne_of_beq_eq_false rfl) rfl rfl⟩ ?_
       refine yw [48] 0 ?_
       refine yk [51,6] [] ?_
       refine yt (6,.box 120 [.fl (.own 181) 2 (flatten (map T_Param.enc v14))]) 0 ⟨op_store_take _ _ _ _ _ _ _ _ sz120 rfl rfl rfl (zl rfl) rfl rfl⟩ ?_
       refine ye [53,2,4,5,6,54,53,2,4,5,6] ?_
       refine pt_inb ?_
       refine pt_pick [0,1,2,3,4,6,7,8,9,10,5] (by kernel_rfl) (es':=[(_,_),(_,_),(_,_),(_,_),(_,_),(_,_),(_,_),(_,_),(_,_),(_,_),(_,_)]) rfl ?_
       obtain rfl:=zi h
       exact pt_rnext 54 [53, 2, 4, 5, 6] _ rfl rfl (by kernel_rfl)
     ·intro u54 h hl55 hr56
      refine cond_some h (fun hg11_2 h => ?_) (fun hg11_2 h => ?_)
      ·refine yx hn 3 ?_
       refine yd hg11_2 4 ?_
       refine ye [53,2,4,5,6,54,12,47,53,2,4,5,6] ?_
       exact hl55 _ (zi h).symm
      ·obtain ⟨v8, hv8, h⟩:=zn h
       refine yx hn 3 ?_
       refine yd hg11_2 1 ?_
       refine yS (.clo 188 [12]) 0 ⟨op_makeFunc_name _ _ _ 12 (by decide)⟩ ?_
       refine yS (vb v8) 1 ⟨op_callC _ 46 12 45 187 188 [.string v7.1.Key,.string v7.1.Val] [.tmp 44] _ _ rfl call187 rfl rfl rfl rfl (fun bx=>ok_slices_ContainsFunc_api_Param_api_Param_of_verb_parameters_1 bx s46 v7.1 _ hv8) rfl rfl⟩ ?_
       refine ye [53,2,4,5,6,54,12,47,53,2,4,5,6] ?_
       exact hl55 _ (zi h).symm
    ·rintro D s46 h
     refine pt_inb ?_
     refine pt_then (ht_seq ?_)
     refine ht_frz 4 hio (es':=[(53, .glob (GL mx)), (2, .box 3 [.v (.int .i64 kind)]), (4, .box 120 [vz]), (5, .box 4 [.v (.bool false)]), (6, .box 120 [.fl .ro 2 (flatten (map T_Param.enc s46))])]) rfl ?_
     refine yy hn 3 [53,4,5] ?_
     refine pt_then (ht_ret ?_)
     refine pt_pick [1,2] (by kernel_rfl) (es':=[(_,_),(_,_)]) rfl ?_
     obtain rfl:=zi h
     exact pt_ret hio rfl (.cell1 _ _ _ _ underlying120 rfl (.cell1 _ _ _ _ underlying4 rfl .nil)) rfl rfl
    ·rintro D s52 h
     refine pt_pick [2,3] (by kernel_rfl) (es':=[(_,_),(_,_)]) rfl ?_
     refine pt_sub (fs:=[(4,.box 120 [.fl (.own 181) 2 (flatten (map T_Param.enc []))]),(5,.box 4 [vb false])]) (.box _ _ (subs_cons (sub_nil 181 2) (subs_nil)) rfl (.same _ .nil)) ?_
     refine pt_frz 0 hio (es':=[(4, .box 120 [.fl .ro 2 (flatten (map T_Param.enc []))]), (5, .box 4 [.v (.bool false)])]) rfl ?_
     refine pt_r_in ?_
     refine pt_r_then ?_
     obtain rfl:=zi h
     exact pt_ret hio rfl (.cell1 _ _ _ _ underlying120 rfl (.cell1 _ _ _ _ underlying4 rfl .nil)) rfl rfl
theorem ok_verb_pathCommand (mx:Int×Nat×Value) (kind:Int) (line:ByteArray) (r:(T_Cmd×Bool)) (h:Sh.verb_pathCommand kind line=some r):FnG Tryz.prog (GL mx) 137 [.v (.int .i64 kind), .v (.string line)] (.tup [.agg [.v (.int .i64 r.1.Kind), .v (.string r.1.Text), .v (.bool r.1.Path.Null), .v (.string r.1.Path.Local), .v (.string r.1.Path.Domain), .fl .ro 2 (flatten (map T_Param.enc r.1.Params))], .v (.bool r.2)]):=by
  unfold Sh.verb_pathCommand at h
  refine yG 56 func137 fun g0 hn hio => ?_
  refine yxx hn 0 ?_
  refine yS (.box 122 [vi 0,vs z0,vb false,vs z0,vs z0,vz]) 1 ⟨oA (op_alloc _ _ zr122)⟩ ?_
  refine yee [0,1,56,4] ?_
  refine ht_seq ?_
  obtain ⟨v1, hv1, h⟩:=zn h
  obtain ⟨v2, hv2, h⟩:=zn h
  refine yx hn 2 ?_
  refine ys 0 ⟨lk call157 (ok_verb_opening _ _ hv1)⟩ ?_
  refine ys 0 ⟨lk call135 (ok_verb_cutFold _ _ _ hv2)⟩ ?_
  refine ym 4 ?_
  refine yee [0,56,4,6,7] ?_
  refine ht_seq ?_
  refine yyy hn 2 [0,56,4,6,20] ?_
  refine ht_cond _ rfl (fun hb15 => ?_) (fun hb15 => ?_)
  ·have h:=cond_t hb15 h
   refine yxx hn 0 ?_
   refine yS (.agg [vi 0,vs z0,vb false,vs z0,vs z0,vz]) 0 ⟨op_build _ _ _ _ [1,1,3,1] _ _ underlying122 zr122 (fs122 _ underlying122) Src.nil rfl rfl rfl⟩ ?_
   refine yk [21,4] [] ?_
   refine yt (4,.box 122 [vi 0,vs z0,vb false,vs z0,vs z0,vz]) 1 ⟨op_store_self _ _ _ 21 4 6 sz122 rfl rfl rfl rfl rfl (.eq _ (.eq _ (.eq _ (.eq _ (.eq _ (.eq _ (.nil _))))))) rfl⟩ ?_
   refine yee [56,4,5] ?_
   refine ht_ret ?_
   refine pt_pick [1,2] (by kernel_rfl) (es':=[(_,_),(_,_)]) rfl ?_
   refine pt_sub (fs:=[(4,.box 122 [vi 0,vs z0,vb false,vs z0,vs z0,.fl (.own 181) 2 (flatten (map T_Param.enc []))]),(5,vb false)]) (.box _ _ (subs_cons (sub_refl _) (subs_cons (sub_refl _) (subs_cons (sub_refl _) (subs_cons (sub_refl _) (subs_cons (sub_refl _) (subs_cons (sub_nil 181 2) (subs_nil))))))) rfl (.same _ .nil)) ?_
   refine pt_frz 0 hio (es':=[(4, .box 122 [.v (.int .i64 0),.v (.string (⟨#[]⟩:ByteArray)),.v (.bool false),.v (.string (⟨#[]⟩:ByteArray)),.v (.string (⟨#[]⟩:ByteArray)),.fl .ro 2 (flatten (map T_Param.enc []))]), (5, .v (.bool false))]) rfl ?_
   refine pt_r_then ?_
   obtain rfl:=zi h
   exact pt_ret hio rfl (.cellA _ _ _ _ underlying122 rfl sz122 (.tmp _ _ .nil)) rfl rfl
  ·have h:=cond_f hb15 h
   refine ht_skip ?_
   refine pt_then (ht_seq ?_)
   obtain ⟨v4, hv4, h⟩:=zn h
   obtain ⟨v5, hv5, h⟩:=zn h
   refine yx hn 1 ?_
   refine ys 0 ⟨lk call121 (ok_strings_Index _ _ _ hv4)⟩ ?_
   refine ys 1 ⟨lb hv5⟩ ?_
   refine yee [0,56,4,6,8] ?_
   refine ht_seq ?_
   obtain ⟨v6, hv6, h⟩:=zn h
   obtain ⟨v7, hv7, h⟩:=zn h
   refine yx hn 2 ?_
   refine yS (vs v6) 0 ⟨op_substr _ _ _ 0 v5 _ underlying9 rfl rfl ⟨_,rfl⟩ hv6⟩ ?_
   refine ys 0 ⟨lg call158 (ok_path_Parse _ _ _ hv7) 56⟩ ?_
   refine ym 0 ?_
   refine yS (.agg [vb v7.1.Null,vs v7.1.Local,vs v7.1.Domain]) 1 ⟨op_extract_no _ _ _ _ _ _ rfl rfl (zl rfl) rfl rfl⟩ ?_
   refine yS (.box 26 [vb false,vs z0,vs z0]) 2 ⟨oA (op_alloc _ _ zr26)⟩ ?_
   refine yee [0,56,4,6,8,9,10] ?_
   refine ht_seq ?_
   refine ht_seq ?_
   refine ht_joinS h (fun (s16:Bool)=>[(0,vi kind),(56,.glob (GL mx)),(4,.box 122 [vi 0,vs z0,vb false,vs z0,vs z0,vz]),(6,vs v2.1),(8,vi v5),(9,.box 26 [vb v7.1.Null,vs v7.1.Local,vs v7.1.Domain]),(41,vb s16)]) ?_ ?_
   ·rintro s16 h
    refine pt_then ?_
    refine ht_cond _ rfl (fun hb20 => ?_) (fun hb20 => ?_)
    ·have h:=cond_t hb20 h
     refine yxx hn 0 ?_
     refine yS (.agg [vi 0,vs z0,vb false,vs z0,vs z0,vz]) 0 ⟨op_build _ _ _ _ [1,1,3,1] _ _ underlying122 zr122 (fs122 _ underlying122) Src.nil rfl rfl rfl⟩ ?_
     refine yk [42,4] [] ?_
     refine yt (4,.box 122 [vi 0,vs z0,vb false,vs z0,vs z0,vz]) 1 ⟨op_store_self _ _ _ 42 4 6 sz122 rfl rfl rfl rfl rfl (.eq _ (.eq _ (.eq _ (.eq _ (.eq _ (.eq _ (.nil _))))))) rfl⟩ ?_
     refine yee [56,4,5] ?_
     refine ht_ret ?_
     refine pt_pick [1,2] (by kernel_rfl) (es':=[(_,_),(_,_)]) rfl ?_
     refine pt_sub (fs:=[(4,.box 122 [vi 0,vs z0,vb false,vs z0,vs z0,.fl (.own 181) 2 (flatten (map T_Param.enc []))]),(5,vb false)]) (.box _ _ (subs_cons (sub_refl _) (subs_cons (sub_refl _) (subs_cons (sub_refl _) (subs_cons (sub_refl _) (subs_cons (sub_refl _) (subs_cons (sub_nil 181 2) (subs_nil))))))) rfl (.same _ .nil)) ?_
     refine pt_frz 0 hio (es':=[(4, .box 122 [.v (.int .i64 0),.v (.string (⟨#[]⟩:ByteArray)),.v (.bool false),.v (.string (⟨#[]⟩:ByteArray)),.v (.string (⟨#[]⟩:ByteArray)),.fl .ro 2 (flatten (map T_Param.enc []))]), (5, .v (.bool false))]) rfl ?_
     refine pt_r_then ?_
     obtain rfl:=zi h
     exact pt_ret hio rfl (.cellA _ _ _ _ underlying122 rfl sz122 (.tmp _ _ .nil)) rfl rfl
    ·have h:=cond_f hb20 h
     refine ht_skip ?_
     refine pt_then (ht_seq ?_)
     obtain ⟨v13, hv13, h⟩:=zn h
     obtain ⟨v14, hv14, h⟩:=zn h
     refine yx hn 3 ?_
     refine yS (vs v13) 0 ⟨op_substr _ _ _ v5 (v2.1.size:Int) _ underlying9 rfl ⟨_,rfl⟩ rfl hv13⟩ ?_
     refine ys 0 ⟨lg call159 (ok_verb_parameters _ _ _ _ hv14) 56⟩ ?_
     refine ym 4 ?_
     refine yee [0,56,4,9,11,7] ?_
     refine yxx hn 3 ?_
     refine yS (.agg [vi kind,vs z0,vb v7.1.Null,vs v7.1.Local,vs v7.1.Domain,.fl .ro 2 (flatten (map T_Param.enc v14.1))]) 3 ⟨op_build _ _ _ _ [1,1,3,1] _ _ underlying122 zr122 (fs122 _ underlying122) (.copy _ (.copy _ (.copy _ Src.nil))) rfl rfl rfl⟩ ?_
     refine yee [56,4,5] ?_
     refine ht_ret ?_
     refine pt_pick [1,2] (by kernel_rfl) (es':=[(_,_),(_,_)]) rfl ?_
     obtain rfl:=zi h
     exact pt_ret hio rfl (.cellA _ _ _ _ underlying122 rfl sz122 (.tmp _ _ .nil)) rfl rfl
   ·intro u17 h hl18 hr19
    refine cond_some h (fun hg6_2 h => ?_) (fun hg6_2 h => ?_)
    ·refine yx hn 3 ?_
     refine yd hg6_2 7 ?_
     refine ye [0,56,4,6,8,9,41] ?_
     exact hl18 _ (zi h).symm
    ·refine cond_some h (fun hg6_5 h => ?_) (fun hg6_5 h => ?_)
     ·refine yx hn 3 ?_
      refine yd hg6_2 3 ?_
      refine yd hg6_5 4 ?_
      refine ye [0,56,4,6,8,9,41] ?_
      exact hl18 _ (zi h).symm
     ·refine yx hn 3 ?_
      refine yd hg6_2 3 ?_
      refine yd hg6_5 4 ?_
      refine ye [0,56,4,6,8,9,41] ?_
      exact hl18 _ (zi h).symm
theorem ok_verb_command (mx:Int×Nat×Value) (line:ByteArray) (r:(T_Cmd×Bool)) (h:Sh.verb_command line=some r):FnG Tryz.prog (GL mx) 111 [.v (.string line)] (.tup [.agg [.v (.int .i64 r.1.Kind), .v (.string r.1.Text), .v (.bool r.1.Path.Null), .v (.string r.1.Path.Local), .v (.string r.1.Path.Domain), .fl .ro 2 (flatten (map T_Param.enc r.1.Params))], .v (.bool r.2)]):=by
  unfold Sh.verb_command at h
  refine yG 65 func111 fun g0 hn hio => ?_
  refine yxx hn 0 ?_
  refine yS (.box 122 [vi 0,vs z0,vb false,vs z0,vs z0,vz]) 1 ⟨oA (op_alloc _ _ zr122)⟩ ?_
  refine yee [0,65,2] ?_
  refine ht_seq ?_
  obtain ⟨v1, hv1, h⟩:=zn h
  refine yx hn 1 ?_
  refine ys 0 ⟨lk call134 (ok_strings_Cut _ _ _ hv1)⟩ ?_
  refine ym 6 ?_
  refine yee [0,65,2,5,6] ?_
  refine ht_seq ?_
  obtain ⟨v2, hv2, h⟩:=zn h
  refine yx hn 1 ?_
  refine ys 0 ⟨lk call109 (ok_verb_kindOf _ _ hv2)⟩ ?_
  refine yS (.agg [vi v2,vs z0,vb false,vs z0,vs z0,vz]) 0 ⟨op_build _ _ _ _ [1,1,3,1] _ _ underlying122 zr122 (fs122 _ underlying122) (.copy _ Src.nil) rfl rfl rfl⟩ ?_
  refine yS (.box 122 [vi 0,vs z0,vb false,vs z0,vs z0,vz]) 1 ⟨oA (op_alloc _ _ zr122)⟩ ?_
  refine yee [0,65,2,5,6,7] ?_
  refine ht_seq ?_
  refine yyy hn 2 [0,65,2,5,6,7,18] ?_
  refine ht_block ?_
  refine ht_seq ?_
  refine ht_joinS h (fun (s30:Bool)=>[(0,vs line),(65,.glob (GL mx)),(2,.box 122 [vi 0,vs z0,vb false,vs z0,vs z0,vz]),(5,vs v1.2.1),(6,vb v1.2.2),(7,.box 122 [vi v2,vs z0,vb false,vs z0,vs z0,vz]),(18,vi v2),(19,vb s30)]) ?_ ?_
  ·rintro s30 h
   refine pt_then ?_
   refine ht_cond _ rfl (fun hb35 => ?_) (fun hb35 => ?_)
   ·have h:=cond_t hb35 h
    refine ht_seq ?_
    obtain ⟨v10, hv10, h⟩:=zn h
    refine yx hn 3 ?_
    refine ys 0 ⟨lg call137 (ok_verb_pathCommand _ _ _ _ hv10) 65⟩ ?_
    refine yS (.agg [vi v10.1.Kind,vs v10.1.Text,vb v10.1.Path.Null,vs v10.1.Path.Local,vs v10.1.Path.Domain,.fl .ro 2 (flatten (map T_Param.enc v10.1.Params))]) 3 ⟨op_extract_no _ _ _ _ _ _ rfl rfl (zl rfl) rfl rfl⟩ ?_
    refine yee [65,2,3] ?_
    refine ht_ret ?_
    refine pt_pick [1,2] (by kernel_rfl) (es':=[(_,_),(_,_)]) rfl ?_
    refine pt_r_in ?_
    refine pt_r_then ?_
    obtain rfl:=zi h
    exact pt_ret hio rfl (.cellA _ _ _ _ underlying122 rfl sz122 (.tmp _ _ .nil)) rfl rfl
   ·have h:=cond_f hb35 h
    refine ht_seq ?_
    refine ht_joinS h (fun (s37:Bool)=>[(65,.glob (GL mx)),(2,.box 122 [vi 0,vs z0,vb false,vs z0,vs z0,vz]),(5,vs v1.2.1),(6,vb v1.2.2),(7,.box 122 [vi v2,vs z0,vb false,vs z0,vs z0,vz]),(18,vi v2),(28,vb s37)]) ?_ ?_
    ·rintro s37 h
     refine pt_then ?_
     refine ht_cond _ rfl (fun hb42 => ?_) (fun hb42 => ?_)
     ·have h:=cond_t hb42 h
      refine yyy hn 3 [65,2,5,7] ?_
      refine ht_seq ?_
      obtain ⟨v18, hv18, h⟩:=zn h
      refine wb [[7],[5]] ?_
      refine wN [34,65] ?_
      refine wo [] ⟨lg call55 (ok_path_Domain _ _ _ hv18) 65⟩ ?_
      refine wK [2] [33] ?_
      refine wt [(2,.box 122 [vi v2,vs v1.2.1,vb false,vs z0,vs z0,vz])] [[35]] ⟨op_store _ _ _ _ _ _ _ _ sz122 rfl rfl rfl rfl (zl rfl) rfl rfl⟩ ?_
      refine wee hn [65,2,3] ?_
      refine ht_ret ?_
      refine pt_pick [1,2] (by kernel_rfl) (es':=[(_,_),(_,_)]) rfl ?_
      refine pt_sub (fs:=[(2,.box 122 [vi v2,vs v1.2.1,vb false,vs z0,vs z0,.fl (.own 181) 2 (flatten (map T_Param.enc []))]),(3,vb v18)]) (.box _ _ (subs_cons (sub_refl _) (subs_cons (sub_refl _) (subs_cons (sub_refl _) (subs_cons (sub_refl _) (subs_cons (sub_refl _) (subs_cons (sub_nil 181 2) (subs_nil))))))) rfl (.same _ .nil)) ?_
      refine pt_frz 0 hio (es':=[(2, .box 122 [.v (.int .i64 v2),.v (.string v1.2.1),.v (.bool false),.v (.string (⟨#[]⟩:ByteArray)),.v (.string (⟨#[]⟩:ByteArray)),.fl .ro 2 (flatten (map T_Param.enc []))]), (3, .v (.bool v18))]) rfl ?_
      refine pt_r_in ?_
      refine pt_r_then ?_
      obtain rfl:=zi h
      exact pt_ret hio rfl (.cellA _ _ _ _ underlying122 rfl sz122 (.tmp _ _ .nil)) rfl rfl
     ·have h:=cond_f hb42 h
      refine yyy hn 2 [65,2,5,6,7,18,36] ?_
      refine ht_cond _ rfl (fun hb43 => ?_) (fun hb43 => ?_)
      ·have h:=cond_t hb43 h
       refine yyy hn 3 [65,2,5,7] ?_
       refine yyy hn 5 [65,2,3] ?_
       refine ht_ret ?_
       refine pt_pick [1,2] (by kernel_rfl) (es':=[(_,_),(_,_)]) rfl ?_
       refine pt_sub (fs:=[(2,.box 122 [vi v2,vs v1.2.1,vb false,vs z0,vs z0,.fl (.own 181) 2 (flatten (map T_Param.enc []))]),(3,vb (!(v1.2.1.toList==z0.toList)))]) (.box _ _ (subs_cons (sub_refl _) (subs_cons (sub_refl _) (subs_cons (sub_refl _) (subs_cons (sub_refl _) (subs_cons (sub_refl _) (subs_cons (sub_nil 181 2) (subs_nil))))))) rfl (.same _ .nil)) ?_
       refine pt_frz 0 hio (es':=[(2, .box 122 [.v (.int .i64 v2),.v (.string v1.2.1),.v (.bool false),.v (.string (⟨#[]⟩:ByteArray)),.v (.string (⟨#[]⟩:ByteArray)),.fl .ro 2 (flatten (map T_Param.enc []))]), (3, .v (.bool ((!(v1.2.1.toList==(⟨#[]⟩:ByteArray).toList)))))]) rfl ?_
       refine pt_r_in ?_
       refine pt_r_then ?_
       obtain rfl:=zi h
       exact pt_ret hio rfl (.cellA _ _ _ _ underlying122 rfl sz122 (.tmp _ _ .nil)) rfl rfl
      ·have h:=cond_f hb43 h
       refine yyy hn 2 [65,2,5,6,7,18,43] ?_
       refine ht_cond _ rfl (fun hb44 => ?_) (fun hb44 => ?_)
       ·have h:=cond_t hb44 h
        refine yyy hn 3 [65,2,5,6,7] ?_
        refine ht_seq ?_
        refine ht_joinS h (fun (s45:Bool)=>[(65,.glob (GL mx)),(2,.box 122 [vi v2,vs v1.2.1,vb false,vs z0,vs z0,vz]),(3,vb s45)]) ?_ ?_
        ·rintro s45 h
         refine pt_then (ht_ret ?_)
         refine pt_pick [1,2] (by kernel_rfl) (es':=[(_,_),(_,_)]) rfl ?_
         refine pt_sub (fs:=[(2,.box 122 [vi v2,vs v1.2.1,vb false,vs z0,vs z0,.fl (.own 181) 2 (flatten (map T_Param.enc []))]),(3,vb s45)]) (.box _ _ (subs_cons (sub_refl _) (subs_cons (sub_refl _) (subs_cons (sub_refl _) (subs_cons (sub_refl _) (subs_cons (sub_refl _) (subs_cons (sub_nil 181 2) (subs_nil))))))) rfl (.same _ .nil)) ?_
         refine pt_frz 0 hio (es':=[(2, .box 122 [.v (.int .i64 v2),.v (.string v1.2.1),.v (.bool false),.v (.string (⟨#[]⟩:ByteArray)),.v (.string (⟨#[]⟩:ByteArray)),.fl .ro 2 (flatten (map T_Param.enc []))]), (3, .v (.bool s45))]) rfl ?_
         refine pt_r_in ?_
         refine pt_r_then ?_
         obtain rfl:=zi h
         exact pt_ret hio rfl (.cellA _ _ _ _ underlying122 rfl sz122 (.tmp _ _ .nil)) rfl rfl
        ·intro u46 h hl47 hr48
         refine cond_some h (fun hg16_3 h => ?_) (fun hg16_3 h => ?_)
         ·refine wb [[7],[6],[48],[49]] ?_
          refine wd hg16_3 [[50],[50],[50]] ?_
          refine wK [2] [47] ?_
          refine wt [(2,.box 122 [vi v2,vs v1.2.1,vb false,vs z0,vs z0,vz])] [[53]] ⟨op_store _ _ _ _ _ _ _ _ sz122 rfl rfl rfl rfl (zl rfl) rfl rfl⟩ ?_
          refine we hn [65,2,3] ?_
          exact hl47 _ (zi h).symm
         ·obtain ⟨v21, hv21, h⟩:=zn h
          refine wb [[7],[6],[48],[49]] ?_
          refine wd hg16_3 [[50,5]] ?_
          refine wN [50,51,65] ?_
          refine wo [[50,52]] ⟨lg call55 (ok_path_Domain _ _ _ hv21) 65⟩ ?_
          refine wK [2] [47] ?_
          refine wt [(2,.box 122 [vi v2,vs v1.2.1,vb false,vs z0,vs z0,vz])] [[53]] ⟨op_store _ _ _ _ _ _ _ _ sz122 rfl rfl rfl rfl (zl rfl) rfl rfl⟩ ?_
          refine we hn [65,2,3] ?_
          exact hl47 _ (zi h).symm
       ·have h:=cond_f hb44 h
        refine yyy hn 2 [65,2,5,6,7,18,54] ?_
        refine ht_cond _ rfl (fun hb49 => ?_) (fun hb49 => ?_)
        ·have h:=cond_t hb49 h
         refine ht_seq ?_
         obtain ⟨v27, hv27, h⟩:=zn h
         refine wb [[7],[5]] ?_
         refine wN [57] ?_
         refine wo [] ⟨lk call136 (ok_verb_equalFold _ _ _ hv27)⟩ ?_
         refine wK [2] [56] ?_
         refine wt [(2,.box 122 [vi v2,vs z0,vb false,vs z0,vs z0,vz])] [[58]] ⟨op_store _ _ _ _ _ _ _ _ sz122 rfl rfl rfl rfl (zl rfl) rfl rfl⟩ ?_
         refine wee hn [65,2,3] ?_
         refine ht_ret ?_
         refine pt_pick [1,2] (by kernel_rfl) (es':=[(_,_),(_,_)]) rfl ?_
         refine pt_sub (fs:=[(2,.box 122 [vi v2,vs z0,vb false,vs z0,vs z0,.fl (.own 181) 2 (flatten (map T_Param.enc []))]),(3,vb v27)]) (.box _ _ (subs_cons (sub_refl _) (subs_cons (sub_refl _) (subs_cons (sub_refl _) (subs_cons (sub_refl _) (subs_cons (sub_refl _) (subs_cons (sub_nil 181 2) (subs_nil))))))) rfl (.same _ .nil)) ?_
         refine pt_frz 0 hio (es':=[(2, .box 122 [.v (.int .i64 v2),.v (.string (⟨#[]⟩:ByteArray)),.v (.bool false),.v (.string (⟨#[]⟩:ByteArray)),.v (.string (⟨#[]⟩:ByteArray)),.fl .ro 2 (flatten (map T_Param.enc []))]), (3, .v (.bool v27))]) rfl ?_
         refine pt_r_in ?_
         refine pt_r_then ?_
         obtain rfl:=zi h
         exact pt_ret hio rfl (.cellA _ _ _ _ underlying122 rfl sz122 (.tmp _ _ .nil)) rfl rfl
        ·have h:=cond_f hb49 h
         refine yyy hn 2 [65,2,6,7,59] ?_
         refine ht_cond _ rfl (fun hb50 => ?_) (fun hb50 => ?_)
         ·have h:=cond_t hb50 h
          refine yyy hn 3 [65,2,3] ?_
          refine ht_ret ?_
          refine pt_pick [1,2] (by kernel_rfl) (es':=[(_,_),(_,_)]) rfl ?_
          refine pt_sub (fs:=[(2,.box 122 [vi v2,vs z0,vb false,vs z0,vs z0,.fl (.own 181) 2 (flatten (map T_Param.enc []))]),(3,vb true)]) (.box _ _ (subs_cons (sub_refl _) (subs_cons (sub_refl _) (subs_cons (sub_refl _) (subs_cons (sub_refl _) (subs_cons (sub_refl _) (subs_cons (sub_nil 181 2) (subs_nil))))))) rfl (.same _ .nil)) ?_
          refine pt_frz 0 hio (es':=[(2, .box 122 [.v (.int .i64 v2),.v (.string (⟨#[]⟩:ByteArray)),.v (.bool false),.v (.string (⟨#[]⟩:ByteArray)),.v (.string (⟨#[]⟩:ByteArray)),.fl .ro 2 (flatten (map T_Param.enc []))]), (3, .v (.bool true))]) rfl ?_
          refine pt_r_in ?_
          refine pt_r_then ?_
          obtain rfl:=zi h
          exact pt_ret hio rfl (.cellA _ _ _ _ underlying122 rfl sz122 (.tmp _ _ .nil)) rfl rfl
         ·have h:=cond_f hb50 h
          refine ht_skip ?_
          refine pt_inb ?_
          refine pt_then ?_
          refine yyy hn 5 [65,2,3] ?_
          refine ht_ret ?_
          refine pt_pick [1,2] (by kernel_rfl) (es':=[(_,_),(_,_)]) rfl ?_
          refine pt_sub (fs:=[(2,.box 122 [vi v2,vs z0,vb false,vs z0,vs z0,.fl (.own 181) 2 (flatten (map T_Param.enc []))]),(3,vb (!v1.2.2))]) (.box _ _ (subs_cons (sub_refl _) (subs_cons (sub_refl _) (subs_cons (sub_refl _) (subs_cons (sub_refl _) (subs_cons (sub_refl _) (subs_cons (sub_nil 181 2) (subs_nil))))))) rfl (.same _ .nil)) ?_
          refine pt_frz 0 hio (es':=[(2, .box 122 [.v (.int .i64 v2),.v (.string (⟨#[]⟩:ByteArray)),.v (.bool false),.v (.string (⟨#[]⟩:ByteArray)),.v (.string (⟨#[]⟩:ByteArray)),.fl .ro 2 (flatten (map T_Param.enc []))]), (3, .v (.bool (!v1.2.2)))]) rfl ?_
          obtain rfl:=zi h
          exact pt_ret hio rfl (.cellA _ _ _ _ underlying122 rfl sz122 (.tmp _ _ .nil)) rfl rfl
    ·intro u38 h hl39 hr40
     refine yyy hn 2 [65,2,5,6,7,18,28] ?_
     refine ht_cond _ rfl (fun hb41 => ?_) (fun hb41 => ?_)
     ·have h:=cond_t hb41 h
      refine ht_skip ?_
      exact hl39 _ (zi h).symm
     ·have h:=cond_f hb41 h
      refine yx hn 1 ?_
      refine yw [28] 1 ?_
      refine ye [65,2,5,6,7,18,28] ?_
      exact hl39 _ (zi h).symm
  ·intro u31 h hl32 hr33
   refine yyy hn 2 [0,65,2,5,6,7,18,19] ?_
   refine ht_cond _ rfl (fun hb34 => ?_) (fun hb34 => ?_)
   ·have h:=cond_t hb34 h
    refine ht_skip ?_
    exact hl32 _ (zi h).symm
   ·have h:=cond_f hb34 h
    refine yx hn 1 ?_
    refine yw [19] 1 ?_
    refine ye [0,65,2,5,6,7,18,19] ?_
    exact hl32 _ (zi h).symm
theorem ok_verb_Parse (mx:Int×Nat×Value) (line:ByteArray) (r:(T_Cmd×Int)) (h:Sh.verb_Parse line=some r):FnG Tryz.prog (GL mx) 91 [.v (.string line)] (.tup [.agg [.v (.int .i64 r.1.Kind), .v (.string r.1.Text), .v (.bool r.1.Path.Null), .v (.string r.1.Path.Local), .v (.string r.1.Path.Domain), .fl .ro 2 (flatten (map T_Param.enc r.1.Params))], .v (.int .i64 r.2)]):=by
  unfold Sh.verb_Parse at h
  refine yG 32 func91 fun g0 hn hio => ?_
  refine yxx hn 0 ?_
  refine yS (.box 122 [vi 0,vs z0,vb false,vs z0,vs z0,vz]) 1 ⟨oA (op_alloc _ _ zr122)⟩ ?_
  refine yee [0,32,2] ?_
  refine ht_seq ?_
  refine ht_seq ?_
  refine ht_joinS h (fun (s12:Bool)=>[(0,vs line),(32,.glob (GL mx)),(2,.box 122 [vi 0,vs z0,vb false,vs z0,vs z0,vz]),(18,vb s12)]) ?_ ?_
  ·rintro s12 h
   refine pt_then ?_
   refine ht_cond _ rfl (fun hb16 => ?_) (fun hb16 => ?_)
   ·have h:=cond_t hb16 h
    refine yxx hn 0 ?_
    refine yS (.agg [vi 0,vs z0,vb false,vs z0,vs z0,vz]) 0 ⟨op_build _ _ _ _ [1,1,3,1] _ _ underlying122 zr122 (fs122 _ underlying122) Src.nil rfl rfl rfl⟩ ?_
    refine yk [19,2] [] ?_
    refine yt (2,.box 122 [vi 0,vs z0,vb false,vs z0,vs z0,vz]) 1 ⟨op_store_self _ _ _ 19 2 6 sz122 rfl rfl rfl rfl rfl (.eq _ (.eq _ (.eq _ (.eq _ (.eq _ (.eq _ (.nil _))))))) rfl⟩ ?_
    refine yee [32,2,3] ?_
    refine ht_ret ?_
    refine pt_pick [1,2] (by kernel_rfl) (es':=[(_,_),(_,_)]) rfl ?_
    refine pt_sub (fs:=[(2,.box 122 [vi 0,vs z0,vb false,vs z0,vs z0,.fl (.own 181) 2 (flatten (map T_Param.enc []))]),(3,vi 500)]) (.box _ _ (subs_cons (sub_refl _) (subs_cons (sub_refl _) (subs_cons (sub_refl _) (subs_cons (sub_refl _) (subs_cons (sub_refl _) (subs_cons (sub_nil 181 2) (subs_nil))))))) rfl (.same _ .nil)) ?_
    refine pt_frz 0 hio (es':=[(2, .box 122 [.v (.int .i64 0),.v (.string (⟨#[]⟩:ByteArray)),.v (.bool false),.v (.string (⟨#[]⟩:ByteArray)),.v (.string (⟨#[]⟩:ByteArray)),.fl .ro 2 (flatten (map T_Param.enc []))]), (3, .v (.int .i64 500))]) rfl ?_
    refine pt_r_then ?_
    obtain rfl:=zi h
    exact pt_ret hio rfl (.cellA _ _ _ _ underlying122 rfl sz122 (.tmp _ _ .nil)) rfl rfl
   ·have h:=cond_f hb16 h
    refine ht_skip ?_
    refine pt_then (ht_seq ?_)
    refine ht_seq ?_
    obtain ⟨v8, hv8, h⟩:=zn h
    refine yx hn 1 ?_
    refine ys 0 ⟨lg call110 (ok_verb_otherMechanism _ _ _ hv8) 32⟩ ?_
    refine yee [0,32,2,21] ?_
    refine ht_cond _ rfl (fun hb17 => ?_) (fun hb17 => ?_)
    ·have h:=cond_t hb17 h
     refine yxx hn 0 ?_
     refine yS (.agg [vi 0,vs z0,vb false,vs z0,vs z0,vz]) 0 ⟨op_build _ _ _ _ [1,1,3,1] _ _ underlying122 zr122 (fs122 _ underlying122) Src.nil rfl rfl rfl⟩ ?_
     refine yk [22,2] [] ?_
     refine yt (2,.box 122 [vi 0,vs z0,vb false,vs z0,vs z0,vz]) 1 ⟨op_store_self _ _ _ 22 2 6 sz122 rfl rfl rfl rfl rfl (.eq _ (.eq _ (.eq _ (.eq _ (.eq _ (.eq _ (.nil _))))))) rfl⟩ ?_
     refine yee [32,2,3] ?_
     refine ht_ret ?_
     refine pt_pick [1,2] (by kernel_rfl) (es':=[(_,_),(_,_)]) rfl ?_
     refine pt_sub (fs:=[(2,.box 122 [vi 0,vs z0,vb false,vs z0,vs z0,.fl (.own 181) 2 (flatten (map T_Param.enc []))]),(3,vi 504)]) (.box _ _ (subs_cons (sub_refl _) (subs_cons (sub_refl _) (subs_cons (sub_refl _) (subs_cons (sub_refl _) (subs_cons (sub_refl _) (subs_cons (sub_nil 181 2) (subs_nil))))))) rfl (.same _ .nil)) ?_
     refine pt_frz 0 hio (es':=[(2, .box 122 [.v (.int .i64 0),.v (.string (⟨#[]⟩:ByteArray)),.v (.bool false),.v (.string (⟨#[]⟩:ByteArray)),.v (.string (⟨#[]⟩:ByteArray)),.fl .ro 2 (flatten (map T_Param.enc []))]), (3, .v (.int .i64 504))]) rfl ?_
     refine pt_r_then ?_
     obtain rfl:=zi h
     exact pt_ret hio rfl (.cellA _ _ _ _ underlying122 rfl sz122 (.tmp _ _ .nil)) rfl rfl
    ·have h:=cond_f hb17 h
     refine ht_skip ?_
     refine pt_then (ht_seq ?_)
     obtain ⟨v10, hv10, h⟩:=zn h
     refine yx hn 1 ?_
     refine ys 0 ⟨lg call111 (ok_verb_command _ _ _ hv10) 32⟩ ?_
     refine ym 0 ?_
     refine yS (.agg [vi v10.1.Kind,vs v10.1.Text,vb v10.1.Path.Null,vs v10.1.Path.Local,vs v10.1.Path.Domain,.fl .ro 2 (flatten (map T_Param.enc v10.1.Params))]) 1 ⟨op_extract_no _ _ _ _ _ _ rfl rfl (zl rfl) rfl rfl⟩ ?_
     refine yS (.box 122 [vi 0,vs z0,vb false,vs z0,vs z0,vz]) 2 ⟨oA (op_alloc _ _ zr122)⟩ ?_
     refine yee [32,2,4,5] ?_
     refine ht_seq ?_
     refine yyy hn 2 [32,2,4,29] ?_
     refine ht_cond _ rfl (fun hb18 => ?_) (fun hb18 => ?_)
     ·have h:=cond_t hb18 h
      refine yxx hn 0 ?_
      refine yS (.agg [vi 0,vs z0,vb false,vs z0,vs z0,vz]) 0 ⟨op_build _ _ _ _ [1,1,3,1] _ _ underlying122 zr122 (fs122 _ underlying122) Src.nil rfl rfl rfl⟩ ?_
      refine yk [30,2] [] ?_
      refine yt (2,.box 122 [vi 0,vs z0,vb false,vs z0,vs z0,vz]) 1 ⟨op_store_self _ _ _ 30 2 6 sz122 rfl rfl rfl rfl rfl (.eq _ (.eq _ (.eq _ (.eq _ (.eq _ (.eq _ (.nil _))))))) rfl⟩ ?_
      refine yee [32,2,3] ?_
      refine ht_ret ?_
      refine pt_pick [1,2] (by kernel_rfl) (es':=[(_,_),(_,_)]) rfl ?_
      refine pt_sub (fs:=[(2,.box 122 [vi 0,vs z0,vb false,vs z0,vs z0,.fl (.own 181) 2 (flatten (map T_Param.enc []))]),(3,vi 501)]) (.box _ _ (subs_cons (sub_refl _) (subs_cons (sub_refl _) (subs_cons (sub_refl _) (subs_cons (sub_refl _) (subs_cons (sub_refl _) (subs_cons (sub_nil 181 2) (subs_nil))))))) rfl (.same _ .nil)) ?_
      refine pt_frz 0 hio (es':=[(2, .box 122 [.v (.int .i64 0),.v (.string (⟨#[]⟩:ByteArray)),.v (.bool false),.v (.string (⟨#[]⟩:ByteArray)),.v (.string (⟨#[]⟩:ByteArray)),.fl .ro 2 (flatten (map T_Param.enc []))]), (3, .v (.int .i64 501))]) rfl ?_
      refine pt_r_then ?_
      obtain rfl:=zi h
      exact pt_ret hio rfl (.cellA _ _ _ _ underlying122 rfl sz122 (.tmp _ _ .nil)) rfl rfl
     ·have h:=cond_f hb18 h
      refine ht_skip ?_
      refine pt_then ?_
      refine yyy hn 3 [32,2,3] ?_
      refine ht_ret ?_
      refine pt_pick [1,2] (by kernel_rfl) (es':=[(_,_),(_,_)]) rfl ?_
      obtain rfl:=zi h
      exact pt_ret hio rfl (.cellA _ _ _ _ underlying122 rfl sz122 (.tmp _ _ .nil)) rfl rfl
  ·intro u13 h hl14 hr15
   refine cond_some h (fun hg1_3 h => ?_) (fun hg1_3 h => ?_)
   ·refine yx hn 4 ?_
    refine yd hg1_3 9 ?_
    refine ye [0,32,2,18] ?_
    exact hl14 _ (zi h).symm
   ·obtain ⟨v1, hv1, h⟩:=zn h
    refine cond_some h (fun hg1_8 h => ?_) (fun hg1_8 h => ?_)
    ·refine yx hn 4 ?_
     refine yd hg1_3 1 ?_
     refine ys 3 ⟨lk call108 (ok_verb_printable _ _ hv1)⟩ ?_
     refine yd hg1_8 4 ?_
     refine ye [0,32,2,18] ?_
     exact hl14 _ (zi h).symm
    ·obtain ⟨v2, hv2, h⟩:=zn h
     refine yx hn 4 ?_
     refine yd hg1_3 1 ?_
     refine ys 3 ⟨lk call108 (ok_verb_printable _ _ hv1)⟩ ?_
     refine yd hg1_8 1 ?_
     refine ys 2 ⟨lk call109 (ok_verb_kindOf _ _ hv2)⟩ ?_
     refine ye [0,32,2,18] ?_
     exact hl14 _ (zi h).symm
theorem ok_verb_Param (c:T_Cmd) (key:ByteArray) (r:(ByteArray×Bool)) (h:Sh.verb_Param c key=some r):FnOK Tryz.prog 138 [.agg [.v (.int .i64 c.Kind), .v (.string c.Text), .v (.bool c.Path.Null), .v (.string c.Path.Local), .v (.string c.Path.Domain), .fl .shr 2 (flatten (map T_Param.enc c.Params))], .v (.string key)] (.tup [.v (.string r.1), .v (.bool r.2)]):=by
  unfold Sh.verb_Param at h
  refine yO 22 func138 fun g0 hn hio => ?_
  refine yyy hn 3 [1,2] ?_
  refine ht_seq ?_
  refine yyy hn 4 [1,9,10,11] ?_
  refine ht_loopS h (fun (s9:Int)=>[(1,vs key),(9,.fl .shr 2 (flatten (map T_Param.enc c.Params))),(10,vi (c.Params.length:Int)),(11,vi s9)]) (fun (():Unit)=>[]) ?_ ?_
  ·rintro ⟨⟩ h
   refine pt_then ?_
   refine yyy hn 2 [4,5] ?_
   refine ht_ret ?_
   obtain rfl:=zi h
   exact pt_ret hio rfl (.tmp _ _ (.tmp _ _ .nil)) rfl rfl
  ·rintro u12 hl13 hr14 s9 rr17 h ho15
   refine yyy hn 1 [1,9,10,11,12] ?_
   refine ht_seq ?_
   refine ht_cond _ rfl (fun hb18 => ?_) (fun hb18 => ?_)
   ·have h:=cond_t hb18 h
    refine ht_skip ?_
    refine pt_then (ht_seq ?_)
    refine ht_block ?_
    refine ht_seq ?_
    obtain ⟨v2, hv2, h⟩:=zn h
    obtain ⟨v3, hv3, h⟩:=zn h
    refine yx hn 0 ?_
    refine ys 0 ⟨lj hv2⟩ ?_
    refine yS (.agg [vs v3.Key,vs v3.Val]) 0 ⟨op_load_eA _ _ _ _ _ _ _ underlying181 rfl sz181 rfl rfl (flat_get T_Param.len hv3) rfl (by decide)⟩ ?_
    refine yS (.box 181 [vs z0,vs z0]) 1 ⟨oA (op_alloc _ _ zr181)⟩ ?_
    refine yee [1,9,10,11,7] ?_
    refine yyy hn 4 [1,9,10,11,7,18] ?_
    refine ht_cond _ rfl (fun hb19 => ?_) (fun hb19 => ?_)
    ·have h:=cond_t hb19 h
     refine yyy hn 4 [4,5] ?_
     refine ht_ret ?_
     refine pt_r_in ?_
     refine pt_r_then ?_
     refine pt_r_then ?_
     refine pt_r_in ?_
     refine pt_r_then ?_
     have h:=hr14 _ (ho15 _ (zi h).symm).symm
     obtain rfl:=zi h
     exact pt_ret hio rfl (.tmp _ _ (.tmp _ _ .nil)) rfl rfl
    ·have h:=cond_f hb19 h
     refine ht_skip ?_
     refine pt_inb ?_
     refine pt_then ?_
     obtain ⟨v5, hv5, h⟩:=zn h
     refine yx hn 0 ?_
     refine ys 0 ⟨lb hv5⟩ ?_
     refine yw [11] 1 ?_
     refine ye [1,9,10,11] ?_
     exact pt_next _ (zi h).symm rfl
   ·have h:=cond_f hb18 h
    refine ht_exit ?_
    refine pt_x_then ?_
    refine pt_x_then ?_
    refine pt_x_in ?_
    refine pt_pick [] (by kernel_rfl) (es':=[]) rfl ?_
    exact hl13 _ (ho15 _ (zi h).symm).symm
theorem ok_strconv_AtoiE (mx:Int×Nat×Value) (s:ByteArray) (r:Int) (h:Sh.strconv_AtoiE s=some r):FnG Tryz.prog (GL mx) 139 [.v (.string s)] (.tup [.v (.int .i64 r), .any]):=lib_strconv_AtoiE (gl_mem3 mx) (fun s n w h1 h2=>Tryz.strconv_Atoi s n h1 h2 w) (fun s w h1 h2 h3=>(Tryz.strconv_Atoi_err s h1 h2 _ w h3 (.inr ⟨_, _, rfl⟩)).mono fun _ _ ⟨_, h4, _, _, h5⟩=>⟨_, h4, h5⟩) s r h
theorem ok_gate_session_mail (mx:Int×Nat×Value) (s:T_gate_session) (c:T_Cmd) (r:(Int×T_gate_session)) (h:Sh.gate_session_mail s c=some r):FnPG Tryz.prog (GL mx) 112 [.box 80 [.v (.int .i64 s.Gate.Phase), .v (.string s.Gate.Helo), .v (.bool s.Gate.From.Null), .v (.string s.Gate.From.Local), .v (.string s.Gate.From.Domain), .fl (.own 26) 3 (flatten (map T_Path.enc s.Gate.To)), .v (.bool s.Gate.Quiet), .mkr 5 (map (int .u8) s.Gate.Buf), .v (.string s.Gate.Challenge), .v (.bool s.Gate.Proved), .v (.string ((s.config.Domains.getD 0 (⟨#[]⟩:ByteArray)))), .v (.string ((s.config.Domains.getD 1 (⟨#[]⟩:ByteArray)))), .v (.int .i64 s.config.Expiry), .v (.string s.config.User), .v (.string s.config.Secret), .v (.int .i64 s.config.Log), .v (.bool s.config.Held), .v (.int .i64 s.site), .v (.int .i64 s.at_), .fr (.own 55) false 12 (flatten (map T_Out.ienc s.out))], .agg [.v (.int .i64 c.Kind), .v (.string c.Text), .v (.bool c.Path.Null), .v (.string c.Path.Local), .v (.string c.Path.Domain), .fl .shr 2 (flatten (map T_Param.enc c.Params))]] [.box 80 [.v (.int .i64 r.2.Gate.Phase), .v (.string r.2.Gate.Helo), .v (.bool r.2.Gate.From.Null), .v (.string r.2.Gate.From.Local), .v (.string r.2.Gate.From.Domain), .fl (.own 26) 3 (flatten (map T_Path.enc r.2.Gate.To)), .v (.bool r.2.Gate.Quiet), .mkr 5 (map (int .u8) r.2.Gate.Buf), .v (.string r.2.Gate.Challenge), .v (.bool r.2.Gate.Proved), .v (.string ((r.2.config.Domains.getD 0 (⟨#[]⟩:ByteArray)))), .v (.string ((r.2.config.Domains.getD 1 (⟨#[]⟩:ByteArray)))), .v (.int .i64 r.2.config.Expiry), .v (.string r.2.config.User), .v (.string r.2.config.Secret), .v (.int .i64 r.2.config.Log), .v (.bool r.2.config.Held), .v (.int .i64 r.2.site), .v (.int .i64 r.2.at_), .fr (.own 55) false 12 (flatten (map T_Out.ienc r.2.out))]] (.v (.int .i64 r.1)):=by
  unfold Sh.gate_session_mail at h
  refine yPG 39 func112 fun args0 hargs0 g0 hn hio => ?_
  refine yyy hn 2 [0,39,3,0] ?_
  refine ht_seq ?_
  obtain ⟨v1, hv1, h⟩:=zn h
  refine yx hn 1 ?_
  refine ys 0 ⟨lk call138 (ok_verb_Param _ _ _ hv1)⟩ ?_
  refine ym 4 ?_
  refine yee [0,39,3,5,0] ?_
  refine ht_seq ?_
  obtain ⟨v2, hv2, h⟩:=zn h
  refine yx hn 1 ?_
  refine ys 0 ⟨lg call139 (ok_strconv_AtoiE _ _ _ hv2) 39⟩ ?_
  refine ym 4 ?_
  refine yee [0,39,3,7,0] ?_
  refine ht_seq ?_
  refine ht_block ?_
  refine yyy hn 7 [0,39,3,7,19,0] ?_
  refine ht_cond _ rfl (fun hb3 => ?_) (fun hb3 => ?_)
  ·have h:=cond_t hb3 h
   refine yyy hn 1 [0,39,4,0] ?_
   refine ht_ret ?_
   refine pt_pick [2,0,3] (by kernel_rfl) (es':=[(_,_),(_,_),(_,_)]) rfl ?_
   refine pt_r_in ?_
   refine pt_r_then ?_
   obtain rfl:=zi h
   exact pt_retP (es:=[(4, .v (.int .i64 503))]) (posts:=[.box 80 [.v (.int .i64 s.Gate.Phase),.v (.string s.Gate.Helo),.v (.bool s.Gate.From.Null),.v (.string s.Gate.From.Local),.v (.string s.Gate.From.Domain),.fl (.own 26) 3 (flatten (map T_Path.enc s.Gate.To)),.v (.bool s.Gate.Quiet),.mkr 5 (map (int .u8) s.Gate.Buf),.v (.string s.Gate.Challenge),.v (.bool s.Gate.Proved),.v (.string ((s.config.Domains.getD 0 (⟨#[]⟩:ByteArray)))),.v (.string ((s.config.Domains.getD 1 (⟨#[]⟩:ByteArray)))),.v (.int .i64 s.config.Expiry),.v (.string s.config.User),.v (.string s.config.Secret),.v (.int .i64 s.config.Log),.v (.bool s.config.Held),.v (.int .i64 s.site),.v (.int .i64 s.at_),.fr (.own 55) false 12 (flatten (map T_Out.ienc s.out))]]) hio rfl rfl (.tmp _ _ .nil) rfl rfl hargs0 rfl
  ·have h:=cond_f hb3 h
   refine yyy hn 3 [0,39,3,26,0] ?_
   refine ht_cond _ rfl (fun hb4 => ?_) (fun hb4 => ?_)
   ·have h:=cond_t hb4 h
    refine yyy hn 1 [0,39,4,0] ?_
    refine ht_ret ?_
    refine pt_pick [2,0,3] (by kernel_rfl) (es':=[(_,_),(_,_),(_,_)]) rfl ?_
    refine pt_r_in ?_
    refine pt_r_then ?_
    obtain rfl:=zi h
    exact pt_retP (es:=[(4, .v (.int .i64 552))]) (posts:=[.box 80 [.v (.int .i64 s.Gate.Phase),.v (.string s.Gate.Helo),.v (.bool s.Gate.From.Null),.v (.string s.Gate.From.Local),.v (.string s.Gate.From.Domain),.fl (.own 26) 3 (flatten (map T_Path.enc s.Gate.To)),.v (.bool s.Gate.Quiet),.mkr 5 (map (int .u8) s.Gate.Buf),.v (.string s.Gate.Challenge),.v (.bool s.Gate.Proved),.v (.string ((s.config.Domains.getD 0 (⟨#[]⟩:ByteArray)))),.v (.string ((s.config.Domains.getD 1 (⟨#[]⟩:ByteArray)))),.v (.int .i64 s.config.Expiry),.v (.string s.config.User),.v (.string s.config.Secret),.v (.int .i64 s.config.Log),.v (.bool s.config.Held),.v (.int .i64 s.site),.v (.int .i64 s.at_),.fr (.own 55) false 12 (flatten (map T_Out.ienc s.out))]]) hio rfl rfl (.tmp _ _ .nil) rfl rfl hargs0 rfl
   ·have h:=cond_f hb4 h
    refine ht_skip ?_
    refine pt_inb ?_
    refine pt_then (ht_seq ?_)
    refine wb [[],[],[3],[31,3],[29,0],[33,0],[34,0]] ?_
    refine wK [0] [35] ?_
    refine wt [(0,.box 80 (vi 2::vs s.Gate.Helo::vb s.Gate.From.Null::vs s.Gate.From.Local::vs s.Gate.From.Domain::.fl (.own 26) 3 (flatten (map T_Path.enc s.Gate.To))::vb s.Gate.Quiet::.mkr 5 (map (int .u8) s.Gate.Buf)::vs s.Gate.Challenge::vb s.Gate.Proved::T_Config.c s.config [vi s.site,vi s.at_,.fr (.own 55) false 12 (flatten (map T_Out.ienc s.out))]))] [[30,0],[36,0],[37,0]] ⟨op_store _ _ _ _ _ _ _ _ sz3 rfl rfl rfl rfl (zl rfl) rfl rfl⟩ ?_
    refine wK [0] [38,32] ?_
    refine wt [(0,.box 80 (vi 2::vs s.Gate.Helo::vb c.Path.Null::vs c.Path.Local::vs c.Path.Domain::.fl (.own 26) 3 (flatten (map T_Path.enc s.Gate.To))::vb s.Gate.Quiet::.mkr 5 (map (int .u8) s.Gate.Buf)::vs s.Gate.Challenge::vb s.Gate.Proved::T_Config.c s.config [vi s.site,vi s.at_,.fr (.own 55) false 12 (flatten (map T_Out.ienc s.out))]))] [] ⟨op_store _ _ _ _ _ _ _ _ sz26 rfl rfl rfl rfl (zl rfl) rfl rfl⟩ ?_
    refine wee hn [0,39,0] ?_
    refine yyy hn 1 [0,39,4,0] ?_
    refine ht_ret ?_
    refine pt_pick [2,0,3] (by kernel_rfl) (es':=[(_,_),(_,_),(_,_)]) rfl ?_
    obtain rfl:=zi h
    exact pt_retP (es:=[(4, .v (.int .i64 250))]) (posts:=[.box 80 [.v (.int .i64 2),.v (.string s.Gate.Helo),.v (.bool c.Path.Null),.v (.string c.Path.Local),.v (.string c.Path.Domain),.fl (.own 26) 3 (flatten (map T_Path.enc s.Gate.To)),.v (.bool s.Gate.Quiet),.mkr 5 (map (int .u8) s.Gate.Buf),.v (.string s.Gate.Challenge),.v (.bool s.Gate.Proved),.v (.string ((s.config.Domains.getD 0 (⟨#[]⟩:ByteArray)))),.v (.string ((s.config.Domains.getD 1 (⟨#[]⟩:ByteArray)))),.v (.int .i64 s.config.Expiry),.v (.string s.config.User),.v (.string s.config.Secret),.v (.int .i64 s.config.Log),.v (.bool s.config.Held),.v (.int .i64 s.site),.v (.int .i64 s.at_),.fr (.own 55) false 12 (flatten (map T_Out.ienc s.out))]]) hio rfl rfl (.tmp _ _ .nil) rfl rfl hargs0 rfl
theorem ok_path_At (mx:Int×Nat×Value) (p:T_Path) (domain:ByteArray) (r:Bool) (h:Sh.path_At p domain=some r):FnG Tryz.prog (GL mx) 140 [.agg [.v (.bool p.Null), .v (.string p.Local), .v (.string p.Domain)], .v (.string domain)] (.v (.bool r)):=by
  unfold Sh.path_At at h
  refine yG 21 func140 fun g0 hn hio => ?_
  refine yyy hn 2 [1,21,2] ?_
  refine ht_seq ?_
  refine ht_joinS h (fun (s4:Bool)=>[(21,.glob (GL mx)),(4,vb s4)]) ?_ ?_
  ·rintro s4 h
   refine pt_then (ht_ret ?_)
   refine pt_pick [1] (by kernel_rfl) (es':=[(_,_)]) rfl ?_
   obtain rfl:=zi h
   exact pt_ret hio rfl (.tmp _ _ .nil) rfl rfl
  ·intro u5 h hl6 hr7
   obtain ⟨v1, hv1, h⟩:=zn h
   refine cond_some h (fun hg1_3 h => ?_) (fun hg1_3 h => ?_)
   ·refine cond_some h (fun hg1_8 h => ?_) (fun hg1_8 h => ?_)
    ·obtain ⟨v2, hv2, h⟩:=zn h
     obtain ⟨v3, hv3, h⟩:=zn h
     refine yx hn 1 ?_
     refine ys 2 ⟨lg call162 (ok_path_Check _ _ _ hv1) 21⟩ ?_
     refine yd hg1_3 5 ?_
     refine yd hg1_8 2 ?_
     refine ys 1 ⟨lk call71 (ok_path_Fold _ _ hv2)⟩ ?_
     refine ys 3 ⟨lk call71 (ok_path_Fold _ _ hv3)⟩ ?_
     refine ye [21,4] ?_
     exact hl6 _ (zi h).symm
    ·refine yx hn 1 ?_
     refine ys 2 ⟨lg call162 (ok_path_Check _ _ _ hv1) 21⟩ ?_
     refine yd hg1_3 5 ?_
     refine yd hg1_8 8 ?_
     refine ye [21,4] ?_
     exact hl6 _ (zi h).symm
   ·refine yx hn 1 ?_
    refine ys 2 ⟨lg call162 (ok_path_Check _ _ _ hv1) 21⟩ ?_
    refine yd hg1_3 13 ?_
    refine ye [21,4] ?_
    exact hl6 _ (zi h).symm
end Go.Proofs.YtjnnkhmhjcjhdaaGreatDoor
