/-
  The model's runs are what is told in Lean.
-/
import Derived.Test.YtohhijlgepnbeaaProg
import Derived.KernelRfl
import Derived.Test.YtohhijlgepnbeaaShelf
import Derived.Test.YtohhijlgepnbeaaB4
import Derived.Test.YtohhijlgepnbeaaB5
import Derived.Test.YtohhijlgepnbeaaB8
import Derived.Test.YtohhijlgepnbeaaSrt
import Derived.Test.YtohhijlgepnbeaaOkc1
set_option linter.unusedVariables false
set_option linter.unusedSimpArgs false
set_option maxHeartbeats 1000000
namespace Go.Proofs.Ytohhijlgepnbeaa
open Go.Abs Go.Abs.Sh Try

theorem ok_wherrylaw03_TreeNoughts (w : (List Int)) (at_ : Int) (r : Bool) (h : Sh.wherrylaw03_TreeNoughts w at_ = some r) : FnOK Try.prog 9 [.fl .shr 1 (List.map (Value.int .i64) w), .v (.int .i64 at_)] (.v (.bool r)) := by
  unfold Sh.wherrylaw03_TreeNoughts at h
  refine fn_ok func9 rfl (zl rfl) rfl rfl fun g0 hn hio => ?_
  refine zgg hn [_,_,(4,vb false)] [0,1] [0,1] [zq [] 2 4] [(_,_),(_,_)] rfl ⟨z2 rfl,zz⟩ ?_
  refine ht_seq ?_
  refine zgg hn [_,_,(10,.fl .shr 1 (List.map (Value.int .i64) w)),(11,vi (w.length : Int)),(12,vb (decide (290 < (w.length : Int))))] [0,1] [0,1,4] [zq [0] 2 10,zq [2] 3 11,zq [3] 4 12] [(_,_),(_,_),(_,_)] rfl ⟨z1 rfl,zp rfl (op_len_fl _ _ _ underlying22 rfl (by decide) (map_len _)),z4 rfl rfl,zz⟩ ?_
  refine ht_cond _ rfl (fun hb1 => ?_) (fun hb1 => ?_)
  ·have h := cond_t hb1 h
   refine zgg hn [_,_,_,(4,vb true)] [0,1,2] [3] [zq [] 3 4] [(_,_)] rfl ⟨z2 rfl,zz⟩ ?_
   refine ht_ret ?_
   refine pt_r_then ?_
   obtain rfl := Option.some.inj h
   exact pt_ret hio rfl (.tmp _ _ .nil) rfl rfl
  ·have h := cond_f hb1 h
   refine ht_skip ?_
   refine pt_then (ht_seq ?_)
   obtain ⟨v2, hv2, h⟩ := bind_some h
   obtain ⟨v3, hv3, h⟩ := bind_some h
   obtain ⟨v4, hv4, h⟩ := bind_some h
   obtain ⟨v5, hv5, h⟩ := bind_some h
   obtain ⟨v6, hv6, h⟩ := bind_some h
   refine zg hn [_,_,_,(13,vi at_),(14,.v (.int .u64 v2)),(15,.fl .shr 1 (List.map (Value.int .i64) w)),(16,vi (w.length : Int)),(17,vi v3),(18,.v (.int .u64 v4)),(19,.v (.int .u64 v5)),(20,vi v6),(1,vi v6)] [0,1,2] [0,11] [zq [1] 3 13,zq [3] 4 14,zq [0] 5 15,zq [5] 6 16,zq [6] 7 17,zq [7] 8 18,zq [4,8] 9 19,zq [9] 10 20,⟨[10],[1],[11],[(.slot 1)]⟩] [(_,_),(_,_)] rfl ⟨z1 rfl,zp rfl ((Option.some.inj hv2) ▸ op_conv _ _ _ underlying3 underlying33 rfl),z1 rfl,zp rfl (op_len_fl _ _ _ underlying22 rfl (by decide) (map_len _)),zp rfl (oB rfl (ibind (f := Value.int .i64) (Option.some.inj hv3))),zp rfl ((Option.some.inj hv4) ▸ op_conv _ _ _ underlying3 underlying33 rfl),zp rfl (oB rfl (rem_ok hv5)),zp rfl ((Option.some.inj hv6) ▸ op_conv _ _ _ underlying33 underlying3 rfl),zp rfl (LOp.drop [_] (op_assign _ _ _ _ rfl rfl)),zz⟩ ?_
   refine pt_then ?_
   refine zgg hn [_,_,(5,.v (.slice none 0 0))] [0,1] [0,1,2] [zq [] 2 5] [(_,_),(_,_),(_,_)] rfl ⟨z2 rfl,zz⟩ ?_
   refine ht_seq ?_
   obtain ⟨v7, hv7, h⟩ := bind_some h
   obtain ⟨v8, hv8, h⟩ := bind_some h
   obtain ⟨v9, hv9, h⟩ := bind_some h
   obtain ⟨v10, hv10, h⟩ := bind_some h
   obtain ⟨v11, hv11, h⟩ := bind_some h
   refine ht_anyR (by kernel_rfl) hn (El := (_ :: _ :: _ :: (21, .v (.slice none 0 0)) :: (22, .fl .shr 1 (List.map (Value.int .i64) w)) :: (23, .v (.int .i64 v6)) :: (24, .fl .shr 1 (List.map (Value.int .i64) v7)) :: (25, .fl (.own 3) 1 (List.map (Value.int .i64) v8)) :: (26, .fl (.own 3) 1 (List.map (Value.int .i64) [0])) :: (27, .fl (.own 3) 1 (List.map (Value.int .i64) v9)) :: (25, .any) :: (28, .fl .shr 1 (List.map (Value.int .i64) w)) :: (29, .v (.int .i64 v6)) :: (30, .fl .shr 1 (List.map (Value.int .i64) v10)) :: (31, .fl (.own 3) 1 (List.map (Value.int .i64) v11)) :: (27, .any) :: (5, .fl (.own 3) 1 (List.map (Value.int .i64) v11)) :: [])) (init := [0, 1, 2]) (fin := [0, 1, 16]) (sps := [zq [2] 3 21, zq [0] 4 22, zq [1] 5 23, zq [4,5] 6 24, zq [3,6] 7 25, zq [] 8 26, ⟨[8], [7], [10, 9], [(.slot 27)]⟩, zq [0] 11 28, zq [1] 12 29, zq [11,12] 13 30, ⟨[13], [9], [15, 14], [(.slot 31)]⟩, ⟨[], [2, 14], [16], [(.slot 5)]⟩]) (es' := [(_,_),(_,_),(5, .fl (.own 3) 1 (List.map (Value.int .i64) v11))]) (by kernel_rfl) rfl rfl ⟨z1 rfl,z1 rfl,z1 rfl,zp rfl (op_sl _ _ _ 0 v6 _ underlying22 sz3 rfl rfl rfl ⟨_, rfl⟩ hv7),zp rfl (op_app_nil _ _ _ _ el22 rfl rfl (map_len _) hv8 (congrArg (List.map _) (app_nil_eq hv8))),zp rfl (op_buildSlice _ _ 1 (.int .i64 0) (List.map (Value.int .i64) [0]) [(0, .int .i64 0)] underlying22 sz3 zr3 (fun _ V w o a hv hes => by simp only [List.map_toArray, List.map_cons, List.map_nil]; try rfl) (litfill (by simp [Instr.fill, Value.cells]; rfl) (by simp [List.range, List.range.loop] <;> rfl)) (by simp [Value.oneCell']) rfl (by decide) (by decide) (by decide)),zp rfl (op_app _ _ _ _ _ el22 rfl rfl (map_len _) (map_len _) hv9 ((List.map_append).symm.trans (congrArg (List.map _) (app_eq hv9)))),z1 rfl,z1 rfl,zp rfl (op_sl _ _ _ v6 (w.length : Int) _ underlying22 sz3 rfl rfl ⟨_, rfl⟩ rfl hv10),zp rfl (op_app _ _ _ _ _ el22 rfl rfl (map_len _) (map_len _) hv11 ((List.map_append).symm.trans (congrArg (List.map _) (app_eq hv11)))),zp rfl (LOp.drop [_] (op_assign_take _ _ _ _ rfl)),zz⟩ ?_
   refine pt_then (ht_seq ?_)
   obtain ⟨v12, hv12, h⟩ := bind_some h
   refine zg hn [_,_,_,(33,.fl .shr 1 (List.map (Value.int .i64) w)),(34,.tup [.fl (.own 3) 1 (List.map (Value.int .i64) v12.1),vi v12.2]),(32,.tup [.fl (.own 3) 1 (List.map (Value.int .i64) v12.1),vi v12.2]),(35,.fl (.own 3) 1 (List.map (Value.int .i64) v12.1)),(32,.tup [.any,vi v12.2]),(36,vi v12.2),(6,.fl (.own 3) 1 (List.map (Value.int .i64) v12.1)),(7,vi v12.2)] [0,1,2] [1,2,9,10] [zq [0] 3 33,zq [3] 4 34,⟨[],[4],[5],[(.slot 32)]⟩,⟨[],[5],[7,6],[(.slot 35)]⟩,zq [7] 8 36,⟨[],[6],[9],[(.slot 6)]⟩,zq [8] 10 7] [(_,_),(_,_),(_,_),(_,_)] rfl ⟨z1 rfl,zp rfl (op_call _ _ 12 _ _ rfl call12 rfl (ok_tree_Lengths w 15 _ hv12) rfl rfl),zp rfl (op_move_take _ _ _ _ rfl),zp rfl (op_extract_take _ _ _ _ _ rfl (zl rfl) rfl rfl (by decide) rfl),zp rfl (oE rfl),zp rfl (op_assign_take _ _ _ _ rfl),z2 rfl,zz⟩ ?_
   refine pt_then (ht_seq ?_)
   obtain ⟨v13, hv13, h⟩ := bind_some h
   refine zg hn [_,_,_,_,(38,.fl (.own 3) 1 (List.map (Value.int .i64) v11)),(39,.tup [.fl (.own 3) 1 (List.map (Value.int .i64) v13.1),vi v13.2]),(37,.tup [.fl (.own 3) 1 (List.map (Value.int .i64) v13.1),vi v13.2]),(40,.fl (.own 3) 1 (List.map (Value.int .i64) v13.1)),(37,.tup [.any,vi v13.2]),(41,vi v13.2),(8,.fl (.own 3) 1 (List.map (Value.int .i64) v13.1)),(9,vi v13.2)] [0,1,2,3] [0,2,3,10,11] [⟨[],[1],[4],[(.slot 38)]⟩,zq [4] 5 39,⟨[],[5],[6],[(.slot 37)]⟩,⟨[],[6],[8,7],[(.slot 40)]⟩,zq [8] 9 41,⟨[],[7],[10],[(.slot 8)]⟩,zq [9] 11 9] [(_,_),(_,_),(_,_),(_,_),(_,_)] rfl ⟨zp rfl (op_move_take _ _ _ _ rfl),zp rfl (op_call _ _ 12 _ _ rfl call12 rfl (ok_tree_Lengths v11 15 _ hv13) rfl rfl),zp rfl (op_move_take _ _ _ _ rfl),zp rfl (op_extract_take _ _ _ _ _ rfl (zl rfl) rfl rfl (by decide) rfl),zp rfl (oE rfl),zp rfl (op_assign_take _ _ _ _ rfl),z2 rfl,zz⟩ ?_
   refine pt_then (ht_seq ?_)
   refine zgg hn [_,_,_,_,_,(42,vi v12.2),(43,vi v13.2),(44,vb (v12.2 != v13.2))] [0,1,2,3,4] [0,1,2,3,7] [zq [2] 5 42,zq [4] 6 43,zq [5,6] 7 44] [(_,_),(_,_),(_,_),(_,_),(_,_)] rfl ⟨z1 rfl,z1 rfl,z4 rfl rfl,zz⟩ ?_
   refine ht_cond _ rfl (fun hb14 => ?_) (fun hb14 => ?_)
   ·have h := cond_t hb14 h
    refine zgg hn [_,_,_,_,_,(4,vb false)] [0,1,2,3,4] [5] [zq [] 5 4] [(_,_)] rfl ⟨z2 rfl,zz⟩ ?_
    refine ht_ret ?_
    refine pt_r_then ?_
    obtain rfl := Option.some.inj h
    exact pt_ret hio rfl (.tmp _ _ .nil) rfl rfl
   ·have h := cond_f hb14 h
    refine ht_skip ?_
    refine pt_then (ht_seq ?_)
    refine zgg hn [_,_,_,_,_,(45,vi v12.2),(46,vb (v12.2 != 0))] [0,1,2,3,4] [0,1,3,6] [zq [2] 5 45,zq [5] 6 46] [(_,_),(_,_),(_,_),(_,_)] rfl ⟨z1 rfl,z4 rfl rfl,zz⟩ ?_
    refine ht_cond _ rfl (fun hb15 => ?_) (fun hb15 => ?_)
    ·have h := cond_t hb15 h
     refine ht_seq ?_
     obtain ⟨v16, hv16, h⟩ := bind_some h
     refine zg hn [_,_,_,_,(47,vb v16),(4,vb v16)] [0,1,2,3] [5] [zq [] 4 47,zq [4] 5 4] [(_,_)] rfl ⟨zp rfl (op_call _ _ 17 _ _ rfl call17 rfl (ok_wherrylaw03_wakes  _ hv16) rfl rfl),z2 rfl,zz⟩ ?_
     refine pt_then (ht_ret ?_)
     refine pt_r_then ?_
     obtain rfl := Option.some.inj h
     exact pt_ret hio rfl (.tmp _ _ .nil) rfl rfl
    ·have h := cond_f hb15 h
     refine ht_skip ?_
     refine pt_then (ht_seq ?_)
     refine ht_seq ?_
     refine ht_joinS h (fun (s20 : Bool) => [(1, .v (.int .i64 v6)), (6, .fl (.own 3) 1 (List.map (Value.int .i64) v12.1)), (8, .fl (.own 3) 1 (List.map (Value.int .i64) v13.1)), (60, .v (.bool s20))]) ?_ ?_
     ·rintro s20 h
      refine pt_then ?_
      refine ht_cond _ rfl (fun hb24 => ?_) (fun hb24 => ?_)
      ·have h := cond_t hb24 h
       refine zgg hn [_,_,_,_,(4,vb false)] [0,1,2,3] [4] [zq [] 4 4] [(_,_)] rfl ⟨z2 rfl,zz⟩ ?_
       refine ht_ret ?_
       refine pt_r_then ?_
       obtain rfl := Option.some.inj h
       exact pt_ret hio rfl (.tmp _ _ .nil) rfl rfl
      ·have h := cond_f hb24 h
       refine ht_skip ?_
       refine pt_then (ht_seq ?_)
       refine ht_frz 2 hio (es' := [(1, .v (.int .i64 v6)), (6, .fl (.own 3) 1 (List.map (Value.int .i64) v12.1)), (8, .fl .ro 1 (List.map (Value.int .i64) v13.1)), (60, .v (.bool s20))]) rfl ?_
       refine ht_joinS h (fun (s32 : Bool) => [(4, .v (.bool s32))]) ?_ ?_
       ·rintro s32 h
        refine pt_then (ht_ret ?_)
        obtain rfl := Option.some.inj h
        exact pt_ret hio rfl (.tmp _ _ .nil) rfl rfl
       ·intro u33 h hl34 hr35
        obtain ⟨v25, hv25, h⟩ := bind_some h
        obtain ⟨v26, hv26, h⟩ := bind_some h
        obtain ⟨v27, hv27, h⟩ := bind_some h
        obtain ⟨v28, hv28, h⟩ := bind_some h
        obtain ⟨v29, hv29, h⟩ := bind_some h
        obtain ⟨v30, hv30, h⟩ := bind_some h
        refine cond_some h (fun hg14_11 h => ?_) (fun hg14_11 h => ?_)
        ·obtain ⟨v31, hv31, h⟩ := bind_some h
         refine ht_anyR (by kernel_rfl) hn (El := (_ :: _ :: _ :: _ :: (61, .fl .ro 1 (List.map (Value.int .i64) v13.1)) :: (62, .v (.int .i64 v6)) :: (63, .fl .ro 1 (List.map (Value.int .i64) v25)) :: (64, .fl (.own 3) 1 (List.map (Value.int .i64) v26)) :: (65, .fl .ro 1 (List.map (Value.int .i64) v13.1)) :: (66, .v (.int .i64 v6)) :: (67, .v (.int .i64 v27)) :: (68, .fl .ro 1 (List.map (Value.int .i64) v28)) :: (69, .fl (.own 3) 1 (List.map (Value.int .i64) v29)) :: (64, .any) :: (70, .fl (.own 3) 1 (List.map (Value.int .i64) v12.1)) :: (71, .v (.bool v30)) :: (72, .v (.bool true)) :: (73, .v (.bool v31)) :: (74, .v (.bool v31)) :: (4, .v (.bool v31)) :: [])) (init := [0, 1, 2, 3]) (fin := [19]) (sps := (zq [2] 4 61 :: zq [0] 5 62 :: zq [4,5] 6 63 :: zq [6] 7 64 :: zq [2] 8 65 :: zq [0] 9 66 :: zq [9] 10 67 :: zq [8,10] 11 68 :: ⟨[11], [7], [13, 12], [(.slot 69)]⟩ :: ⟨[], [1], [14], [(.slot 70)]⟩ :: zq [12,14] 15 71 :: zq [15] 16 72 :: zq [16] 17 73 :: zq [16,17] 18 74 :: zq [18] 19 4 :: [])) (es' := [(4, .v (.bool v31))]) (by kernel_rfl) rfl rfl ⟨z1 rfl,z1 rfl,zp rfl (op_sl _ _ _ 0 v6 _ underlying22 sz3 rfl rfl rfl ⟨_, rfl⟩ hv25),zp rfl (op_call _ _ 11 _ _ rfl call11 rfl (ok_wherrykeep_TwinInts v25 _ hv26) rfl rfl),z1 rfl,z1 rfl,zp rfl (oB rfl (ibind (f := Value.int .i64) (Option.some.inj hv27))),zp rfl (op_sl _ _ _ v27 (v13.1.length : Int) _ underlying22 sz3 rfl rfl ⟨_, rfl⟩ rfl hv28),zp rfl (op_app _ _ _ _ _ el22 rfl rfl (map_len _) (map_len _) hv29 ((List.map_append).symm.trans (congrArg (List.map _) (app_eq hv29)))),zp rfl (op_move_take _ _ _ _ rfl),zp rfl (op_call _ _ 16 _ _ rfl call16 rfl (ok_wherrykeep_Ints v29 v12.1 _ hv30) rfl rfl),z8 hg14_11 rfl,zr' rfl (op_call _ _ 17 _ _ rfl call17 rfl (ok_wherrylaw03_wakes  _ hv31) rfl rfl),z3 true rfl,z2 rfl,zz⟩ ?_
         exact hl34 _ (Option.some.inj h).symm
        ·refine ht_anyR (by kernel_rfl) hn (El := (_ :: _ :: _ :: _ :: (61, .fl .ro 1 (List.map (Value.int .i64) v13.1)) :: (62, .v (.int .i64 v6)) :: (63, .fl .ro 1 (List.map (Value.int .i64) v25)) :: (64, .fl (.own 3) 1 (List.map (Value.int .i64) v26)) :: (65, .fl .ro 1 (List.map (Value.int .i64) v13.1)) :: (66, .v (.int .i64 v6)) :: (67, .v (.int .i64 v27)) :: (68, .fl .ro 1 (List.map (Value.int .i64) v28)) :: (69, .fl (.own 3) 1 (List.map (Value.int .i64) v29)) :: (64, .any) :: (70, .fl (.own 3) 1 (List.map (Value.int .i64) v12.1)) :: (71, .v (.bool v30)) :: (72, .v (.bool false)) :: (73, .v undef) :: (74, .v (.bool false)) :: (4, .v (.bool false)) :: [])) (init := [0, 1, 2, 3]) (fin := [19]) (sps := (zq [2] 4 61 :: zq [0] 5 62 :: zq [4,5] 6 63 :: zq [6] 7 64 :: zq [2] 8 65 :: zq [0] 9 66 :: zq [9] 10 67 :: zq [8,10] 11 68 :: ⟨[11], [7], [13, 12], [(.slot 69)]⟩ :: ⟨[], [1], [14], [(.slot 70)]⟩ :: zq [12,14] 15 71 :: zq [15] 16 72 :: zq [16] 17 73 :: zq [16] 18 74 :: zq [18] 19 4 :: [])) (es' := [(4, .v (.bool false))]) (by kernel_rfl) rfl rfl ⟨z1 rfl,z1 rfl,zp rfl (op_sl _ _ _ 0 v6 _ underlying22 sz3 rfl rfl rfl ⟨_, rfl⟩ hv25),zp rfl (op_call _ _ 11 _ _ rfl call11 rfl (ok_wherrykeep_TwinInts v25 _ hv26) rfl rfl),z1 rfl,z1 rfl,zp rfl (oB rfl (ibind (f := Value.int .i64) (Option.some.inj hv27))),zp rfl (op_sl _ _ _ v27 (v13.1.length : Int) _ underlying22 sz3 rfl rfl ⟨_, rfl⟩ rfl hv28),zp rfl (op_app _ _ _ _ _ el22 rfl rfl (map_len _) (map_len _) hv29 ((List.map_append).symm.trans (congrArg (List.map _) (app_eq hv29)))),zp rfl (op_move_take _ _ _ _ rfl),zp rfl (op_call _ _ 16 _ _ rfl call16 rfl (ok_wherrykeep_Ints v29 v12.1 _ hv30) rfl rfl),z8 hg14_11 rfl,zt rfl,z3 false rfl,z2 rfl,zz⟩ ?_
         exact hl34 _ (Option.some.inj h).symm
     ·intro u21 h hl22 hr23
      obtain ⟨v17, hv17, h⟩ := bind_some h
      refine cond_some h (fun hg12_6 h => ?_) (fun hg12_6 h => ?_)
      ·refine zg hn (_::_::_::_::(48,.same (.slot 8))::(49,vi (v13.1.length : Int))::(50,.same (.slot 6))::(51,vi (v12.1.length : Int))::(52,vi v17)::(53,vb ((v13.1.length : Int) != v17))::(54,vb true)::(55,.v undef)::(56,.v undef)::(57,.v undef)::(58,.v undef)::(59,.v undef)::(60,vb true)::[]) [0,1,2,3] [0,1,2,16] [zq [2] 4 48,zq [4,2] 5 49,zq [1] 6 50,zq [6,1] 7 51,zq [7] 8 52,zq [5,8] 9 53,zq [9] 10 54,zq [10] 11 55,zq [10] 12 56,zq [10] 13 57,zq [10] 14 58,zq [10] 15 59,zq [10] 16 60] [(_,_),(_,_),(_,_),(_,_)] rfl ⟨z1 rfl,zp rfl (op_len_fl _ _ _ underlying22 rfl (by decide) (map_len _)),z1 rfl,zp rfl (op_len_fl _ _ _ underlying22 rfl (by decide) (map_len _)),zp rfl (oB rfl (ibind (f := Value.int .i64) (Option.some.inj hv17))),z4 rfl rfl,z8 hg12_6 rfl,zf rfl,zf rfl,zf rfl,zf rfl,zf rfl,z3 true rfl,zz⟩ ?_
       exact hl22 _ (Option.some.inj h).symm
      ·obtain ⟨v18, hv18, h⟩ := bind_some h
       obtain ⟨v19, hv19, h⟩ := bind_some h
       refine zg hn (_::_::_::_::(48,.same (.slot 8))::(49,vi (v13.1.length : Int))::(50,.same (.slot 6))::(51,vi (v12.1.length : Int))::(52,vi v17)::(53,vb ((v13.1.length : Int) != v17))::(54,vb false)::(55,.same (.slot 8))::(56,vi v6)::(57,.eref (.slot 8) (v18 * 1))::(58,vi v19)::(59,vb (v19 != 0))::(60,vb (v19 != 0))::[]) [0,1,2,3] [0,1,2,16] [zq [2] 4 48,zq [4,2] 5 49,zq [1] 6 50,zq [6,1] 7 51,zq [7] 8 52,zq [5,8] 9 53,zq [9] 10 54,zq [10,2] 11 55,zq [10,0] 12 56,zq [10,11,2,12] 13 57,zq [10,13,2] 14 58,zq [10,14] 15 59,zq [10,15] 16 60] [(_,_),(_,_),(_,_),(_,_)] rfl ⟨z1 rfl,zp rfl (op_len_fl _ _ _ underlying22 rfl (by decide) (map_len _)),z1 rfl,zp rfl (op_len_fl _ _ _ underlying22 rfl (by decide) (map_len _)),zp rfl (oB rfl (ibind (f := Value.int .i64) (Option.some.inj hv17))),z4 rfl rfl,z8 hg12_6 rfl,zr' rfl (oM rfl),zr' rfl (oM rfl),zr' rfl (op_ix _ _ _ _ _ _ _ _ underlying22 sz3 (by decide) rfl rfl rfl (ix_ok hv18).1 (map_lt (ix_ok hv18).2) rfl),zr' rfl (op_load_e _ _ _ _ _ _ underlying3 rfl rfl rfl (map_get hv19)),zr' rfl (oB rfl rfl),z3 false rfl,zz⟩ ?_
       exact hl22 _ (Option.some.inj h).symm

end Go.Proofs.Ytohhijlgepnbeaa
