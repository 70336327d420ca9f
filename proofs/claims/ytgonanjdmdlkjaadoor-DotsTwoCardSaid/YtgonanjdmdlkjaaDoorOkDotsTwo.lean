/-
  The model's runs are what is told in Lean.
-/
import Derived.Test.YtgonanjdmdlkjaaDoorProg
import Derived.KernelRfl
import Derived.Test.YtgonanjdmdlkjaaDoorShelf
import Derived.Test.YtgonanjdmdlkjaaDoorIdx
import Derived.Test.YtgonanjdmdlkjaaDoorOkc1
set_option linter.unusedVariables false
set_option linter.unusedSimpArgs false
namespace Go.Proofs.YtgonanjdmdlkjaaDoor
open Go.Abs Go.Abs.Sh

set_option maxHeartbeats 1000000 in
theorem ok_wherrylaw14_DotsTwo (mx : Int) (a : (List Int)) (b : (List Int)) (r : Bool) (h : Sh.wherrylaw14_DotsTwo a b = some r) : FnG Tryd.prog (GL mx) 9 [.fl .shr 1 (List.map (Value.int .u8) a), .fl .shr 1 (List.map (Value.int .u8) b)] (.v (.bool r)) := by
  unfold Sh.wherrylaw14_DotsTwo at h
  refine fn_okG Tryd.func9 rfl (zl rfl) rfl rfl fun g0 hn hio => ?_
  refine ht_seq ?_
  refine zh hn [_, _, _, (4, .v (.bool false))] [0,1,2] [0,1,2] [zq [] 3 4] [(_,_),(_,_),(_,_)] (by kernel_rfl) rfl rfl ⟨za rfl rfl rfl,trivial⟩ ?_
  refine pt_then ?_
  refine ht_seq ?_
  refine ht_seq ?_
  refine ht_joinS h (fun (s1 : Bool) => [(0, .fl .shr 1 (List.map (Value.int .u8) a)), (1, .fl .shr 1 (List.map (Value.int .u8) b)), (94, .glob (GL mx)), (23, .v (.bool s1))]) ?_ ?_
  ·rintro s1 h
   refine pt_then ?_
   refine ht_cond _ rfl (fun hb5 => ?_) (fun hb5 => ?_)
   ·have h := cond_t hb5 h
    refine ht_seq ?_
    refine zh hn [_, _, _, _, (4, .v (.bool true))] [0,1,2,3] [2,4] [zq [] 4 4] [(_,_),(_,_)] (by kernel_rfl) rfl rfl ⟨za rfl rfl rfl,trivial⟩ ?_
    refine pt_then ?_
    refine ht_ret ?_
    refine pt_pick [1] (by kernel_rfl) (es' := [(_, _)]) rfl ?_
    refine pt_r_then ?_
    obtain rfl := Option.some.inj h
    exact pt_ret hio rfl (.tmp _ _ .nil) rfl rfl
   ·have h := cond_f hb5 h
    refine ht_skip ?_
    refine pt_then ?_
    refine ht_seq ?_
    obtain ⟨v6, hv6, h⟩ := bind_some h
    refine zh hn [_, _, _, _, (25, .fl .shr 1 (List.map (Value.int .u8) a)), (26, .tup [.fl (.own 5) 1 (List.map (Value.int .u8) v6.1), .v (.int .i64 v6.2)]), (24, .tup [.fl (.own 5) 1 (List.map (Value.int .u8) v6.1), .v (.int .i64 v6.2)]), (27, .fl (.own 5) 1 (List.map (Value.int .u8) v6.1)), (24, .tup [.any, .v (.int .i64 v6.2)]), (28, .v (.int .i64 v6.2)), (5, .fl (.own 5) 1 (List.map (Value.int .u8) v6.1)), (6, .v (.int .i64 v6.2))] [0,1,2,3] [0,1,2,10,11] [zq [0] 4 25, zq [4,2] 5 26, ⟨[], [5], [6], [(.slot 24)]⟩, ⟨[], [6], [8, 7], [(.slot 27)]⟩, zq [8] 9 28, ⟨[], [7], [10], [(.slot 5)]⟩, zq [9] 11 6] [(_,_),(_,_),(_,_),(_,_),(_,_)] (by kernel_rfl) rfl rfl ⟨zm rfl rfl rfl,zp rfl (op_callG _ _ 94 11 _ _ rfl Tryd.call11 rfl rfl (fun _ h => h) (ok_dots_Stuff mx a _ hv6) rfl rfl),zp rfl (op_move_take _ _ _ _ rfl),zp rfl (op_extract_take _ _ _ _ _ rfl (zl rfl) rfl rfl (by decide) rfl),zp rfl (op_extract _ _ _ _ _ rfl rfl (zl rfl) rfl rfl),zp rfl (op_assign_take _ _ _ _ rfl),za rfl rfl rfl,trivial⟩ ?_
    refine pt_then ?_
    refine ht_seq ?_
    obtain ⟨v7, hv7, h⟩ := bind_some h
    refine zh hn [_, _, _, _, _, (30, .fl .shr 1 (List.map (Value.int .u8) b)), (31, .tup [.fl (.own 5) 1 (List.map (Value.int .u8) v7.1), .v (.int .i64 v7.2)]), (29, .tup [.fl (.own 5) 1 (List.map (Value.int .u8) v7.1), .v (.int .i64 v7.2)]), (32, .fl (.own 5) 1 (List.map (Value.int .u8) v7.1)), (29, .tup [.any, .v (.int .i64 v7.2)]), (33, .v (.int .i64 v7.2)), (7, .fl (.own 5) 1 (List.map (Value.int .u8) v7.1)), (8, .v (.int .i64 v7.2))] [0,1,2,3,4] [0,1,2,3,4,11,12] [zq [1] 5 30, zq [5,2] 6 31, ⟨[], [6], [7], [(.slot 29)]⟩, ⟨[], [7], [9, 8], [(.slot 32)]⟩, zq [9] 10 33, ⟨[], [8], [11], [(.slot 7)]⟩, zq [10] 12 8] [(_,_),(_,_),(_,_),(_,_),(_,_),(_,_),(_,_)] (by kernel_rfl) rfl rfl ⟨zm rfl rfl rfl,zp rfl (op_callG _ _ 94 11 _ _ rfl Tryd.call11 rfl rfl (fun _ h => h) (ok_dots_Stuff mx b _ hv7) rfl rfl),zp rfl (op_move_take _ _ _ _ rfl),zp rfl (op_extract_take _ _ _ _ _ rfl (zl rfl) rfl rfl (by decide) rfl),zp rfl (op_extract _ _ _ _ _ rfl rfl (zl rfl) rfl rfl),zp rfl (op_assign_take _ _ _ _ rfl),za rfl rfl rfl,trivial⟩ ?_
    refine pt_then ?_
    refine ht_seq ?_
    refine ht_seq ?_
    refine ht_joinS h (fun (s8 : Bool) => [(0, .fl .shr 1 (List.map (Value.int .u8) a)), (1, .fl .shr 1 (List.map (Value.int .u8) b)), (94, .glob (GL mx)), (5, .fl (.own 5) 1 (List.map (Value.int .u8) v6.1)), (7, .fl (.own 5) 1 (List.map (Value.int .u8) v7.1)), (39, .v (.bool s8))]) ?_ ?_
    ·rintro s8 h
     refine pt_then ?_
     refine ht_cond _ rfl (fun hb12 => ?_) (fun hb12 => ?_)
     ·have h := cond_t hb12 h
      refine ht_seq ?_
      obtain ⟨v13, hv13, h⟩ := bind_some h
      refine zh hn [_, _, _, _, _, _, (40, .v (.bool v13)), (4, .v (.bool v13))] [0,1,2,3,4,5] [2,7] [zq [2] 6 40, zq [6] 7 4] [(_,_),(_,_)] (by kernel_rfl) rfl rfl ⟨zp rfl (op_callG _ _ 94 21 _ _ rfl Tryd.call21 rfl rfl (fun _ h => h) (ok_wherrylaw14_wakes mx  _ hv13) rfl rfl),za rfl rfl rfl,trivial⟩ ?_
      refine pt_then ?_
      refine ht_ret ?_
      refine pt_pick [1] (by kernel_rfl) (es' := [(_, _)]) rfl ?_
      refine pt_r_then ?_
      obtain rfl := Option.some.inj h
      exact pt_ret hio rfl (.tmp _ _ .nil) rfl rfl
     ·have h := cond_f hb12 h
      refine ht_skip ?_
      refine pt_then ?_
      refine ht_seq ?_
      obtain ⟨v14, hv14, h⟩ := bind_some h
      obtain ⟨v15, hv15, h⟩ := bind_some h
      refine zh hn [_, _, _, _, _, _, (41, .fl (.own 5) 1 (List.map (Value.int .u8) v6.1)), (42, .fl (.own 5) 1 (List.map (Value.int .u8) v14)), (43, .fl (.own 5) 1 (List.map (Value.int .u8) v7.1)), (44, .fl (.own 5) 1 (List.map (Value.int .u8) v15)), (42, .any), (9, .fl (.own 5) 1 (List.map (Value.int .u8) v15))] [0,1,2,3,4,5] [0,1,2,11] [⟨[], [3], [6], [(.slot 41)]⟩, zq [6] 7 42, ⟨[], [4], [8], [(.slot 43)]⟩, ⟨[8], [7], [10, 9], [(.slot 44)]⟩, ⟨[], [9], [11], [(.slot 9)]⟩] [(_,_),(_,_),(_,_),(_,_)] (by kernel_rfl) rfl rfl ⟨zp rfl (op_move_take _ _ _ _ rfl),zp rfl (op_call _ _ 10 _ _ rfl Tryd.call10 rfl (ok_wherrykeep_Twin v6.1 _ hv14) rfl rfl),zp rfl (op_move_take _ _ _ _ rfl),zp rfl (op_app _ _ _ _ _ el22 rfl rfl (map_len _) (map_len _) hv15 ((List.map_append).symm.trans (congrArg (List.map _) (app_eq hv15)))),zp rfl (op_assign_take _ _ _ _ rfl),trivial⟩ ?_
      refine pt_then ?_
      refine ht_seq ?_
      obtain ⟨v16, hv16, h⟩ := bind_some h
      refine zh hn [_, _, _, _, (46, .same (.slot 9)), (47, .tup [.fl (.own 5) 1 (List.map (Value.int .u8) v16.1), .v (.int .i64 v16.2.1), .v (.int .i64 v16.2.2)]), (45, .tup [.fl (.own 5) 1 (List.map (Value.int .u8) v16.1), .v (.int .i64 v16.2.1), .v (.int .i64 v16.2.2)]), (48, .fl (.own 5) 1 (List.map (Value.int .u8) v16.1)), (45, .tup [.any, .v (.int .i64 v16.2.1), .v (.int .i64 v16.2.2)]), (49, .v (.int .i64 v16.2.1)), (50, .v (.int .i64 v16.2.2)), (10, .fl (.own 5) 1 (List.map (Value.int .u8) v16.1)), (11, .v (.int .i64 v16.2.1)), (12, .v (.int .i64 v16.2.2))] [0,1,2,3] [0,1,2,3,11,12,13] [zq [3] 4 46, zq [4,3,2] 5 47, ⟨[], [5], [6], [(.slot 45)]⟩, ⟨[], [6], [8, 7], [(.slot 48)]⟩, zq [8] 9 49, zq [8] 10 50, ⟨[], [7], [11], [(.slot 10)]⟩, zq [9] 12 11, zq [10] 13 12] [(_,_),(_,_),(_,_),(_,_),(_,_),(_,_),(_,_)] (by kernel_rfl) rfl rfl ⟨zm rfl rfl rfl,zp rfl (op_callG _ _ 94 12 _ _ rfl Tryd.call12 rfl rfl (fun _ h => h) (ok_dots_Strip mx v15 _ hv16) rfl rfl),zp rfl (op_move_take _ _ _ _ rfl),zp rfl (op_extract_take _ _ _ _ _ rfl (zl rfl) rfl rfl (by decide) rfl),zp rfl (op_extract _ _ _ _ _ rfl rfl (zl rfl) rfl rfl),zp rfl (op_extract _ _ _ _ _ rfl rfl (zl rfl) rfl rfl),zp rfl (op_assign_take _ _ _ _ rfl),za rfl rfl rfl,za rfl rfl rfl,trivial⟩ ?_
      refine pt_then ?_
      refine ht_seq ?_
      refine ht_seq ?_
      refine ht_joinS h (fun (s17 : Bool) => [(0, .fl .shr 1 (List.map (Value.int .u8) a)), (1, .fl .shr 1 (List.map (Value.int .u8) b)), (94, .glob (GL mx)), (9, .fl (.own 5) 1 (List.map (Value.int .u8) v15)), (10, .fl (.own 5) 1 (List.map (Value.int .u8) v16.1)), (11, .v (.int .i64 v16.2.1)), (62, .v (.bool s17))]) ?_ ?_
      ·rintro s17 h
       refine pt_then ?_
       refine ht_cond _ rfl (fun hb21 => ?_) (fun hb21 => ?_)
       ·have h := cond_t hb21 h
        refine ht_seq ?_
        refine zh hn [_, _, _, _, _, _, _, (4, .v (.bool false))] [0,1,2,3,4,5,6] [2,7] [zq [] 7 4] [(_,_),(_,_)] (by kernel_rfl) rfl rfl ⟨za rfl rfl rfl,trivial⟩ ?_
        refine pt_then ?_
        refine ht_ret ?_
        refine pt_pick [1] (by kernel_rfl) (es' := [(_, _)]) rfl ?_
        refine pt_r_then ?_
        obtain rfl := Option.some.inj h
        exact pt_ret hio rfl (.tmp _ _ .nil) rfl rfl
       ·have h := cond_f hb21 h
        refine ht_skip ?_
        refine pt_then ?_
        refine ht_seq ?_
        refine ht_frz 3 hio (es' := [(0, .fl .shr 1 (List.map (Value.int .u8) a)), (1, .fl .shr 1 (List.map (Value.int .u8) b)), (94, .glob (GL mx)), (9, .fl .ro 1 (List.map (Value.int .u8) v15)), (10, .fl (.own 5) 1 (List.map (Value.int .u8) v16.1)), (11, .v (.int .i64 v16.2.1)), (62, .v (.bool s17))]) rfl ?_
        obtain ⟨v22, hv22, h⟩ := bind_some h
        obtain ⟨v23, hv23, h⟩ := bind_some h
        refine zh hn (_ :: _ :: _ :: _ :: _ :: _ :: _ :: (64, .fl .ro 1 (List.map (Value.int .u8) v15)) :: (65, .v (.int .i64 v16.2.1)) :: (66, .fl .ro 1 (List.map (Value.int .u8) v22)) :: (67, .tup [.fl (.own 5) 1 (List.map (Value.int .u8) v23.1), .v (.int .i64 v23.2.1), .v (.int .i64 v23.2.2)]) :: (63, .tup [.fl (.own 5) 1 (List.map (Value.int .u8) v23.1), .v (.int .i64 v23.2.1), .v (.int .i64 v23.2.2)]) :: (68, .fl (.own 5) 1 (List.map (Value.int .u8) v23.1)) :: (63, .tup [.any, .v (.int .i64 v23.2.1), .v (.int .i64 v23.2.2)]) :: (69, .v (.int .i64 v23.2.1)) :: (70, .v (.int .i64 v23.2.2)) :: (13, .fl (.own 5) 1 (List.map (Value.int .u8) v23.1)) :: (14, .v (.int .i64 v23.2.1)) :: (15, .v (.int .i64 v23.2.2)) :: []) [0,1,2,3,4,5,6] [0,1,2,3,4,5,16,17,18] [zq [3] 7 64, zq [5] 8 65, zq [7,8] 9 66, zq [9,2] 10 67, ⟨[], [10], [11], [(.slot 63)]⟩, ⟨[], [11], [13, 12], [(.slot 68)]⟩, zq [13] 14 69, zq [13] 15 70, ⟨[], [12], [16], [(.slot 13)]⟩, zq [14] 17 14, zq [15] 18 15] [(_,_),(_,_),(_,_),(_,_),(_,_),(_,_),(_,_),(_,_),(_,_)] (by kernel_rfl) rfl rfl ⟨zm rfl rfl rfl,zm rfl rfl rfl,zp rfl (op_sl _ _ _ v16.2.1 (v15.length : Int) _ Tryd.underlying22 sz5 rfl rfl ⟨_, rfl⟩ rfl hv22),zp rfl (op_callG _ _ 94 12 _ _ rfl Tryd.call12 rfl rfl (fun _ h => h) (ok_dots_Strip mx v22 _ hv23) rfl rfl),zp rfl (op_move_take _ _ _ _ rfl),zp rfl (op_extract_take _ _ _ _ _ rfl (zl rfl) rfl rfl (by decide) rfl),zp rfl (op_extract _ _ _ _ _ rfl rfl (zl rfl) rfl rfl),zp rfl (op_extract _ _ _ _ _ rfl rfl (zl rfl) rfl rfl),zp rfl (op_assign_take _ _ _ _ rfl),za rfl rfl rfl,za rfl rfl rfl,trivial⟩ ?_
        refine pt_then ?_
        refine ht_seq ?_
        refine ht_joinS h (fun (s28 : Bool) => [(94, .glob (GL mx)), (4, .v (.bool s28))]) ?_ ?_
        ·rintro s28 h
         refine pt_then ?_
         refine ht_ret ?_
         refine pt_pick [1] (by kernel_rfl) (es' := [(_, _)]) rfl ?_
         obtain rfl := Option.some.inj h
         exact pt_ret hio rfl (.tmp _ _ .nil) rfl rfl
        ·intro u29 h hl30 hr31
         refine cond_some h (fun hg12_2 h => ?_) (fun hg12_2 h => ?_)
         ·obtain ⟨v24, hv24, h⟩ := bind_some h
          refine cond_some h (fun hg12_10 h => ?_) (fun hg12_10 h => ?_)
          ·obtain ⟨v25, hv25, h⟩ := bind_some h
           refine cond_some h (fun hg12_15 h => ?_) (fun hg12_15 h => ?_)
           ·obtain ⟨v26, hv26, h⟩ := bind_some h
            refine cond_some h (fun hg12_20 h => ?_) (fun hg12_20 h => ?_)
            ·obtain ⟨v27, hv27, h⟩ := bind_some h
             refine zh hn (_ :: _ :: _ :: _ :: _ :: _ :: _ :: _ :: _ :: (71, .v (.int .i64 v23.2.2)) :: (72, .v (.bool (v23.2.2 == 0))) :: (73, .v (.bool true)) :: (74, .v (.int .i64 v16.2.1)) :: (75, .v (.int .i64 v23.2.1)) :: (76, .v (.int .i64 v24)) :: (77, .fl .ro 1 (List.map (Value.int .u8) v15)) :: (78, .v (.int .i64 (v15.length : Int))) :: (79, .v (.bool ((v24 == (v15.length : Int))))) :: (80, .v (.bool ((v24 == (v15.length : Int))))) :: (81, .v (.bool true)) :: (82, .fl (.own 5) 1 (List.map (Value.int .u8) v16.1)) :: (83, .fl .shr 1 (List.map (Value.int .u8) a)) :: (84, .v (.bool v25)) :: (85, .v (.bool v25)) :: (86, .v (.bool true)) :: (87, .fl (.own 5) 1 (List.map (Value.int .u8) v23.1)) :: (88, .fl .shr 1 (List.map (Value.int .u8) b)) :: (89, .v (.bool v26)) :: (90, .v (.bool v26)) :: (91, .v (.bool true)) :: (92, .v (.bool v27)) :: (93, .v (.bool v27)) :: (4, .v (.bool v27)) :: []) [0,1,2,3,4,5,6,7,8] [2,32] (zq [8] 9 71 :: zq [9] 10 72 :: zq [10] 11 73 :: zq [11,5] 12 74 :: zq [11,7] 13 75 :: zq [11,12,13] 14 76 :: zq [11,3] 15 77 :: zq [11,15] 16 78 :: zq [11,14,16] 17 79 :: zq [11,17] 18 80 :: zq [18] 19 81 :: ⟨[19], [4], [20], [(.slot 82)]⟩ :: zq [19,0] 21 83 :: zq [19,20,21] 22 84 :: zq [19,22] 23 85 :: zq [23] 24 86 :: ⟨[24], [6], [25], [(.slot 87)]⟩ :: zq [24,1] 26 88 :: zq [24,25,26] 27 89 :: zq [24,27] 28 90 :: zq [28] 29 91 :: zq [29,2] 30 92 :: zq [29,30] 31 93 :: zq [31] 32 4 :: []) [(_,_),(_,_)] (by kernel_rfl) rfl rfl ⟨zm rfl rfl rfl,zo rfl rfl rfl rfl,zm rfl (zb hg12_2) rfl,zr 2 rfl rfl rfl (op_move _ _ _ _ rfl rfl),zr 2 rfl rfl rfl (op_move _ _ _ _ rfl rfl),zr 2 rfl rfl rfl (op_bin _ _ _ _ _ rfl rfl (ibind (f := Value.int .i64) (Option.some.inj hv24))),zr 2 rfl rfl rfl (op_move _ _ _ _ rfl rfl),zr 2 rfl rfl rfl (op_len_fl _ _ _ Tryd.underlying22 rfl (by decide) (map_len _)),zr 2 rfl rfl rfl (op_bin _ _ _ _ _ rfl rfl rfl),zk true rfl rfl rfl,zm rfl (zb hg12_10) rfl,zr 10 rfl rfl rfl (op_move_take _ _ _ _ rfl),zr 10 rfl rfl rfl (op_move _ _ _ _ rfl rfl),zr 10 rfl rfl rfl (op_call _ _ 18 _ _ rfl Tryd.call18 rfl (ok_wherrykeep_Bytes v16.1 a _ hv25) rfl rfl),zk true rfl rfl rfl,zm rfl (zb hg12_15) rfl,zr 15 rfl rfl rfl (op_move_take _ _ _ _ rfl),zr 15 rfl rfl rfl (op_move _ _ _ _ rfl rfl),zr 15 rfl rfl rfl (op_call _ _ 18 _ _ rfl Tryd.call18 rfl (ok_wherrykeep_Bytes v23.1 b _ hv26) rfl rfl),zk true rfl rfl rfl,zm rfl (zb hg12_20) rfl,zr 20 rfl rfl rfl (op_callG _ _ 94 21 _ _ rfl Tryd.call21 rfl rfl (fun _ h => h) (ok_wherrylaw14_wakes mx  _ hv27) rfl rfl),zk true rfl rfl rfl,za rfl rfl rfl,trivial⟩ ?_
             exact hl30 _ (Option.some.inj h).symm
            ·refine zh hn (_ :: _ :: _ :: _ :: _ :: _ :: _ :: _ :: _ :: (71, .v (.int .i64 v23.2.2)) :: (72, .v (.bool (v23.2.2 == 0))) :: (73, .v (.bool true)) :: (74, .v (.int .i64 v16.2.1)) :: (75, .v (.int .i64 v23.2.1)) :: (76, .v (.int .i64 v24)) :: (77, .fl .ro 1 (List.map (Value.int .u8) v15)) :: (78, .v (.int .i64 (v15.length : Int))) :: (79, .v (.bool ((v24 == (v15.length : Int))))) :: (80, .v (.bool ((v24 == (v15.length : Int))))) :: (81, .v (.bool true)) :: (82, .fl (.own 5) 1 (List.map (Value.int .u8) v16.1)) :: (83, .fl .shr 1 (List.map (Value.int .u8) a)) :: (84, .v (.bool v25)) :: (85, .v (.bool v25)) :: (86, .v (.bool true)) :: (87, .fl (.own 5) 1 (List.map (Value.int .u8) v23.1)) :: (88, .fl .shr 1 (List.map (Value.int .u8) b)) :: (89, .v (.bool v26)) :: (90, .v (.bool v26)) :: (91, .v (.bool false)) :: (92, .v undef) :: (93, .v (.bool false)) :: (4, .v (.bool false)) :: []) [0,1,2,3,4,5,6,7,8] [2,32] (zq [8] 9 71 :: zq [9] 10 72 :: zq [10] 11 73 :: zq [11,5] 12 74 :: zq [11,7] 13 75 :: zq [11,12,13] 14 76 :: zq [11,3] 15 77 :: zq [11,15] 16 78 :: zq [11,14,16] 17 79 :: zq [11,17] 18 80 :: zq [18] 19 81 :: ⟨[19], [4], [20], [(.slot 82)]⟩ :: zq [19,0] 21 83 :: zq [19,20,21] 22 84 :: zq [19,22] 23 85 :: zq [23] 24 86 :: ⟨[24], [6], [25], [(.slot 87)]⟩ :: zq [24,1] 26 88 :: zq [24,25,26] 27 89 :: zq [24,27] 28 90 :: zq [28] 29 91 :: zq [29] 30 92 :: zq [29] 31 93 :: zq [31] 32 4 :: []) [(_,_),(_,_)] (by kernel_rfl) rfl rfl ⟨zm rfl rfl rfl,zo rfl rfl rfl rfl,zm rfl (zb hg12_2) rfl,zr 2 rfl rfl rfl (op_move _ _ _ _ rfl rfl),zr 2 rfl rfl rfl (op_move _ _ _ _ rfl rfl),zr 2 rfl rfl rfl (op_bin _ _ _ _ _ rfl rfl (ibind (f := Value.int .i64) (Option.some.inj hv24))),zr 2 rfl rfl rfl (op_move _ _ _ _ rfl rfl),zr 2 rfl rfl rfl (op_len_fl _ _ _ Tryd.underlying22 rfl (by decide) (map_len _)),zr 2 rfl rfl rfl (op_bin _ _ _ _ _ rfl rfl rfl),zk true rfl rfl rfl,zm rfl (zb hg12_10) rfl,zr 10 rfl rfl rfl (op_move_take _ _ _ _ rfl),zr 10 rfl rfl rfl (op_move _ _ _ _ rfl rfl),zr 10 rfl rfl rfl (op_call _ _ 18 _ _ rfl Tryd.call18 rfl (ok_wherrykeep_Bytes v16.1 a _ hv25) rfl rfl),zk true rfl rfl rfl,zm rfl (zb hg12_15) rfl,zr 15 rfl rfl rfl (op_move_take _ _ _ _ rfl),zr 15 rfl rfl rfl (op_move _ _ _ _ rfl rfl),zr 15 rfl rfl rfl (op_call _ _ 18 _ _ rfl Tryd.call18 rfl (ok_wherrykeep_Bytes v23.1 b _ hv26) rfl rfl),zk true rfl rfl rfl,zm rfl (zb hg12_20) rfl,zs 20 true rfl rfl rfl rfl,zk false rfl rfl rfl,za rfl rfl rfl,trivial⟩ ?_
             exact hl30 _ (Option.some.inj h).symm
           ·refine zh hn (_ :: _ :: _ :: _ :: _ :: _ :: _ :: _ :: _ :: (71, .v (.int .i64 v23.2.2)) :: (72, .v (.bool (v23.2.2 == 0))) :: (73, .v (.bool true)) :: (74, .v (.int .i64 v16.2.1)) :: (75, .v (.int .i64 v23.2.1)) :: (76, .v (.int .i64 v24)) :: (77, .fl .ro 1 (List.map (Value.int .u8) v15)) :: (78, .v (.int .i64 (v15.length : Int))) :: (79, .v (.bool ((v24 == (v15.length : Int))))) :: (80, .v (.bool ((v24 == (v15.length : Int))))) :: (81, .v (.bool true)) :: (82, .fl (.own 5) 1 (List.map (Value.int .u8) v16.1)) :: (83, .fl .shr 1 (List.map (Value.int .u8) a)) :: (84, .v (.bool v25)) :: (85, .v (.bool v25)) :: (86, .v (.bool false)) :: (87, .v undef) :: (88, .v undef) :: (89, .v undef) :: (90, .v (.bool false)) :: (91, .v (.bool false)) :: (92, .v undef) :: (93, .v (.bool false)) :: (4, .v (.bool false)) :: []) [0,1,2,3,4,5,6,7,8] [2,32] (zq [8] 9 71 :: zq [9] 10 72 :: zq [10] 11 73 :: zq [11,5] 12 74 :: zq [11,7] 13 75 :: zq [11,12,13] 14 76 :: zq [11,3] 15 77 :: zq [11,15] 16 78 :: zq [11,14,16] 17 79 :: zq [11,17] 18 80 :: zq [18] 19 81 :: ⟨[19], [4], [20], [(.slot 82)]⟩ :: zq [19,0] 21 83 :: zq [19,20,21] 22 84 :: zq [19,22] 23 85 :: zq [23] 24 86 :: zq [24] 25 87 :: zq [24] 26 88 :: zq [24] 27 89 :: zq [24] 28 90 :: zq [28] 29 91 :: zq [29] 30 92 :: zq [29] 31 93 :: zq [31] 32 4 :: []) [(_,_),(_,_)] (by kernel_rfl) rfl rfl ⟨zm rfl rfl rfl,zo rfl rfl rfl rfl,zm rfl (zb hg12_2) rfl,zr 2 rfl rfl rfl (op_move _ _ _ _ rfl rfl),zr 2 rfl rfl rfl (op_move _ _ _ _ rfl rfl),zr 2 rfl rfl rfl (op_bin _ _ _ _ _ rfl rfl (ibind (f := Value.int .i64) (Option.some.inj hv24))),zr 2 rfl rfl rfl (op_move _ _ _ _ rfl rfl),zr 2 rfl rfl rfl (op_len_fl _ _ _ Tryd.underlying22 rfl (by decide) (map_len _)),zr 2 rfl rfl rfl (op_bin _ _ _ _ _ rfl rfl rfl),zk true rfl rfl rfl,zm rfl (zb hg12_10) rfl,zr 10 rfl rfl rfl (op_move_take _ _ _ _ rfl),zr 10 rfl rfl rfl (op_move _ _ _ _ rfl rfl),zr 10 rfl rfl rfl (op_call _ _ 18 _ _ rfl Tryd.call18 rfl (ok_wherrykeep_Bytes v16.1 a _ hv25) rfl rfl),zk true rfl rfl rfl,zm rfl (zb hg12_15) rfl,zs 15 true rfl rfl rfl rfl,zs 15 true rfl rfl rfl rfl,zs 15 true rfl rfl rfl rfl,zk false rfl rfl rfl,zm rfl rfl rfl,zs 20 true rfl rfl rfl rfl,zk false rfl rfl rfl,za rfl rfl rfl,trivial⟩ ?_
            exact hl30 _ (Option.some.inj h).symm
          ·refine zh hn (_ :: _ :: _ :: _ :: _ :: _ :: _ :: _ :: _ :: (71, .v (.int .i64 v23.2.2)) :: (72, .v (.bool (v23.2.2 == 0))) :: (73, .v (.bool true)) :: (74, .v (.int .i64 v16.2.1)) :: (75, .v (.int .i64 v23.2.1)) :: (76, .v (.int .i64 v24)) :: (77, .fl .ro 1 (List.map (Value.int .u8) v15)) :: (78, .v (.int .i64 (v15.length : Int))) :: (79, .v (.bool ((v24 == (v15.length : Int))))) :: (80, .v (.bool ((v24 == (v15.length : Int))))) :: (81, .v (.bool false)) :: (82, .v undef) :: (83, .v undef) :: (84, .v undef) :: (85, .v (.bool false)) :: (86, .v (.bool false)) :: (87, .v undef) :: (88, .v undef) :: (89, .v undef) :: (90, .v (.bool false)) :: (91, .v (.bool false)) :: (92, .v undef) :: (93, .v (.bool false)) :: (4, .v (.bool false)) :: []) [0,1,2,3,4,5,6,7,8] [2,32] (zq [8] 9 71 :: zq [9] 10 72 :: zq [10] 11 73 :: zq [11,5] 12 74 :: zq [11,7] 13 75 :: zq [11,12,13] 14 76 :: zq [11,3] 15 77 :: zq [11,15] 16 78 :: zq [11,14,16] 17 79 :: zq [11,17] 18 80 :: zq [18] 19 81 :: zq [19] 20 82 :: zq [19] 21 83 :: zq [19] 22 84 :: zq [19] 23 85 :: zq [23] 24 86 :: zq [24] 25 87 :: zq [24] 26 88 :: zq [24] 27 89 :: zq [24] 28 90 :: zq [28] 29 91 :: zq [29] 30 92 :: zq [29] 31 93 :: zq [31] 32 4 :: []) [(_,_),(_,_)] (by kernel_rfl) rfl rfl ⟨zm rfl rfl rfl,zo rfl rfl rfl rfl,zm rfl (zb hg12_2) rfl,zr 2 rfl rfl rfl (op_move _ _ _ _ rfl rfl),zr 2 rfl rfl rfl (op_move _ _ _ _ rfl rfl),zr 2 rfl rfl rfl (op_bin _ _ _ _ _ rfl rfl (ibind (f := Value.int .i64) (Option.some.inj hv24))),zr 2 rfl rfl rfl (op_move _ _ _ _ rfl rfl),zr 2 rfl rfl rfl (op_len_fl _ _ _ Tryd.underlying22 rfl (by decide) (map_len _)),zr 2 rfl rfl rfl (op_bin _ _ _ _ _ rfl rfl rfl),zk true rfl rfl rfl,zm rfl (zb hg12_10) rfl,zs 10 true rfl rfl rfl rfl,zs 10 true rfl rfl rfl rfl,zs 10 true rfl rfl rfl rfl,zk false rfl rfl rfl,zm rfl rfl rfl,zs 15 true rfl rfl rfl rfl,zs 15 true rfl rfl rfl rfl,zs 15 true rfl rfl rfl rfl,zk false rfl rfl rfl,zm rfl rfl rfl,zs 20 true rfl rfl rfl rfl,zk false rfl rfl rfl,za rfl rfl rfl,trivial⟩ ?_
           exact hl30 _ (Option.some.inj h).symm
         ·refine zh hn (_ :: _ :: _ :: _ :: _ :: _ :: _ :: _ :: _ :: (71, .v (.int .i64 v23.2.2)) :: (72, .v (.bool (v23.2.2 == 0))) :: (73, .v (.bool false)) :: (74, .v undef) :: (75, .v undef) :: (76, .v undef) :: (77, .v undef) :: (78, .v undef) :: (79, .v undef) :: (80, .v (.bool false)) :: (81, .v (.bool false)) :: (82, .v undef) :: (83, .v undef) :: (84, .v undef) :: (85, .v (.bool false)) :: (86, .v (.bool false)) :: (87, .v undef) :: (88, .v undef) :: (89, .v undef) :: (90, .v (.bool false)) :: (91, .v (.bool false)) :: (92, .v undef) :: (93, .v (.bool false)) :: (4, .v (.bool false)) :: []) [0,1,2,3,4,5,6,7,8] [2,32] (zq [8] 9 71 :: zq [9] 10 72 :: zq [10] 11 73 :: zq [11] 12 74 :: zq [11] 13 75 :: zq [11] 14 76 :: zq [11] 15 77 :: zq [11] 16 78 :: zq [11] 17 79 :: zq [11] 18 80 :: zq [18] 19 81 :: zq [19] 20 82 :: zq [19] 21 83 :: zq [19] 22 84 :: zq [19] 23 85 :: zq [23] 24 86 :: zq [24] 25 87 :: zq [24] 26 88 :: zq [24] 27 89 :: zq [24] 28 90 :: zq [28] 29 91 :: zq [29] 30 92 :: zq [29] 31 93 :: zq [31] 32 4 :: []) [(_,_),(_,_)] (by kernel_rfl) rfl rfl ⟨zm rfl rfl rfl,zo rfl rfl rfl rfl,zm rfl (zb hg12_2) rfl,zs 2 true rfl rfl rfl rfl,zs 2 true rfl rfl rfl rfl,zs 2 true rfl rfl rfl rfl,zs 2 true rfl rfl rfl rfl,zs 2 true rfl rfl rfl rfl,zs 2 true rfl rfl rfl rfl,zk false rfl rfl rfl,zm rfl rfl rfl,zs 10 true rfl rfl rfl rfl,zs 10 true rfl rfl rfl rfl,zs 10 true rfl rfl rfl rfl,zk false rfl rfl rfl,zm rfl rfl rfl,zs 15 true rfl rfl rfl rfl,zs 15 true rfl rfl rfl rfl,zs 15 true rfl rfl rfl rfl,zk false rfl rfl rfl,zm rfl rfl rfl,zs 20 true rfl rfl rfl rfl,zk false rfl rfl rfl,za rfl rfl rfl,trivial⟩ ?_
          exact hl30 _ (Option.some.inj h).symm
      ·intro u18 h hl19 hr20
       refine cond_some h (fun hg9_2 h => ?_) (fun hg9_2 h => ?_)
       ·refine zh hn (_ :: _ :: _ :: _ :: _ :: _ :: _ :: (51, .v (.int .i64 v16.2.2)) :: (52, .v (.bool (v16.2.2 != 0))) :: (53, .v (.bool true)) :: (54, .v undef) :: (55, .v undef) :: (56, .v (.bool true)) :: (57, .v (.bool true)) :: (58, .v undef) :: (59, .v undef) :: (60, .v undef) :: (61, .v undef) :: (62, .v (.bool true)) :: []) [0,1,2,3,4,5,6] [0,1,2,3,4,5,18] [zq [6] 7 51, zq [7] 8 52, zq [8] 9 53, zq [9] 10 54, zq [9] 11 55, zq [9] 12 56, zq [12] 13 57, zq [13] 14 58, zq [13] 15 59, zq [13] 16 60, zq [13] 17 61, zq [13] 18 62] [(_,_),(_,_),(_,_),(_,_),(_,_),(_,_),(_,_)] (by kernel_rfl) rfl rfl ⟨zm rfl rfl rfl,zo rfl rfl rfl rfl,zm rfl (zb hg9_2) rfl,zs 2 false rfl rfl rfl rfl,zs 2 false rfl rfl rfl rfl,zk true rfl rfl rfl,zm rfl rfl rfl,zs 6 false rfl rfl rfl rfl,zs 6 false rfl rfl rfl rfl,zs 6 false rfl rfl rfl rfl,zs 6 false rfl rfl rfl rfl,zk true rfl rfl rfl,trivial⟩ ?_
        exact hl19 _ (Option.some.inj h).symm
       ·refine cond_some h (fun hg9_6 h => ?_) (fun hg9_6 h => ?_)
        ·refine zh hn (_ :: _ :: _ :: _ :: _ :: _ :: _ :: (51, .v (.int .i64 v16.2.2)) :: (52, .v (.bool (v16.2.2 != 0))) :: (53, .v (.bool false)) :: (54, .v (.int .i64 v16.2.1)) :: (55, .v (.bool ((decide (v16.2.1 < 0))))) :: (56, .v (.bool ((decide (v16.2.1 < 0))))) :: (57, .v (.bool true)) :: (58, .v undef) :: (59, .v undef) :: (60, .v undef) :: (61, .v undef) :: (62, .v (.bool true)) :: []) [0,1,2,3,4,5,6] [0,1,2,3,4,5,18] [zq [6] 7 51, zq [7] 8 52, zq [8] 9 53, zq [9,5] 10 54, zq [9,10] 11 55, zq [9,11] 12 56, zq [12] 13 57, zq [13] 14 58, zq [13] 15 59, zq [13] 16 60, zq [13] 17 61, zq [13] 18 62] [(_,_),(_,_),(_,_),(_,_),(_,_),(_,_),(_,_)] (by kernel_rfl) rfl rfl ⟨zm rfl rfl rfl,zo rfl rfl rfl rfl,zm rfl (zb hg9_2) rfl,zr 2 rfl rfl rfl (op_move _ _ _ _ rfl rfl),zr 2 rfl rfl rfl (op_bin _ _ _ _ _ rfl rfl rfl),zk false rfl rfl rfl,zm rfl (zb hg9_6) rfl,zs 6 false rfl rfl rfl rfl,zs 6 false rfl rfl rfl rfl,zs 6 false rfl rfl rfl rfl,zs 6 false rfl rfl rfl rfl,zk true rfl rfl rfl,trivial⟩ ?_
         exact hl19 _ (Option.some.inj h).symm
        ·refine zh hn (_ :: _ :: _ :: _ :: _ :: _ :: _ :: (51, .v (.int .i64 v16.2.2)) :: (52, .v (.bool (v16.2.2 != 0))) :: (53, .v (.bool false)) :: (54, .v (.int .i64 v16.2.1)) :: (55, .v (.bool ((decide (v16.2.1 < 0))))) :: (56, .v (.bool ((decide (v16.2.1 < 0))))) :: (57, .v (.bool false)) :: (58, .v (.int .i64 v16.2.1)) :: (59, .same (.slot 9)) :: (60, .v (.int .i64 (v15.length : Int))) :: (61, .v (.bool ((decide ((v15.length : Int) < v16.2.1))))) :: (62, .v (.bool ((decide ((v15.length : Int) < v16.2.1))))) :: []) [0,1,2,3,4,5,6] [0,1,2,3,4,5,18] [zq [6] 7 51, zq [7] 8 52, zq [8] 9 53, zq [9,5] 10 54, zq [9,10] 11 55, zq [9,11] 12 56, zq [12] 13 57, zq [13,5] 14 58, zq [13,3] 15 59, zq [13,15,3] 16 60, zq [13,14,16] 17 61, zq [13,17] 18 62] [(_,_),(_,_),(_,_),(_,_),(_,_),(_,_),(_,_)] (by kernel_rfl) rfl rfl ⟨zm rfl rfl rfl,zo rfl rfl rfl rfl,zm rfl (zb hg9_2) rfl,zr 2 rfl rfl rfl (op_move _ _ _ _ rfl rfl),zr 2 rfl rfl rfl (op_bin _ _ _ _ _ rfl rfl rfl),zk false rfl rfl rfl,zm rfl (zb hg9_6) rfl,zr 6 rfl rfl rfl (op_move _ _ _ _ rfl rfl),zr 6 rfl rfl rfl (op_move _ _ _ _ rfl rfl),zr 6 rfl rfl rfl (op_len_fl _ _ _ Tryd.underlying22 rfl (by decide) (map_len _)),zr 6 rfl rfl rfl (op_bin _ _ _ _ _ rfl rfl rfl),zk false rfl rfl rfl,trivial⟩ ?_
         exact hl19 _ (Option.some.inj h).symm
    ·intro u9 h hl10 hr11
     refine cond_some h (fun hg5_2 h => ?_) (fun hg5_2 h => ?_)
     ·refine zh hn [_, _, _, _, _, _, _, (34, .v (.int .i64 v6.2)), (35, .v (.bool (v6.2 != 0))), (36, .v (.bool true)), (37, .v undef), (38, .v undef), (39, .v (.bool true))] [0,1,2,3,4,5,6] [0,1,2,3,5,12] [zq [4] 7 34, zq [7] 8 35, zq [8] 9 36, zq [9] 10 37, zq [9] 11 38, zq [9] 12 39] [(_,_),(_,_),(_,_),(_,_),(_,_),(_,_)] (by kernel_rfl) rfl rfl ⟨zm rfl rfl rfl,zo rfl rfl rfl rfl,zm rfl (zb hg5_2) rfl,zs 2 false rfl rfl rfl rfl,zs 2 false rfl rfl rfl rfl,zk true rfl rfl rfl,trivial⟩ ?_
      exact hl10 _ (Option.some.inj h).symm
     ·refine zh hn [_, _, _, _, _, _, _, (34, .v (.int .i64 v6.2)), (35, .v (.bool (v6.2 != 0))), (36, .v (.bool false)), (37, .v (.int .i64 v7.2)), (38, .v (.bool (v7.2 != 0))), (39, .v (.bool (v7.2 != 0)))] [0,1,2,3,4,5,6] [0,1,2,3,5,12] [zq [4] 7 34, zq [7] 8 35, zq [8] 9 36, zq [9,6] 10 37, zq [9,10] 11 38, zq [9,11] 12 39] [(_,_),(_,_),(_,_),(_,_),(_,_),(_,_)] (by kernel_rfl) rfl rfl ⟨zm rfl rfl rfl,zo rfl rfl rfl rfl,zm rfl (zb hg5_2) rfl,zr 2 rfl rfl rfl (op_move _ _ _ _ rfl rfl),zr 2 rfl rfl rfl (op_bin _ _ _ _ _ rfl rfl rfl),zk false rfl rfl rfl,trivial⟩ ?_
      exact hl10 _ (Option.some.inj h).symm
  ·intro u2 h hl3 hr4
   refine cond_some h (fun hg1_3 h => ?_) (fun hg1_3 h => ?_)
   ·refine zh hn [_, _, _, (16, .fl .shr 1 (List.map (Value.int .u8) a)), (17, .v (.int .i64 (a.length : Int))), (18, .v (.bool ((decide (2000 < (a.length : Int)))))), (19, .v (.bool true)), (20, .v undef), (21, .v undef), (22, .v undef), (23, .v (.bool true))] [0,1,2] [0,1,2,10] [zq [0] 3 16, zq [3] 4 17, zq [4] 5 18, zq [5] 6 19, zq [6] 7 20, zq [6] 8 21, zq [6] 9 22, zq [6] 10 23] [(_,_),(_,_),(_,_),(_,_)] (by kernel_rfl) rfl rfl ⟨zm rfl rfl rfl,zp rfl (op_len_fl _ _ _ Tryd.underlying22 rfl (by decide) (map_len _)),zo rfl rfl rfl rfl,zm rfl (zb hg1_3) rfl,zs 3 false rfl rfl rfl rfl,zs 3 false rfl rfl rfl rfl,zs 3 false rfl rfl rfl rfl,zk true rfl rfl rfl,trivial⟩ ?_
    exact hl3 _ (Option.some.inj h).symm
   ·refine zh hn [_, _, _, (16, .fl .shr 1 (List.map (Value.int .u8) a)), (17, .v (.int .i64 (a.length : Int))), (18, .v (.bool ((decide (2000 < (a.length : Int)))))), (19, .v (.bool false)), (20, .fl .shr 1 (List.map (Value.int .u8) b)), (21, .v (.int .i64 (b.length : Int))), (22, .v (.bool ((decide (2000 < (b.length : Int)))))), (23, .v (.bool ((decide (2000 < (b.length : Int))))))] [0,1,2] [0,1,2,10] [zq [0] 3 16, zq [3] 4 17, zq [4] 5 18, zq [5] 6 19, zq [6,1] 7 20, zq [6,7] 8 21, zq [6,8] 9 22, zq [6,9] 10 23] [(_,_),(_,_),(_,_),(_,_)] (by kernel_rfl) rfl rfl ⟨zm rfl rfl rfl,zp rfl (op_len_fl _ _ _ Tryd.underlying22 rfl (by decide) (map_len _)),zo rfl rfl rfl rfl,zm rfl (zb hg1_3) rfl,zr 3 rfl rfl rfl (op_move _ _ _ _ rfl rfl),zr 3 rfl rfl rfl (op_len_fl _ _ _ Tryd.underlying22 rfl (by decide) (map_len _)),zr 3 rfl rfl rfl (op_bin _ _ _ _ _ rfl rfl rfl),zk false rfl rfl rfl,trivial⟩ ?_
    exact hl3 _ (Option.some.inj h).symm

end Go.Proofs.YtgonanjdmdlkjaaDoor
