/-
  The model's runs are what is told in Lean.
-/
import Derived.Test.YtgonanjdmdlkjaaDoorProg
import Derived.KernelRfl
import Derived.Test.YtgonanjdmdlkjaaDoorShelf
import Derived.Test.YtgonanjdmdlkjaaDoorIdx
import Derived.Test.YtgonanjdmdlkjaaDoorOkc1
set_option linter.unusedVariables false
set_option linter.unusedSimpArgs false
namespace Go.Proofs.YtgonanjdmdlkjaaDoor
open Go.Abs Go.Abs.Sh

set_option maxHeartbeats 1000000 in
theorem ok_wherrylaw14_DotsBare (mx : Int) (a : (List Int)) (b : (List Int)) (how : Int) (r : Bool) (h : Sh.wherrylaw14_DotsBare a b how = some r) : FnG Tryd.prog (GL mx) 8 [.fl .shr 1 (List.map (Value.int .u8) a), .fl .shr 1 (List.map (Value.int .u8) b), .v (.int .i64 how)] (.v (.bool r)) := by
  unfold Sh.wherrylaw14_DotsBare at h
  refine fn_okG Tryd.func8 rfl (zl rfl) rfl rfl fun g0 hn hio => ?_
  refine ht_seq ?_
  refine zh hn [_, _, _, _, (6, .v (.bool false))] [0,1,2,3] [0,1,2,3] [zq [] 4 6] [(_,_),(_,_),(_,_),(_,_)] (by kernel_rfl) rfl rfl ⟨za rfl rfl rfl,trivial⟩ ?_
  refine pt_then ?_
  refine ht_seq ?_
  refine ht_seq ?_
  refine ht_joinS h (fun (s1 : Bool) => [(0, .fl .shr 1 (List.map (Value.int .u8) a)), (1, .fl .shr 1 (List.map (Value.int .u8) b)), (2, .v (.int .i64 how)), (119, .glob (GL mx)), (19, .v (.bool s1))]) ?_ ?_
  ·rintro s1 h
   refine pt_then ?_
   refine ht_cond _ rfl (fun hb5 => ?_) (fun hb5 => ?_)
   ·have h := cond_t hb5 h
    refine ht_seq ?_
    refine zh hn [_, _, _, _, _, (6, .v (.bool true))] [0,1,2,3,4] [3,5] [zq [] 5 6] [(_,_),(_,_)] (by kernel_rfl) rfl rfl ⟨za rfl rfl rfl,trivial⟩ ?_
    refine pt_then ?_
    refine ht_ret ?_
    refine pt_pick [1] (by kernel_rfl) (es' := [(_, _)]) rfl ?_
    refine pt_r_then ?_
    obtain rfl := Option.some.inj h
    exact pt_ret hio rfl (.tmp _ _ .nil) rfl rfl
   ·have h := cond_f hb5 h
    refine ht_skip ?_
    refine pt_then ?_
    refine ht_seq ?_
    refine ht_seq ?_
    refine zh hn [_, _, _, _, _, (7, .v (.int .i64 0))] [0,1,2,3,4] [0,1,2,3,5] [zq [] 5 7] [(_,_),(_,_),(_,_),(_,_),(_,_)] (by kernel_rfl) rfl rfl ⟨za rfl rfl rfl,trivial⟩ ?_
    refine pt_then ?_
    refine ht_loopS h (fun (s24 : Int) => [(0, .fl .shr 1 (List.map (Value.int .u8) a)), (1, .fl .shr 1 (List.map (Value.int .u8) b)), (2, .v (.int .i64 how)), (119, .glob (GL mx)), (7, .v (.int .i64 s24))]) (fun (() : Unit) => [(0, .fl .shr 1 (List.map (Value.int .u8) a)), (1, .fl .shr 1 (List.map (Value.int .u8) b)), (2, .v (.int .i64 how)), (119, .glob (GL mx))]) ?_ ?_
    ·rintro ⟨⟩ h
     refine pt_then ?_
     refine ht_seq ?_
     refine ht_seq ?_
     refine zh hn [_, _, _, _, (8, .v (.int .i64 0))] [0,1,2,3] [0,1,2,3,4] [zq [] 4 8] [(_,_),(_,_),(_,_),(_,_),(_,_)] (by kernel_rfl) rfl rfl ⟨za rfl rfl rfl,trivial⟩ ?_
     refine pt_then ?_
     refine ht_loopS h (fun (s61 : Int) => [(0, .fl .shr 1 (List.map (Value.int .u8) a)), (1, .fl .shr 1 (List.map (Value.int .u8) b)), (2, .v (.int .i64 how)), (119, .glob (GL mx)), (8, .v (.int .i64 s61))]) (fun (() : Unit) => [(0, .fl .shr 1 (List.map (Value.int .u8) a)), (1, .fl .shr 1 (List.map (Value.int .u8) b)), (2, .v (.int .i64 how)), (119, .glob (GL mx))]) ?_ ?_
     ·rintro ⟨⟩ h
      refine pt_then ?_
      refine ht_seq ?_
      obtain ⟨v80, hv80, h⟩ := bind_some h
      refine zh hn [_, _, _, _, (56, .fl .shr 1 (List.map (Value.int .u8) a)), (57, .fl (.own 5) 1 (List.map (Value.int .u8) v80)), (9, .fl (.own 5) 1 (List.map (Value.int .u8) v80))] [0,1,2,3] [1,2,3,6] [zq [0] 4 56, zq [4] 5 57, ⟨[], [5], [6], [(.slot 9)]⟩] [(_,_),(_,_),(_,_),(_,_)] (by kernel_rfl) rfl rfl ⟨zm rfl rfl rfl,zp rfl (op_call _ _ 10 _ _ rfl Tryd.call10 rfl (ok_wherrykeep_Twin a _ hv80) rfl rfl),zp rfl (op_assign_take _ _ _ _ rfl),trivial⟩ ?_
      refine pt_then ?_
      refine ht_seq ?_
      refine ht_joinS h (fun (s108 : (List Int)) => [(119, .glob (GL mx)), (9, .fl (.own 5) 1 (List.map (Value.int .u8) s108))]) ?_ ?_
      ·rintro s108 h
       refine pt_then ?_
       refine ht_seq ?_
       obtain ⟨v124, hv124, h⟩ := bind_some h
       refine zh hn [_, _, (100, .same (.slot 9)), (101, .tup [.fl (.own 5) 1 (List.map (Value.int .u8) v124.1), .v (.int .i64 v124.2)]), (99, .tup [.fl (.own 5) 1 (List.map (Value.int .u8) v124.1), .v (.int .i64 v124.2)]), (102, .fl (.own 5) 1 (List.map (Value.int .u8) v124.1)), (99, .tup [.any, .v (.int .i64 v124.2)]), (103, .v (.int .i64 v124.2)), (10, .fl (.own 5) 1 (List.map (Value.int .u8) v124.1)), (11, .v (.int .i64 v124.2))] [0,1] [0,1,8,9] [zq [1] 2 100, zq [2,1,0] 3 101, ⟨[], [3], [4], [(.slot 99)]⟩, ⟨[], [4], [6, 5], [(.slot 102)]⟩, zq [6] 7 103, ⟨[], [5], [8], [(.slot 10)]⟩, zq [7] 9 11] [(_,_),(_,_),(_,_),(_,_)] (by kernel_rfl) rfl rfl ⟨zm rfl rfl rfl,zp rfl (op_callG _ _ 119 11 _ _ rfl Tryd.call11 rfl rfl (fun _ h => h) (ok_dots_Stuff mx s108 _ hv124) rfl rfl),zp rfl (op_move_take _ _ _ _ rfl),zp rfl (op_extract_take _ _ _ _ _ rfl (zl rfl) rfl rfl (by decide) rfl),zp rfl (op_extract _ _ _ _ _ rfl rfl (zl rfl) rfl rfl),zp rfl (op_assign_take _ _ _ _ rfl),za rfl rfl rfl,trivial⟩ ?_
       refine pt_then ?_
       refine ht_seq ?_
       refine ht_joinS h (fun (s127 : Bool) => [(119, .glob (GL mx)), (6, .v (.bool s127))]) ?_ ?_
       ·rintro s127 h
        refine pt_then ?_
        refine ht_ret ?_
        refine pt_pick [1] (by kernel_rfl) (es' := [(_, _)]) rfl ?_
        obtain rfl := Option.some.inj h
        exact pt_ret hio rfl (.tmp _ _ .nil) rfl rfl
       ·intro u128 h hl129 hr130
        obtain ⟨v125, hv125, h⟩ := bind_some h
        refine cond_some h (fun hg25_3 h => ?_) (fun hg25_3 h => ?_)
        ·refine cond_some h (fun hg25_7 h => ?_) (fun hg25_7 h => ?_)
         ·refine cond_some h (fun hg25_12 h => ?_) (fun hg25_12 h => ?_)
          ·obtain ⟨v126, hv126, h⟩ := bind_some h
           refine zh hn (_ :: _ :: _ :: _ :: (104, .fl (.own 5) 1 (List.map (Value.int .u8) s108)) :: (105, .v (.int .i64 v125)) :: (106, .v (.bool (v125 == 5))) :: (107, .v (.bool true)) :: (108, .v (.int .i64 v124.2)) :: (109, .v (.bool (v124.2 == 5))) :: (110, .v (.bool (v124.2 == 5))) :: (111, .v (.bool true)) :: (112, .fl (.own 5) 1 (List.map (Value.int .u8) v124.1)) :: (113, .v (.int .i64 (v124.1.length : Int))) :: (114, .v (.bool (((v124.1.length : Int) == 0)))) :: (115, .v (.bool (((v124.1.length : Int) == 0)))) :: (116, .v (.bool true)) :: (117, .v (.bool v126)) :: (118, .v (.bool v126)) :: (6, .v (.bool v126)) :: []) [0,1,2,3] [0,19] (⟨[], [1], [4], [(.slot 104)]⟩ :: zq [4,0] 5 105 :: zq [5] 6 106 :: zq [6] 7 107 :: zq [7,3] 8 108 :: zq [7,8] 9 109 :: zq [7,9] 10 110 :: zq [10] 11 111 :: ⟨[11], [2], [12], [(.slot 112)]⟩ :: zq [11,12] 13 113 :: zq [11,13] 14 114 :: zq [11,14] 15 115 :: zq [15] 16 116 :: zq [16,0] 17 117 :: zq [16,17] 18 118 :: zq [18] 19 6 :: []) [(_,_),(_,_)] (by kernel_rfl) rfl rfl ⟨zp rfl (op_move_take _ _ _ _ rfl),zp rfl (op_callG _ _ 119 17 _ _ rfl Tryd.call17 rfl rfl (fun _ h => h) (ok_dots_Check mx s108 _ hv125) rfl rfl),zo rfl rfl rfl rfl,zm rfl (zb hg25_3) rfl,zr 3 rfl rfl rfl (op_move _ _ _ _ rfl rfl),zr 3 rfl rfl rfl (op_bin _ _ _ _ _ rfl rfl rfl),zk true rfl rfl rfl,zm rfl (zb hg25_7) rfl,zr 7 rfl rfl rfl (op_move_take _ _ _ _ rfl),zr 7 rfl rfl rfl (op_len_fl _ _ _ Tryd.underlying22 rfl (by decide) (map_len _)),zr 7 rfl rfl rfl (op_bin _ _ _ _ _ rfl rfl rfl),zk true rfl rfl rfl,zm rfl (zb hg25_12) rfl,zr 12 rfl rfl rfl (op_callG _ _ 119 21 _ _ rfl Tryd.call21 rfl rfl (fun _ h => h) (ok_wherrylaw14_wakes mx  _ hv126) rfl rfl),zk true rfl rfl rfl,za rfl rfl rfl,trivial⟩ ?_
           exact hl129 _ (Option.some.inj h).symm
          ·refine zh hn (_ :: _ :: _ :: _ :: (104, .fl (.own 5) 1 (List.map (Value.int .u8) s108)) :: (105, .v (.int .i64 v125)) :: (106, .v (.bool (v125 == 5))) :: (107, .v (.bool true)) :: (108, .v (.int .i64 v124.2)) :: (109, .v (.bool (v124.2 == 5))) :: (110, .v (.bool (v124.2 == 5))) :: (111, .v (.bool true)) :: (112, .fl (.own 5) 1 (List.map (Value.int .u8) v124.1)) :: (113, .v (.int .i64 (v124.1.length : Int))) :: (114, .v (.bool (((v124.1.length : Int) == 0)))) :: (115, .v (.bool (((v124.1.length : Int) == 0)))) :: (116, .v (.bool false)) :: (117, .v undef) :: (118, .v (.bool false)) :: (6, .v (.bool false)) :: []) [0,1,2,3] [0,19] (⟨[], [1], [4], [(.slot 104)]⟩ :: zq [4,0] 5 105 :: zq [5] 6 106 :: zq [6] 7 107 :: zq [7,3] 8 108 :: zq [7,8] 9 109 :: zq [7,9] 10 110 :: zq [10] 11 111 :: ⟨[11], [2], [12], [(.slot 112)]⟩ :: zq [11,12] 13 113 :: zq [11,13] 14 114 :: zq [11,14] 15 115 :: zq [15] 16 116 :: zq [16] 17 117 :: zq [16] 18 118 :: zq [18] 19 6 :: []) [(_,_),(_,_)] (by kernel_rfl) rfl rfl ⟨zp rfl (op_move_take _ _ _ _ rfl),zp rfl (op_callG _ _ 119 17 _ _ rfl Tryd.call17 rfl rfl (fun _ h => h) (ok_dots_Check mx s108 _ hv125) rfl rfl),zo rfl rfl rfl rfl,zm rfl (zb hg25_3) rfl,zr 3 rfl rfl rfl (op_move _ _ _ _ rfl rfl),zr 3 rfl rfl rfl (op_bin _ _ _ _ _ rfl rfl rfl),zk true rfl rfl rfl,zm rfl (zb hg25_7) rfl,zr 7 rfl rfl rfl (op_move_take _ _ _ _ rfl),zr 7 rfl rfl rfl (op_len_fl _ _ _ Tryd.underlying22 rfl (by decide) (map_len _)),zr 7 rfl rfl rfl (op_bin _ _ _ _ _ rfl rfl rfl),zk true rfl rfl rfl,zm rfl (zb hg25_12) rfl,zs 12 true rfl rfl rfl rfl,zk false rfl rfl rfl,za rfl rfl rfl,trivial⟩ ?_
           exact hl129 _ (Option.some.inj h).symm
         ·refine zh hn (_ :: _ :: _ :: _ :: (104, .fl (.own 5) 1 (List.map (Value.int .u8) s108)) :: (105, .v (.int .i64 v125)) :: (106, .v (.bool (v125 == 5))) :: (107, .v (.bool true)) :: (108, .v (.int .i64 v124.2)) :: (109, .v (.bool (v124.2 == 5))) :: (110, .v (.bool (v124.2 == 5))) :: (111, .v (.bool false)) :: (112, .v undef) :: (113, .v undef) :: (114, .v undef) :: (115, .v (.bool false)) :: (116, .v (.bool false)) :: (117, .v undef) :: (118, .v (.bool false)) :: (6, .v (.bool false)) :: []) [0,1,2,3] [0,19] (⟨[], [1], [4], [(.slot 104)]⟩ :: zq [4,0] 5 105 :: zq [5] 6 106 :: zq [6] 7 107 :: zq [7,3] 8 108 :: zq [7,8] 9 109 :: zq [7,9] 10 110 :: zq [10] 11 111 :: zq [11] 12 112 :: zq [11] 13 113 :: zq [11] 14 114 :: zq [11] 15 115 :: zq [15] 16 116 :: zq [16] 17 117 :: zq [16] 18 118 :: zq [18] 19 6 :: []) [(_,_),(_,_)] (by kernel_rfl) rfl rfl ⟨zp rfl (op_move_take _ _ _ _ rfl),zp rfl (op_callG _ _ 119 17 _ _ rfl Tryd.call17 rfl rfl (fun _ h => h) (ok_dots_Check mx s108 _ hv125) rfl rfl),zo rfl rfl rfl rfl,zm rfl (zb hg25_3) rfl,zr 3 rfl rfl rfl (op_move _ _ _ _ rfl rfl),zr 3 rfl rfl rfl (op_bin _ _ _ _ _ rfl rfl rfl),zk true rfl rfl rfl,zm rfl (zb hg25_7) rfl,zs 7 true rfl rfl rfl rfl,zs 7 true rfl rfl rfl rfl,zs 7 true rfl rfl rfl rfl,zk false rfl rfl rfl,zm rfl rfl rfl,zs 12 true rfl rfl rfl rfl,zk false rfl rfl rfl,za rfl rfl rfl,trivial⟩ ?_
          exact hl129 _ (Option.some.inj h).symm
        ·refine zh hn (_ :: _ :: _ :: _ :: (104, .fl (.own 5) 1 (List.map (Value.int .u8) s108)) :: (105, .v (.int .i64 v125)) :: (106, .v (.bool (v125 == 5))) :: (107, .v (.bool false)) :: (108, .v undef) :: (109, .v undef) :: (110, .v (.bool false)) :: (111, .v (.bool false)) :: (112, .v undef) :: (113, .v undef) :: (114, .v undef) :: (115, .v (.bool false)) :: (116, .v (.bool false)) :: (117, .v undef) :: (118, .v (.bool false)) :: (6, .v (.bool false)) :: []) [0,1,2,3] [0,19] (⟨[], [1], [4], [(.slot 104)]⟩ :: zq [4,0] 5 105 :: zq [5] 6 106 :: zq [6] 7 107 :: zq [7] 8 108 :: zq [7] 9 109 :: zq [7] 10 110 :: zq [10] 11 111 :: zq [11] 12 112 :: zq [11] 13 113 :: zq [11] 14 114 :: zq [11] 15 115 :: zq [15] 16 116 :: zq [16] 17 117 :: zq [16] 18 118 :: zq [18] 19 6 :: []) [(_,_),(_,_)] (by kernel_rfl) rfl rfl ⟨zp rfl (op_move_take _ _ _ _ rfl),zp rfl (op_callG _ _ 119 17 _ _ rfl Tryd.call17 rfl rfl (fun _ h => h) (ok_dots_Check mx s108 _ hv125) rfl rfl),zo rfl rfl rfl rfl,zm rfl (zb hg25_3) rfl,zs 3 true rfl rfl rfl rfl,zs 3 true rfl rfl rfl rfl,zk false rfl rfl rfl,zm rfl rfl rfl,zs 7 true rfl rfl rfl rfl,zs 7 true rfl rfl rfl rfl,zs 7 true rfl rfl rfl rfl,zk false rfl rfl rfl,zm rfl rfl rfl,zs 12 true rfl rfl rfl rfl,zk false rfl rfl rfl,za rfl rfl rfl,trivial⟩ ?_
         exact hl129 _ (Option.some.inj h).symm
      ·intro u109 h hl110 hr111
       refine ht_seq ?_
       obtain ⟨v81, hv81, h⟩ := bind_some h
       obtain ⟨v82, hv82, h⟩ := bind_some h
       refine zh hn [_, _, _, _, (58, .v (.int .i64 how)), (59, .v (.int .u64 v81)), (60, .v (.int .u64 v82))] [0,1,2,3] [0,2,3,6] [zq [1] 4 58, zq [4] 5 59, zq [5] 6 60] [(_,_),(_,_),(_,_),(_,_)] (by kernel_rfl) rfl rfl ⟨zm rfl rfl rfl,zp rfl ((Option.some.inj hv81) ▸ op_conv _ _ _ Tryd.underlying3 Tryd.underlying37 rfl),zp rfl (op_bin _ _ _ _ _ rfl rfl (rem_ok hv82)),trivial⟩ ?_
       refine pt_then ?_
       refine ht_joinS h (fun (s116 : (List Int)) => [(119, .glob (GL mx)), (9, .fl (.own 5) 1 (List.map (Value.int .u8) s116))]) ?_ ?_
       ·rintro s116 h
        exact hl110 _ (Option.some.inj h).symm
       ·intro u117 h hl118 hr119
        refine ht_block ?_
        refine ht_seq ?_
        refine zh hn [_, _, _, _, (69, .v (.bool (v82 == 0))), (68, .v (.bool (v82 == 0)))] [0,1,2,3] [0,1,2,3,5] [zq [3] 4 69, zq [4] 5 68] [(_,_),(_,_),(_,_),(_,_),(_,_)] (by kernel_rfl) rfl rfl ⟨zo rfl rfl rfl rfl,za rfl rfl rfl,trivial⟩ ?_
        refine pt_then ?_
        refine ht_cond _ rfl (fun hb120 => ?_) (fun hb120 => ?_)
        ·have h := cond_t hb120 h
         refine ht_seq ?_
         obtain ⟨v84, hv84, h⟩ := bind_some h
         obtain ⟨v85, hv85, h⟩ := bind_some h
         obtain ⟨v86, hv86, h⟩ := bind_some h
         refine zh hn (_ :: _ :: _ :: _ :: _ :: (70, .fl (.own 5) 1 (List.map (Value.int .u8) v80)) :: (71, .fl (.own 5) 1 (List.map (Value.int .u8) [13])) :: (72, .fl (.own 5) 1 (List.map (Value.int .u8) v84)) :: (70, .any) :: (73, .fl .shr 1 (List.map (Value.int .u8) b)) :: (74, .fl (.own 5) 1 (List.map (Value.int .u8) v85)) :: (72, .any) :: (75, .fl (.own 5) 1 (List.map (Value.int .u8) [13, 10])) :: (76, .fl (.own 5) 1 (List.map (Value.int .u8) v86)) :: (74, .any) :: (9, .fl (.own 5) 1 (List.map (Value.int .u8) v86)) :: []) [0,1,2,3,4] [0,1,15] [⟨[], [2], [5], [(.slot 70)]⟩, zq [] 6 71, ⟨[6], [5], [8, 7], [(.slot 72)]⟩, zq [0] 9 73, ⟨[9], [7], [11, 10], [(.slot 74)]⟩, zq [] 12 75, ⟨[12], [10], [14, 13], [(.slot 76)]⟩, ⟨[], [13], [15], [(.slot 9)]⟩] [(_,_),(_,_),(_,_)] (by kernel_rfl) rfl rfl ⟨zp rfl (op_move_take _ _ _ _ rfl),zp rfl (op_buildSlice _ _ 1 (.int .u8 0) (List.map (Value.int .u8) [13]) [(0, .int .u8 13)] Tryd.underlying22 sz5 zr5 (fun _ V w o a hv hes => by simp only [List.map_toArray, List.map_cons, List.map_nil]; try rfl) (litfill (by simp [Instr.fill, Value.cells]; rfl) (by simp [List.range, List.range.loop] <;> rfl)) (by simp [Value.oneCell']) rfl (by decide) (by decide) (by decide)),zp rfl (op_app _ _ _ _ _ el22 rfl rfl (map_len _) (map_len _) hv84 ((List.map_append).symm.trans (congrArg (List.map _) (app_eq hv84)))),zm rfl rfl rfl,zp rfl (op_app _ _ _ _ _ el22 rfl rfl (map_len _) (map_len _) hv85 ((List.map_append).symm.trans (congrArg (List.map _) (app_eq hv85)))),zp rfl (op_buildSlice _ _ 1 (.int .u8 0) (List.map (Value.int .u8) [13, 10]) [(0, .int .u8 13), (1, .int .u8 10)] Tryd.underlying22 sz5 zr5 (fun _ V w o a hv hes => by simp only [List.map_toArray, List.map_cons, List.map_nil]; try rfl) (litfill (by simp [Instr.fill, Value.cells]; rfl) (by simp [List.range, List.range.loop] <;> rfl)) (by simp [Value.oneCell']) rfl (by decide) (by decide) (by decide)),zp rfl (op_app _ _ _ _ _ el22 rfl rfl (map_len _) (map_len _) hv86 ((List.map_append).symm.trans (congrArg (List.map _) (app_eq hv86)))),zp rfl (op_assign_take _ _ _ _ rfl),trivial⟩ ?_
         refine pt_then ?_
         refine ht_seq ?_
         refine zh hn [_, _, _, (77, .fl .shr 1 (List.map (Value.int .u8) b)), (78, .v (.int .i64 (b.length : Int))), (79, .v (.bool (((b.length : Int) == 0))))] [0,1,2] [1,2,5] [zq [0] 3 77, zq [3] 4 78, zq [4] 5 79] [(_,_),(_,_),(_,_)] (by kernel_rfl) rfl rfl ⟨zm rfl rfl rfl,zp rfl (op_len_fl _ _ _ Tryd.underlying22 rfl (by decide) (map_len _)),zo rfl rfl rfl rfl,trivial⟩ ?_
         refine pt_then ?_
         refine ht_cond _ rfl (fun hb121 => ?_) (fun hb121 => ?_)
         ·have h := cond_t hb121 h
          refine ht_seq ?_
          obtain ⟨v88, hv88, h⟩ := bind_some h
          refine zh hn [_, _, _, (80, .v (.bool v88)), (6, .v (.bool v88))] [0,1,2] [0,4] [zq [0] 3 80, zq [3] 4 6] [(_,_),(_,_)] (by kernel_rfl) rfl rfl ⟨zp rfl (op_callG _ _ 119 21 _ _ rfl Tryd.call21 rfl rfl (fun _ h => h) (ok_wherrylaw14_wakes mx  _ hv88) rfl rfl),za rfl rfl rfl,trivial⟩ ?_
          refine pt_then ?_
          refine ht_ret ?_
          refine pt_pick [1] (by kernel_rfl) (es' := [(_, _)]) rfl ?_
          refine pt_r_in ?_
          refine pt_r_then ?_
          have h := hr119 _ (Option.some.inj h).symm
          have h := hr111 _ (Option.some.inj h).symm
          obtain rfl := Option.some.inj h
          exact pt_ret hio rfl (.tmp _ _ .nil) rfl rfl
         ·have h := cond_f hb121 h
          refine ht_skip ?_
          refine pt_inb ?_
          refine pt_pick [0, 1] (by kernel_rfl) (es' := [(_, _), (_, _)]) rfl ?_
          exact hl118 _ (Option.some.inj h).symm
        ·have h := cond_f hb120 h
         refine ht_seq ?_
         refine zh hn [_, _, _, _, _, (82, .v (.bool (v82 == 1))), (81, .v (.bool (v82 == 1)))] [0,1,2,3,4] [0,1,2,3,6] [zq [3] 5 82, zq [5] 6 81] [(_,_),(_,_),(_,_),(_,_),(_,_)] (by kernel_rfl) rfl rfl ⟨zo rfl rfl rfl rfl,za rfl rfl rfl,trivial⟩ ?_
         refine pt_then ?_
         refine ht_cond _ rfl (fun hb122 => ?_) (fun hb122 => ?_)
         ·have h := cond_t hb122 h
          obtain ⟨v90, hv90, h⟩ := bind_some h
          obtain ⟨v91, hv91, h⟩ := bind_some h
          obtain ⟨v92, hv92, h⟩ := bind_some h
          refine zh hn (_ :: _ :: _ :: _ :: _ :: (83, .fl (.own 5) 1 (List.map (Value.int .u8) v80)) :: (84, .fl (.own 5) 1 (List.map (Value.int .u8) [10])) :: (85, .fl (.own 5) 1 (List.map (Value.int .u8) v90)) :: (83, .any) :: (86, .fl .shr 1 (List.map (Value.int .u8) b)) :: (87, .fl (.own 5) 1 (List.map (Value.int .u8) v91)) :: (85, .any) :: (88, .fl (.own 5) 1 (List.map (Value.int .u8) [13, 10])) :: (89, .fl (.own 5) 1 (List.map (Value.int .u8) v92)) :: (87, .any) :: (9, .fl (.own 5) 1 (List.map (Value.int .u8) v92)) :: []) [0,1,2,3,4] [1,15] [⟨[], [2], [5], [(.slot 83)]⟩, zq [] 6 84, ⟨[6], [5], [8, 7], [(.slot 85)]⟩, zq [0] 9 86, ⟨[9], [7], [11, 10], [(.slot 87)]⟩, zq [] 12 88, ⟨[12], [10], [14, 13], [(.slot 89)]⟩, ⟨[], [13], [15], [(.slot 9)]⟩] [(_,_),(_,_)] (by kernel_rfl) rfl rfl ⟨zp rfl (op_move_take _ _ _ _ rfl),zp rfl (op_buildSlice _ _ 1 (.int .u8 0) (List.map (Value.int .u8) [10]) [(0, .int .u8 10)] Tryd.underlying22 sz5 zr5 (fun _ V w o a hv hes => by simp only [List.map_toArray, List.map_cons, List.map_nil]; try rfl) (litfill (by simp [Instr.fill, Value.cells]; rfl) (by simp [List.range, List.range.loop] <;> rfl)) (by simp [Value.oneCell']) rfl (by decide) (by decide) (by decide)),zp rfl (op_app _ _ _ _ _ el22 rfl rfl (map_len _) (map_len _) hv90 ((List.map_append).symm.trans (congrArg (List.map _) (app_eq hv90)))),zm rfl rfl rfl,zp rfl (op_app _ _ _ _ _ el22 rfl rfl (map_len _) (map_len _) hv91 ((List.map_append).symm.trans (congrArg (List.map _) (app_eq hv91)))),zp rfl (op_buildSlice _ _ 1 (.int .u8 0) (List.map (Value.int .u8) [13, 10]) [(0, .int .u8 13), (1, .int .u8 10)] Tryd.underlying22 sz5 zr5 (fun _ V w o a hv hes => by simp only [List.map_toArray, List.map_cons, List.map_nil]; try rfl) (litfill (by simp [Instr.fill, Value.cells]; rfl) (by simp [List.range, List.range.loop] <;> rfl)) (by simp [Value.oneCell']) rfl (by decide) (by decide) (by decide)),zp rfl (op_app _ _ _ _ _ el22 rfl rfl (map_len _) (map_len _) hv92 ((List.map_append).symm.trans (congrArg (List.map _) (app_eq hv92)))),zp rfl (op_assign_take _ _ _ _ rfl),trivial⟩ ?_
          refine pt_inb ?_
          exact hl118 _ (Option.some.inj h).symm
         ·have h := cond_f hb122 h
          refine ht_seq ?_
          refine zh hn [_, _, _, _, _, (91, .v (.bool (v82 == 2))), (90, .v (.bool (v82 == 2)))] [0,1,2,3,4] [0,1,2,6] [zq [3] 5 91, zq [5] 6 90] [(_,_),(_,_),(_,_),(_,_)] (by kernel_rfl) rfl rfl ⟨zo rfl rfl rfl rfl,za rfl rfl rfl,trivial⟩ ?_
          refine pt_then ?_
          refine ht_cond _ rfl (fun hb123 => ?_) (fun hb123 => ?_)
          ·have h := cond_t hb123 h
           obtain ⟨v94, hv94, h⟩ := bind_some h
           obtain ⟨v95, hv95, h⟩ := bind_some h
           obtain ⟨v96, hv96, h⟩ := bind_some h
           refine zh hn (_ :: _ :: _ :: _ :: (92, .fl (.own 5) 1 (List.map (Value.int .u8) v80)) :: (93, .fl (.own 5) 1 (List.map (Value.int .u8) [13, 10])) :: (94, .fl (.own 5) 1 (List.map (Value.int .u8) v94)) :: (92, .any) :: (95, .fl .shr 1 (List.map (Value.int .u8) b)) :: (96, .fl (.own 5) 1 (List.map (Value.int .u8) v95)) :: (94, .any) :: (97, .fl (.own 5) 1 (List.map (Value.int .u8) [120])) :: (98, .fl (.own 5) 1 (List.map (Value.int .u8) v96)) :: (96, .any) :: (9, .fl (.own 5) 1 (List.map (Value.int .u8) v96)) :: []) [0,1,2,3] [1,14] [⟨[], [2], [4], [(.slot 92)]⟩, zq [] 5 93, ⟨[5], [4], [7, 6], [(.slot 94)]⟩, zq [0] 8 95, ⟨[8], [6], [10, 9], [(.slot 96)]⟩, zq [] 11 97, ⟨[11], [9], [13, 12], [(.slot 98)]⟩, ⟨[], [12], [14], [(.slot 9)]⟩] [(_,_),(_,_)] (by kernel_rfl) rfl rfl ⟨zp rfl (op_move_take _ _ _ _ rfl),zp rfl (op_buildSlice _ _ 1 (.int .u8 0) (List.map (Value.int .u8) [13, 10]) [(0, .int .u8 13), (1, .int .u8 10)] Tryd.underlying22 sz5 zr5 (fun _ V w o a hv hes => by simp only [List.map_toArray, List.map_cons, List.map_nil]; try rfl) (litfill (by simp [Instr.fill, Value.cells]; rfl) (by simp [List.range, List.range.loop] <;> rfl)) (by simp [Value.oneCell']) rfl (by decide) (by decide) (by decide)),zp rfl (op_app _ _ _ _ _ el22 rfl rfl (map_len _) (map_len _) hv94 ((List.map_append).symm.trans (congrArg (List.map _) (app_eq hv94)))),zm rfl rfl rfl,zp rfl (op_app _ _ _ _ _ el22 rfl rfl (map_len _) (map_len _) hv95 ((List.map_append).symm.trans (congrArg (List.map _) (app_eq hv95)))),zp rfl (op_buildSlice _ _ 1 (.int .u8 0) (List.map (Value.int .u8) [120]) [(0, .int .u8 120)] Tryd.underlying22 sz5 zr5 (fun _ V w o a hv hes => by simp only [List.map_toArray, List.map_cons, List.map_nil]; try rfl) (litfill (by simp [Instr.fill, Value.cells]; rfl) (by simp [List.range, List.range.loop] <;> rfl)) (by simp [Value.oneCell']) rfl (by decide) (by decide) (by decide)),zp rfl (op_app _ _ _ _ _ el22 rfl rfl (map_len _) (map_len _) hv96 ((List.map_append).symm.trans (congrArg (List.map _) (app_eq hv96)))),zp rfl (op_assign_take _ _ _ _ rfl),trivial⟩ ?_
           refine pt_inb ?_
           exact hl118 _ (Option.some.inj h).symm
          ·have h := cond_f hb123 h
           obtain ⟨v97, hv97, h⟩ := bind_some h
           obtain ⟨v98, hv98, h⟩ := bind_some h
           obtain ⟨v99, hv99, h⟩ := bind_some h
           refine zh hn (_ :: _ :: _ :: _ :: (61, .fl (.own 5) 1 (List.map (Value.int .u8) v80)) :: (62, .fl (.own 5) 1 (List.map (Value.int .u8) [10, 13])) :: (63, .fl (.own 5) 1 (List.map (Value.int .u8) v97)) :: (61, .any) :: (64, .fl .shr 1 (List.map (Value.int .u8) b)) :: (65, .fl (.own 5) 1 (List.map (Value.int .u8) v98)) :: (63, .any) :: (66, .fl (.own 5) 1 (List.map (Value.int .u8) [13, 10])) :: (67, .fl (.own 5) 1 (List.map (Value.int .u8) v99)) :: (65, .any) :: (9, .fl (.own 5) 1 (List.map (Value.int .u8) v99)) :: []) [0,1,2,3] [1,14] [⟨[], [2], [4], [(.slot 61)]⟩, zq [] 5 62, ⟨[5], [4], [7, 6], [(.slot 63)]⟩, zq [0] 8 64, ⟨[8], [6], [10, 9], [(.slot 65)]⟩, zq [] 11 66, ⟨[11], [9], [13, 12], [(.slot 67)]⟩, ⟨[], [12], [14], [(.slot 9)]⟩] [(_,_),(_,_)] (by kernel_rfl) rfl rfl ⟨zp rfl (op_move_take _ _ _ _ rfl),zp rfl (op_buildSlice _ _ 1 (.int .u8 0) (List.map (Value.int .u8) [10, 13]) [(0, .int .u8 10), (1, .int .u8 13)] Tryd.underlying22 sz5 zr5 (fun _ V w o a hv hes => by simp only [List.map_toArray, List.map_cons, List.map_nil]; try rfl) (litfill (by simp [Instr.fill, Value.cells]; rfl) (by simp [List.range, List.range.loop] <;> rfl)) (by simp [Value.oneCell']) rfl (by decide) (by decide) (by decide)),zp rfl (op_app _ _ _ _ _ el22 rfl rfl (map_len _) (map_len _) hv97 ((List.map_append).symm.trans (congrArg (List.map _) (app_eq hv97)))),zm rfl rfl rfl,zp rfl (op_app _ _ _ _ _ el22 rfl rfl (map_len _) (map_len _) hv98 ((List.map_append).symm.trans (congrArg (List.map _) (app_eq hv98)))),zp rfl (op_buildSlice _ _ 1 (.int .u8 0) (List.map (Value.int .u8) [13, 10]) [(0, .int .u8 13), (1, .int .u8 10)] Tryd.underlying22 sz5 zr5 (fun _ V w o a hv hes => by simp only [List.map_toArray, List.map_cons, List.map_nil]; try rfl) (litfill (by simp [Instr.fill, Value.cells]; rfl) (by simp [List.range, List.range.loop] <;> rfl)) (by simp [Value.oneCell']) rfl (by decide) (by decide) (by decide)),zp rfl (op_app _ _ _ _ _ el22 rfl rfl (map_len _) (map_len _) hv99 ((List.map_append).symm.trans (congrArg (List.map _) (app_eq hv99)))),zp rfl (op_assign_take _ _ _ _ rfl),trivial⟩ ?_
           refine pt_inb ?_
           exact hl118 _ (Option.some.inj h).symm
     ·rintro u68 hl69 hr70 s61 rr73 h ho71
      refine ht_seq ?_
      refine ht_seq ?_
      refine zh hn [_, _, _, _, _, (38, .v (.int .i64 s61)), (39, .fl .shr 1 (List.map (Value.int .u8) b)), (40, .v (.int .i64 (b.length : Int))), (41, .v (.bool ((decide (s61 < (b.length : Int))))))] [0,1,2,3,4] [0,1,2,3,4,8] [zq [4] 5 38, zq [1] 6 39, zq [6] 7 40, zq [5,7] 8 41] [(_,_),(_,_),(_,_),(_,_),(_,_),(_,_)] (by kernel_rfl) rfl rfl ⟨zm rfl rfl rfl,zm rfl rfl rfl,zp rfl (op_len_fl _ _ _ Tryd.underlying22 rfl (by decide) (map_len _)),zo rfl rfl rfl rfl,trivial⟩ ?_
      refine pt_then ?_
      refine ht_cond _ rfl (fun hb74 => ?_) (fun hb74 => ?_)
      ·have h := cond_t hb74 h
       refine ht_skip ?_
       refine pt_then ?_
       refine ht_seq ?_
       refine ht_block ?_
       refine ht_seq ?_
       refine ht_joinS h (fun (s75 : Bool) => [(0, .fl .shr 1 (List.map (Value.int .u8) a)), (1, .fl .shr 1 (List.map (Value.int .u8) b)), (2, .v (.int .i64 how)), (119, .glob (GL mx)), (8, .v (.int .i64 s61)), (55, .v (.bool s75))]) ?_ ?_
       ·rintro s75 h
        refine pt_then ?_
        refine ht_cond _ rfl (fun hb79 => ?_) (fun hb79 => ?_)
        ·have h := cond_t hb79 h
         refine ht_seq ?_
         refine zh hn [_, _, _, _, _, _, (6, .v (.bool true))] [0,1,2,3,4,5] [3,6] [zq [] 6 6] [(_,_),(_,_)] (by kernel_rfl) rfl rfl ⟨za rfl rfl rfl,trivial⟩ ?_
         refine pt_then ?_
         refine ht_ret ?_
         refine pt_pick [1] (by kernel_rfl) (es' := [(_, _)]) rfl ?_
         refine pt_r_in ?_
         refine pt_r_then ?_
         refine pt_r_then ?_
         refine pt_r_in ?_
         refine pt_r_then ?_
         have h := hr70 _ (ho71 _ (Option.some.inj h).symm).symm
         obtain rfl := Option.some.inj h
         exact pt_ret hio rfl (.tmp _ _ .nil) rfl rfl
        ·have h := cond_f hb79 h
         refine ht_skip ?_
         refine pt_inb ?_
         refine pt_then ?_
         obtain ⟨v53, hv53, h⟩ := bind_some h
         refine zh hn [_, _, _, _, _, _, (42, .v (.int .i64 s61)), (43, .v (.int .i64 v53)), (8, .v (.int .i64 v53))] [0,1,2,3,4,5] [0,1,2,3,8] [zq [4] 6 42, zq [6] 7 43, ⟨[7], [4], [8], [(.slot 8)]⟩] [(_,_),(_,_),(_,_),(_,_),(_,_)] (by kernel_rfl) rfl rfl ⟨zm rfl rfl rfl,zp rfl (op_bin _ _ _ _ _ rfl rfl (ibind (f := Value.int .i64) (Option.some.inj hv53))),zp rfl (LOp.drop [_] (op_assign _ _ _ _ rfl rfl)),trivial⟩ ?_
         exact pt_next _ (Option.some.inj h).symm rfl
       ·intro u76 h hl77 hr78
        obtain ⟨v44, hv44, h⟩ := bind_some h
        obtain ⟨v45, hv45, h⟩ := bind_some h
        refine cond_some h (fun hg11_5 h => ?_) (fun hg11_5 h => ?_)
        ·refine zh hn (_ :: _ :: _ :: _ :: _ :: _ :: (44, .fl .shr 1 (List.map (Value.int .u8) b)) :: (45, .v (.int .i64 s61)) :: (46, .eref (.slot 44) (v44 * 1)) :: (47, .v (.int .u8 v45)) :: (48, .v (.bool (v45 == 13))) :: (49, .v (.bool true)) :: (50, .v undef) :: (51, .v undef) :: (52, .v undef) :: (53, .v undef) :: (54, .v undef) :: (55, .v (.bool true)) :: []) [0,1,2,3,4,5] [0,1,2,3,4,17] [zq [1] 6 44, zq [4] 7 45, zq [6,7] 8 46, zq [8,6] 9 47, zq [9] 10 48, zq [10] 11 49, zq [11] 12 50, zq [11] 13 51, zq [11] 14 52, zq [11] 15 53, zq [11] 16 54, zq [11] 17 55] [(_,_),(_,_),(_,_),(_,_),(_,_),(_,_)] (by kernel_rfl) rfl rfl ⟨zm rfl rfl rfl,zm rfl rfl rfl,zp rfl (op_ix _ _ _ _ _ _ _ _ Tryd.underlying22 sz5 (by decide) rfl rfl rfl (ix_ok hv44).1 (map_lt (ix_ok hv44).2) rfl),zp rfl (op_load_e _ _ _ _ _ _ Tryd.underlying5 rfl rfl rfl (map_get hv45)),zo rfl rfl rfl rfl,zm rfl (zb hg11_5) rfl,zs 5 false rfl rfl rfl rfl,zs 5 false rfl rfl rfl rfl,zs 5 false rfl rfl rfl rfl,zs 5 false rfl rfl rfl rfl,zs 5 false rfl rfl rfl rfl,zk true rfl rfl rfl,trivial⟩ ?_
         exact hl77 _ (Option.some.inj h).symm
        ·obtain ⟨v46, hv46, h⟩ := bind_some h
         obtain ⟨v47, hv47, h⟩ := bind_some h
         refine zh hn (_ :: _ :: _ :: _ :: _ :: _ :: (44, .fl .shr 1 (List.map (Value.int .u8) b)) :: (45, .v (.int .i64 s61)) :: (46, .eref (.slot 44) (v44 * 1)) :: (47, .v (.int .u8 v45)) :: (48, .v (.bool (v45 == 13))) :: (49, .v (.bool false)) :: (50, .fl .shr 1 (List.map (Value.int .u8) b)) :: (51, .v (.int .i64 s61)) :: (52, .eref (.slot 50) (v46 * 1)) :: (53, .v (.int .u8 v47)) :: (54, .v (.bool (v47 == 10))) :: (55, .v (.bool (v47 == 10))) :: []) [0,1,2,3,4,5] [0,1,2,3,4,17] [zq [1] 6 44, zq [4] 7 45, zq [6,7] 8 46, zq [8,6] 9 47, zq [9] 10 48, zq [10] 11 49, zq [11,1] 12 50, zq [11,4] 13 51, zq [11,12,13] 14 52, zq [11,14,12] 15 53, zq [11,15] 16 54, zq [11,16] 17 55] [(_,_),(_,_),(_,_),(_,_),(_,_),(_,_)] (by kernel_rfl) rfl rfl ⟨zm rfl rfl rfl,zm rfl rfl rfl,zp rfl (op_ix _ _ _ _ _ _ _ _ Tryd.underlying22 sz5 (by decide) rfl rfl rfl (ix_ok hv44).1 (map_lt (ix_ok hv44).2) rfl),zp rfl (op_load_e _ _ _ _ _ _ Tryd.underlying5 rfl rfl rfl (map_get hv45)),zo rfl rfl rfl rfl,zm rfl (zb hg11_5) rfl,zr 5 rfl rfl rfl (op_move _ _ _ _ rfl rfl),zr 5 rfl rfl rfl (op_move _ _ _ _ rfl rfl),zr 5 rfl rfl rfl (op_ix _ _ _ _ _ _ _ _ Tryd.underlying22 sz5 (by decide) rfl rfl rfl (ix_ok hv46).1 (map_lt (ix_ok hv46).2) rfl),zr 5 rfl rfl rfl (op_load_e _ _ _ _ _ _ Tryd.underlying5 rfl rfl rfl (map_get hv47)),zr 5 rfl rfl rfl (op_bin _ _ _ _ _ rfl rfl rfl),zk false rfl rfl rfl,trivial⟩ ?_
         exact hl77 _ (Option.some.inj h).symm
      ·have h := cond_f hb74 h
       refine ht_exit ?_
       refine pt_x_then ?_
       refine pt_x_then ?_
       refine pt_x_in ?_
       refine pt_pick [0, 1, 2, 3] (by kernel_rfl) (es' := [(_, _), (_, _), (_, _), (_, _)]) rfl ?_
       exact hl69 _ (ho71 _ (Option.some.inj h).symm).symm
    ·rintro u31 hl32 hr33 s24 rr36 h ho34
     refine ht_seq ?_
     refine ht_seq ?_
     refine zh hn [_, _, _, _, _, (20, .v (.int .i64 s24)), (21, .fl .shr 1 (List.map (Value.int .u8) a)), (22, .v (.int .i64 (a.length : Int))), (23, .v (.bool ((decide (s24 < (a.length : Int))))))] [0,1,2,3,4] [0,1,2,3,4,8] [zq [4] 5 20, zq [0] 6 21, zq [6] 7 22, zq [5,7] 8 23] [(_,_),(_,_),(_,_),(_,_),(_,_),(_,_)] (by kernel_rfl) rfl rfl ⟨zm rfl rfl rfl,zm rfl rfl rfl,zp rfl (op_len_fl _ _ _ Tryd.underlying22 rfl (by decide) (map_len _)),zo rfl rfl rfl rfl,trivial⟩ ?_
     refine pt_then ?_
     refine ht_cond _ rfl (fun hb37 => ?_) (fun hb37 => ?_)
     ·have h := cond_t hb37 h
      refine ht_skip ?_
      refine pt_then ?_
      refine ht_seq ?_
      refine ht_block ?_
      refine ht_seq ?_
      refine ht_joinS h (fun (s38 : Bool) => [(0, .fl .shr 1 (List.map (Value.int .u8) a)), (1, .fl .shr 1 (List.map (Value.int .u8) b)), (2, .v (.int .i64 how)), (119, .glob (GL mx)), (7, .v (.int .i64 s24)), (37, .v (.bool s38))]) ?_ ?_
      ·rintro s38 h
       refine pt_then ?_
       refine ht_cond _ rfl (fun hb42 => ?_) (fun hb42 => ?_)
       ·have h := cond_t hb42 h
        refine ht_seq ?_
        refine zh hn [_, _, _, _, _, _, (6, .v (.bool true))] [0,1,2,3,4,5] [3,6] [zq [] 6 6] [(_,_),(_,_)] (by kernel_rfl) rfl rfl ⟨za rfl rfl rfl,trivial⟩ ?_
        refine pt_then ?_
        refine ht_ret ?_
        refine pt_pick [1] (by kernel_rfl) (es' := [(_, _)]) rfl ?_
        refine pt_r_in ?_
        refine pt_r_then ?_
        refine pt_r_then ?_
        refine pt_r_in ?_
        refine pt_r_then ?_
        have h := hr33 _ (ho34 _ (Option.some.inj h).symm).symm
        obtain rfl := Option.some.inj h
        exact pt_ret hio rfl (.tmp _ _ .nil) rfl rfl
       ·have h := cond_f hb42 h
        refine ht_skip ?_
        refine pt_inb ?_
        refine pt_then ?_
        obtain ⟨v16, hv16, h⟩ := bind_some h
        refine zh hn [_, _, _, _, _, _, (24, .v (.int .i64 s24)), (25, .v (.int .i64 v16)), (7, .v (.int .i64 v16))] [0,1,2,3,4,5] [0,1,2,3,8] [zq [4] 6 24, zq [6] 7 25, ⟨[7], [4], [8], [(.slot 7)]⟩] [(_,_),(_,_),(_,_),(_,_),(_,_)] (by kernel_rfl) rfl rfl ⟨zm rfl rfl rfl,zp rfl (op_bin _ _ _ _ _ rfl rfl (ibind (f := Value.int .i64) (Option.some.inj hv16))),zp rfl (LOp.drop [_] (op_assign _ _ _ _ rfl rfl)),trivial⟩ ?_
        exact pt_next _ (Option.some.inj h).symm rfl
      ·intro u39 h hl40 hr41
       obtain ⟨v7, hv7, h⟩ := bind_some h
       obtain ⟨v8, hv8, h⟩ := bind_some h
       refine cond_some h (fun hg6_5 h => ?_) (fun hg6_5 h => ?_)
       ·refine zh hn (_ :: _ :: _ :: _ :: _ :: _ :: (26, .fl .shr 1 (List.map (Value.int .u8) a)) :: (27, .v (.int .i64 s24)) :: (28, .eref (.slot 26) (v7 * 1)) :: (29, .v (.int .u8 v8)) :: (30, .v (.bool (v8 == 13))) :: (31, .v (.bool true)) :: (32, .v undef) :: (33, .v undef) :: (34, .v undef) :: (35, .v undef) :: (36, .v undef) :: (37, .v (.bool true)) :: []) [0,1,2,3,4,5] [0,1,2,3,4,17] [zq [0] 6 26, zq [4] 7 27, zq [6,7] 8 28, zq [8,6] 9 29, zq [9] 10 30, zq [10] 11 31, zq [11] 12 32, zq [11] 13 33, zq [11] 14 34, zq [11] 15 35, zq [11] 16 36, zq [11] 17 37] [(_,_),(_,_),(_,_),(_,_),(_,_),(_,_)] (by kernel_rfl) rfl rfl ⟨zm rfl rfl rfl,zm rfl rfl rfl,zp rfl (op_ix _ _ _ _ _ _ _ _ Tryd.underlying22 sz5 (by decide) rfl rfl rfl (ix_ok hv7).1 (map_lt (ix_ok hv7).2) rfl),zp rfl (op_load_e _ _ _ _ _ _ Tryd.underlying5 rfl rfl rfl (map_get hv8)),zo rfl rfl rfl rfl,zm rfl (zb hg6_5) rfl,zs 5 false rfl rfl rfl rfl,zs 5 false rfl rfl rfl rfl,zs 5 false rfl rfl rfl rfl,zs 5 false rfl rfl rfl rfl,zs 5 false rfl rfl rfl rfl,zk true rfl rfl rfl,trivial⟩ ?_
        exact hl40 _ (Option.some.inj h).symm
       ·obtain ⟨v9, hv9, h⟩ := bind_some h
        obtain ⟨v10, hv10, h⟩ := bind_some h
        refine zh hn (_ :: _ :: _ :: _ :: _ :: _ :: (26, .fl .shr 1 (List.map (Value.int .u8) a)) :: (27, .v (.int .i64 s24)) :: (28, .eref (.slot 26) (v7 * 1)) :: (29, .v (.int .u8 v8)) :: (30, .v (.bool (v8 == 13))) :: (31, .v (.bool false)) :: (32, .fl .shr 1 (List.map (Value.int .u8) a)) :: (33, .v (.int .i64 s24)) :: (34, .eref (.slot 32) (v9 * 1)) :: (35, .v (.int .u8 v10)) :: (36, .v (.bool (v10 == 10))) :: (37, .v (.bool (v10 == 10))) :: []) [0,1,2,3,4,5] [0,1,2,3,4,17] [zq [0] 6 26, zq [4] 7 27, zq [6,7] 8 28, zq [8,6] 9 29, zq [9] 10 30, zq [10] 11 31, zq [11,0] 12 32, zq [11,4] 13 33, zq [11,12,13] 14 34, zq [11,14,12] 15 35, zq [11,15] 16 36, zq [11,16] 17 37] [(_,_),(_,_),(_,_),(_,_),(_,_),(_,_)] (by kernel_rfl) rfl rfl ⟨zm rfl rfl rfl,zm rfl rfl rfl,zp rfl (op_ix _ _ _ _ _ _ _ _ Tryd.underlying22 sz5 (by decide) rfl rfl rfl (ix_ok hv7).1 (map_lt (ix_ok hv7).2) rfl),zp rfl (op_load_e _ _ _ _ _ _ Tryd.underlying5 rfl rfl rfl (map_get hv8)),zo rfl rfl rfl rfl,zm rfl (zb hg6_5) rfl,zr 5 rfl rfl rfl (op_move _ _ _ _ rfl rfl),zr 5 rfl rfl rfl (op_move _ _ _ _ rfl rfl),zr 5 rfl rfl rfl (op_ix _ _ _ _ _ _ _ _ Tryd.underlying22 sz5 (by decide) rfl rfl rfl (ix_ok hv9).1 (map_lt (ix_ok hv9).2) rfl),zr 5 rfl rfl rfl (op_load_e _ _ _ _ _ _ Tryd.underlying5 rfl rfl rfl (map_get hv10)),zr 5 rfl rfl rfl (op_bin _ _ _ _ _ rfl rfl rfl),zk false rfl rfl rfl,trivial⟩ ?_
        exact hl40 _ (Option.some.inj h).symm
     ·have h := cond_f hb37 h
      refine ht_exit ?_
      refine pt_x_then ?_
      refine pt_x_then ?_
      refine pt_x_in ?_
      refine pt_pick [0, 1, 2, 3] (by kernel_rfl) (es' := [(_, _), (_, _), (_, _), (_, _)]) rfl ?_
      exact hl32 _ (ho34 _ (Option.some.inj h).symm).symm
  ·intro u2 h hl3 hr4
   refine cond_some h (fun hg1_3 h => ?_) (fun hg1_3 h => ?_)
   ·refine zh hn [_, _, _, _, (12, .fl .shr 1 (List.map (Value.int .u8) a)), (13, .v (.int .i64 (a.length : Int))), (14, .v (.bool ((decide (2000 < (a.length : Int)))))), (15, .v (.bool true)), (16, .v undef), (17, .v undef), (18, .v undef), (19, .v (.bool true))] [0,1,2,3] [0,1,2,3,11] [zq [0] 4 12, zq [4] 5 13, zq [5] 6 14, zq [6] 7 15, zq [7] 8 16, zq [7] 9 17, zq [7] 10 18, zq [7] 11 19] [(_,_),(_,_),(_,_),(_,_),(_,_)] (by kernel_rfl) rfl rfl ⟨zm rfl rfl rfl,zp rfl (op_len_fl _ _ _ Tryd.underlying22 rfl (by decide) (map_len _)),zo rfl rfl rfl rfl,zm rfl (zb hg1_3) rfl,zs 3 false rfl rfl rfl rfl,zs 3 false rfl rfl rfl rfl,zs 3 false rfl rfl rfl rfl,zk true rfl rfl rfl,trivial⟩ ?_
    exact hl3 _ (Option.some.inj h).symm
   ·refine zh hn [_, _, _, _, (12, .fl .shr 1 (List.map (Value.int .u8) a)), (13, .v (.int .i64 (a.length : Int))), (14, .v (.bool ((decide (2000 < (a.length : Int)))))), (15, .v (.bool false)), (16, .fl .shr 1 (List.map (Value.int .u8) b)), (17, .v (.int .i64 (b.length : Int))), (18, .v (.bool ((decide (2000 < (b.length : Int)))))), (19, .v (.bool ((decide (2000 < (b.length : Int))))))] [0,1,2,3] [0,1,2,3,11] [zq [0] 4 12, zq [4] 5 13, zq [5] 6 14, zq [6] 7 15, zq [7,1] 8 16, zq [7,8] 9 17, zq [7,9] 10 18, zq [7,10] 11 19] [(_,_),(_,_),(_,_),(_,_),(_,_)] (by kernel_rfl) rfl rfl ⟨zm rfl rfl rfl,zp rfl (op_len_fl _ _ _ Tryd.underlying22 rfl (by decide) (map_len _)),zo rfl rfl rfl rfl,zm rfl (zb hg1_3) rfl,zr 3 rfl rfl rfl (op_move _ _ _ _ rfl rfl),zr 3 rfl rfl rfl (op_len_fl _ _ _ Tryd.underlying22 rfl (by decide) (map_len _)),zr 3 rfl rfl rfl (op_bin _ _ _ _ _ rfl rfl rfl),zk false rfl rfl rfl,trivial⟩ ?_
    exact hl3 _ (Option.some.inj h).symm

end Go.Proofs.YtgonanjdmdlkjaaDoor
