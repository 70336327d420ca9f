/-
  The model's runs are what is told in Lean.
-/
import Derived.Test.YtgonanjdmdlkjaaDoorProg
import Derived.KernelRfl
import Derived.Test.YtgonanjdmdlkjaaDoorShelf
import Derived.Test.YtgonanjdmdlkjaaDoorIdx
import Derived.Test.YtgonanjdmdlkjaaDoorOkc1
set_option linter.unusedVariables false
set_option linter.unusedSimpArgs false
namespace Go.Proofs.YtgonanjdmdlkjaaDoor
open Go.Abs Go.Abs.Sh

set_option maxHeartbeats 1000000 in
theorem ok_wherrylaw14_DotsOpen (mx : Int) (b : (List Int)) (r : Bool) (h : Sh.wherrylaw14_DotsOpen b = some r) : FnG Tryd.prog (GL mx) 5 [.fl .shr 1 (List.map (Value.int .u8) b)] (.v (.bool r)) := by
  unfold Sh.wherrylaw14_DotsOpen at h
  refine fn_okG Tryd.func5 rfl (zl rfl) rfl rfl fun g0 hn hio => ?_
  refine ht_seq ?_
  refine zh hn [_, _, (2, .v (.bool false))] [0,1] [0,1] [zq [] 2 2] [(_,_),(_,_)] (by kernel_rfl) rfl rfl ⟨za rfl rfl rfl,trivial⟩ ?_
  refine pt_then ?_
  refine ht_seq ?_
  refine ht_seq ?_
  refine ht_joinS h (fun (s2 : Bool) => [(0, .fl .shr 1 (List.map (Value.int .u8) b)), (67, .glob (GL mx)), (18, .v (.bool s2))]) ?_ ?_
  ·rintro s2 h
   refine pt_then ?_
   refine ht_cond _ rfl (fun hb6 => ?_) (fun hb6 => ?_)
   ·have h := cond_t hb6 h
    refine ht_seq ?_
    refine zh hn [_, _, _, (2, .v (.bool true))] [0,1,2] [1,3] [zq [] 3 2] [(_,_),(_,_)] (by kernel_rfl) rfl rfl ⟨za rfl rfl rfl,trivial⟩ ?_
    refine pt_then ?_
    refine ht_ret ?_
    refine pt_pick [1] (by kernel_rfl) (es' := [(_, _)]) rfl ?_
    refine pt_r_then ?_
    obtain rfl := Option.some.inj h
    exact pt_ret hio rfl (.tmp _ _ .nil) rfl rfl
   ·have h := cond_f hb6 h
    refine ht_skip ?_
    refine pt_then ?_
    refine ht_seq ?_
    obtain ⟨v7, hv7, h⟩ := bind_some h
    refine zh hn [_, _, _, (20, .fl .shr 1 (List.map (Value.int .u8) b)), (21, .tup [.fl (.own 5) 1 (List.map (Value.int .u8) v7.1), .v (.int .i64 v7.2)]), (19, .tup [.fl (.own 5) 1 (List.map (Value.int .u8) v7.1), .v (.int .i64 v7.2)]), (22, .fl (.own 5) 1 (List.map (Value.int .u8) v7.1)), (19, .tup [.any, .v (.int .i64 v7.2)]), (23, .v (.int .i64 v7.2)), (3, .fl (.own 5) 1 (List.map (Value.int .u8) v7.1)), (4, .v (.int .i64 v7.2))] [0,1,2] [0,1,9,10] [zq [0] 3 20, zq [3,1] 4 21, ⟨[], [4], [5], [(.slot 19)]⟩, ⟨[], [5], [7, 6], [(.slot 22)]⟩, zq [7] 8 23, ⟨[], [6], [9], [(.slot 3)]⟩, zq [8] 10 4] [(_,_),(_,_),(_,_),(_,_)] (by kernel_rfl) rfl rfl ⟨zm rfl rfl rfl,zp rfl (op_callG _ _ 67 11 _ _ rfl Tryd.call11 rfl rfl (fun _ h => h) (ok_dots_Stuff mx b _ hv7) rfl rfl),zp rfl (op_move_take _ _ _ _ rfl),zp rfl (op_extract_take _ _ _ _ _ rfl (zl rfl) rfl rfl (by decide) rfl),zp rfl (op_extract _ _ _ _ _ rfl rfl (zl rfl) rfl rfl),zp rfl (op_assign_take _ _ _ _ rfl),za rfl rfl rfl,trivial⟩ ?_
    refine pt_then ?_
    refine ht_seq ?_
    refine ht_seq ?_
    refine ht_joinS h (fun (s8 : Bool) => [(0, .fl .shr 1 (List.map (Value.int .u8) b)), (67, .glob (GL mx)), (3, .fl (.own 5) 1 (List.map (Value.int .u8) v7.1)), (30, .v (.bool s8))]) ?_ ?_
    ·rintro s8 h
     refine pt_then ?_
     refine ht_cond _ rfl (fun hb12 => ?_) (fun hb12 => ?_)
     ·have h := cond_t hb12 h
      refine ht_seq ?_
      refine zh hn [_, _, _, _, (2, .v (.bool false))] [0,1,2,3] [1,4] [zq [] 4 2] [(_,_),(_,_)] (by kernel_rfl) rfl rfl ⟨za rfl rfl rfl,trivial⟩ ?_
      refine pt_then ?_
      refine ht_ret ?_
      refine pt_pick [1] (by kernel_rfl) (es' := [(_, _)]) rfl ?_
      refine pt_r_then ?_
      obtain rfl := Option.some.inj h
      exact pt_ret hio rfl (.tmp _ _ .nil) rfl rfl
     ·have h := cond_f hb12 h
      refine ht_skip ?_
      refine pt_then ?_
      refine ht_seq ?_
      refine ht_frz 2 hio (es' := [(0, .fl .shr 1 (List.map (Value.int .u8) b)), (67, .glob (GL mx)), (3, .fl .ro 1 (List.map (Value.int .u8) v7.1)), (30, .v (.bool s8))]) rfl ?_
      obtain ⟨v13, hv13, h⟩ := bind_some h
      obtain ⟨v14, hv14, h⟩ := bind_some h
      obtain ⟨v15, hv15, h⟩ := bind_some h
      refine zh hn (_ :: _ :: _ :: _ :: (32, .fl .ro 1 (List.map (Value.int .u8) v7.1)) :: (33, .fl .ro 1 (List.map (Value.int .u8) v7.1)) :: (34, .v (.int .i64 (v7.1.length : Int))) :: (35, .v (.int .i64 v13)) :: (36, .fl .ro 1 (List.map (Value.int .u8) v14)) :: (37, .tup [.fl (.own 5) 1 (List.map (Value.int .u8) v15.1), .v (.int .i64 v15.2.1), .v (.int .i64 v15.2.2)]) :: (31, .tup [.fl (.own 5) 1 (List.map (Value.int .u8) v15.1), .v (.int .i64 v15.2.1), .v (.int .i64 v15.2.2)]) :: (38, .fl (.own 5) 1 (List.map (Value.int .u8) v15.1)) :: (31, .tup [.any, .v (.int .i64 v15.2.1), .v (.int .i64 v15.2.2)]) :: (39, .v (.int .i64 v15.2.1)) :: (40, .v (.int .i64 v15.2.2)) :: (5, .fl (.own 5) 1 (List.map (Value.int .u8) v15.1)) :: (6, .v (.int .i64 v15.2.1)) :: (7, .v (.int .i64 v15.2.2)) :: []) [0,1,2,3] [0,1,17] [zq [2] 4 32, zq [2] 5 33, zq [5] 6 34, zq [6] 7 35, zq [4,7] 8 36, zq [8,1] 9 37, ⟨[], [9], [10], [(.slot 31)]⟩, ⟨[], [10], [12, 11], [(.slot 38)]⟩, zq [12] 13 39, zq [12] 14 40, ⟨[], [11], [15], [(.slot 5)]⟩, zq [13] 16 6, zq [14] 17 7] [(_,_),(_,_),(_,_)] (by kernel_rfl) rfl rfl ⟨zm rfl rfl rfl,zm rfl rfl rfl,zp rfl (op_len_fl _ _ _ Tryd.underlying22 rfl (by decide) (map_len _)),zp rfl (op_bin _ _ _ _ _ rfl rfl (ibind (f := Value.int .i64) (Option.some.inj hv13))),zp rfl (op_sl _ _ _ 0 v13 _ Tryd.underlying22 sz5 rfl rfl rfl ⟨_, rfl⟩ hv14),zp rfl (op_callG _ _ 67 12 _ _ rfl Tryd.call12 rfl rfl (fun _ h => h) (ok_dots_Strip mx v14 _ hv15) rfl rfl),zp rfl (op_move_take _ _ _ _ rfl),zp rfl (op_extract_take _ _ _ _ _ rfl (zl rfl) rfl rfl (by decide) rfl),zp rfl (op_extract _ _ _ _ _ rfl rfl (zl rfl) rfl rfl),zp rfl (op_extract _ _ _ _ _ rfl rfl (zl rfl) rfl rfl),zp rfl (op_assign_take _ _ _ _ rfl),za rfl rfl rfl,za rfl rfl rfl,trivial⟩ ?_
      refine pt_then ?_
      refine ht_seq ?_
      obtain ⟨v16, hv16, h⟩ := bind_some h
      refine zh hn [_, _, _, (41, .fl .shr 1 (List.map (Value.int .u8) b)), (42, .fr .ro false 1 (List.flatten (List.map Row_int_u8.ienc v16))), (8, .fr .ro false 1 (List.flatten (List.map Row_int_u8.ienc v16)))] [0,1,2] [0,1,2,5] [zq [0] 3 41, zq [3,1] 4 42, zq [4] 5 8] [(_,_),(_,_),(_,_),(_,_)] (by kernel_rfl) rfl rfl ⟨zm rfl rfl rfl,zp rfl (op_callG _ _ 67 14 _ _ rfl Tryd.call14 rfl rfl (fun _ h => h) (ok_dots_Lines mx b _ hv16) rfl rfl),za rfl rfl rfl,trivial⟩ ?_
      refine pt_then ?_
      refine ht_seq ?_
      refine zh hn [_, _, _, _, (9, .v (.slice none 0 0))] [0,1,2,3] [0,1,2,3,4] [zq [] 4 9] [(_,_),(_,_),(_,_),(_,_),(_,_)] (by kernel_rfl) rfl rfl ⟨za rfl rfl rfl,trivial⟩ ?_
      refine pt_then ?_
      refine ht_seq ?_
      refine ht_seq ?_
      refine zh hn [_, _, _, _, _, (10, .v (.int .i64 0))] [0,1,2,3,4] [0,1,2,3,4,5] [zq [] 5 10] [(_,_),(_,_),(_,_),(_,_),(_,_),(_,_)] (by kernel_rfl) rfl rfl ⟨za rfl rfl rfl,trivial⟩ ?_
      refine pt_then ?_
      refine ht_sub (fs := [(0, .fl .shr 1 (List.map (Value.int .u8) b)), (67, .glob (GL mx)), (7, .v (.int .i64 v15.2.2)), (8, .fr .ro false 1 (List.flatten (List.map Row_int_u8.ienc v16))), (9, .fl (.own 5) 1 (List.map (Value.int .u8) [])), (10, .v (.int .i64 0))]) (.same _ (.same _ (.same _ (.same _ (.sub _ (sub_nil 5 1) rfl (.same _ .nil)))))) ?_
      refine ht_loopS h (fun ((s26, s27) : (List Int) × Int) => [(0, .fl .shr 1 (List.map (Value.int .u8) b)), (67, .glob (GL mx)), (7, .v (.int .i64 v15.2.2)), (8, .fr .ro false 1 (List.flatten (List.map Row_int_u8.ienc v16))), (9, .fl (.own 5) 1 (List.map (Value.int .u8) s26)), (10, .v (.int .i64 s27))]) (fun (s29 : (List Int)) => [(0, .fl .shr 1 (List.map (Value.int .u8) b)), (67, .glob (GL mx)), (7, .v (.int .i64 v15.2.2)), (9, .fl (.own 5) 1 (List.map (Value.int .u8) s29))]) ?_ ?_
      ·rintro s29 h
       refine pt_then ?_
       refine ht_seq ?_
       refine ht_joinS h (fun (s39 : Bool) => [(67, .glob (GL mx)), (2, .v (.bool s39))]) ?_ ?_
       ·rintro s39 h
        refine pt_then ?_
        refine ht_ret ?_
        refine pt_pick [1] (by kernel_rfl) (es' := [(_, _)]) rfl ?_
        obtain rfl := Option.some.inj h
        exact pt_ret hio rfl (.tmp _ _ .nil) rfl rfl
       ·intro u40 h hl41 hr42
        refine cond_some h (fun hg13_2 h => ?_) (fun hg13_2 h => ?_)
        ·obtain ⟨v37, hv37, h⟩ := bind_some h
         refine cond_some h (fun hg13_7 h => ?_) (fun hg13_7 h => ?_)
         ·obtain ⟨v38, hv38, h⟩ := bind_some h
          refine zh hn (_ :: _ :: _ :: _ :: (57, .v (.int .i64 v15.2.2)) :: (58, .v (.bool (v15.2.2 == 9))) :: (59, .v (.bool true)) :: (60, .fl (.own 5) 1 (List.map (Value.int .u8) s29)) :: (61, .fl .shr 1 (List.map (Value.int .u8) b)) :: (62, .v (.bool v37)) :: (63, .v (.bool v37)) :: (64, .v (.bool true)) :: (65, .v (.bool v38)) :: (66, .v (.bool v38)) :: (2, .v (.bool v38)) :: []) [0,1,2,3] [1,14] [zq [2] 4 57, zq [4] 5 58, zq [5] 6 59, ⟨[6], [3], [7], [(.slot 60)]⟩, zq [6,0] 8 61, zq [6,7,8] 9 62, zq [6,9] 10 63, zq [10] 11 64, zq [11,1] 12 65, zq [11,12] 13 66, zq [13] 14 2] [(_,_),(_,_)] (by kernel_rfl) rfl rfl ⟨zm rfl rfl rfl,zo rfl rfl rfl rfl,zm rfl (zb hg13_2) rfl,zr 2 rfl rfl rfl (op_move_take _ _ _ _ rfl),zr 2 rfl rfl rfl (op_move _ _ _ _ rfl rfl),zr 2 rfl rfl rfl (op_call _ _ 18 _ _ rfl Tryd.call18 rfl (ok_wherrykeep_Bytes s29 b _ hv37) rfl rfl),zk true rfl rfl rfl,zm rfl (zb hg13_7) rfl,zr 7 rfl rfl rfl (op_callG _ _ 67 21 _ _ rfl Tryd.call21 rfl rfl (fun _ h => h) (ok_wherrylaw14_wakes mx  _ hv38) rfl rfl),zk true rfl rfl rfl,za rfl rfl rfl,trivial⟩ ?_
          exact hl41 _ (Option.some.inj h).symm
         ·refine zh hn (_ :: _ :: _ :: _ :: (57, .v (.int .i64 v15.2.2)) :: (58, .v (.bool (v15.2.2 == 9))) :: (59, .v (.bool true)) :: (60, .fl (.own 5) 1 (List.map (Value.int .u8) s29)) :: (61, .fl .shr 1 (List.map (Value.int .u8) b)) :: (62, .v (.bool v37)) :: (63, .v (.bool v37)) :: (64, .v (.bool false)) :: (65, .v undef) :: (66, .v (.bool false)) :: (2, .v (.bool false)) :: []) [0,1,2,3] [1,14] [zq [2] 4 57, zq [4] 5 58, zq [5] 6 59, ⟨[6], [3], [7], [(.slot 60)]⟩, zq [6,0] 8 61, zq [6,7,8] 9 62, zq [6,9] 10 63, zq [10] 11 64, zq [11] 12 65, zq [11] 13 66, zq [13] 14 2] [(_,_),(_,_)] (by kernel_rfl) rfl rfl ⟨zm rfl rfl rfl,zo rfl rfl rfl rfl,zm rfl (zb hg13_2) rfl,zr 2 rfl rfl rfl (op_move_take _ _ _ _ rfl),zr 2 rfl rfl rfl (op_move _ _ _ _ rfl rfl),zr 2 rfl rfl rfl (op_call _ _ 18 _ _ rfl Tryd.call18 rfl (ok_wherrykeep_Bytes s29 b _ hv37) rfl rfl),zk true rfl rfl rfl,zm rfl (zb hg13_7) rfl,zs 7 true rfl rfl rfl rfl,zk false rfl rfl rfl,za rfl rfl rfl,trivial⟩ ?_
          exact hl41 _ (Option.some.inj h).symm
        ·refine zh hn (_ :: _ :: _ :: _ :: (57, .v (.int .i64 v15.2.2)) :: (58, .v (.bool (v15.2.2 == 9))) :: (59, .v (.bool false)) :: (60, .v undef) :: (61, .v undef) :: (62, .v undef) :: (63, .v (.bool false)) :: (64, .v (.bool false)) :: (65, .v undef) :: (66, .v (.bool false)) :: (2, .v (.bool false)) :: []) [0,1,2,3] [1,14] [zq [2] 4 57, zq [4] 5 58, zq [5] 6 59, zq [6] 7 60, zq [6] 8 61, zq [6] 9 62, zq [6] 10 63, zq [10] 11 64, zq [11] 12 65, zq [11] 13 66, zq [13] 14 2] [(_,_),(_,_)] (by kernel_rfl) rfl rfl ⟨zm rfl rfl rfl,zo rfl rfl rfl rfl,zm rfl (zb hg13_2) rfl,zs 2 true rfl rfl rfl rfl,zs 2 true rfl rfl rfl rfl,zs 2 true rfl rfl rfl rfl,zk false rfl rfl rfl,zm rfl rfl rfl,zs 7 true rfl rfl rfl rfl,zk false rfl rfl rfl,za rfl rfl rfl,trivial⟩ ?_
         exact hl41 _ (Option.some.inj h).symm
      ·rintro u30 hl31 hr32 ⟨s26, s27⟩ rr35 h ho33
       refine ht_seq ?_
       refine ht_seq ?_
       refine zh hn [_, _, _, _, _, _, (43, .v (.int .i64 s27)), (44, .fr .ro false 1 (List.flatten (List.map Row_int_u8.ienc v16))), (45, .v (.int .i64 (v16.length : Int))), (46, .v (.bool ((decide (s27 < (v16.length : Int))))))] [0,1,2,3,4,5] [0,1,2,3,4,5,9] [zq [5] 6 43, zq [3] 7 44, zq [7] 8 45, zq [6,8] 9 46] [(_,_),(_,_),(_,_),(_,_),(_,_),(_,_),(_,_)] (by kernel_rfl) rfl rfl ⟨zm rfl rfl rfl,zm rfl rfl rfl,zp rfl (op_len_fr _ _ _ Tryd.underlying29 rfl (by decide) (gflat_len Row_int_u8.ilen _)),zo rfl rfl rfl rfl,trivial⟩ ?_
       refine pt_then ?_
       refine ht_cond _ rfl (fun hb36 => ?_) (fun hb36 => ?_)
       ·have h := cond_t hb36 h
        refine ht_skip ?_
        refine pt_then ?_
        refine ht_seq ?_
        refine ht_block ?_
        obtain ⟨v18, hv18, h⟩ := bind_some h
        obtain ⟨v19, hv19, h⟩ := bind_some h
        obtain ⟨v20, hv20, h⟩ := bind_some h
        obtain ⟨v21, hv21, h⟩ := bind_some h
        refine zh hn (_ :: _ :: _ :: _ :: _ :: _ :: _ :: (49, .fl (.own 5) 1 (List.map (Value.int .u8) s26)) :: (50, .fr .ro false 1 (List.flatten (List.map Row_int_u8.ienc v16))) :: (51, .v (.int .i64 s27)) :: (52, .eref (.slot 50) (v18 * 1)) :: (53, .fl .ro 1 (List.map (Value.int .u8) v19)) :: (54, .fl (.own 5) 1 (List.map (Value.int .u8) v20)) :: (49, .any) :: (55, .fl (.own 5) 1 (List.map (Value.int .u8) [13, 10])) :: (56, .fl (.own 5) 1 (List.map (Value.int .u8) v21)) :: (54, .any) :: (9, .fl (.own 5) 1 (List.map (Value.int .u8) v21)) :: []) [0,1,2,3,4,5,6] [0,1,2,3,5,17] [⟨[], [4], [7], [(.slot 49)]⟩, zq [3] 8 50, zq [5] 9 51, zq [8,9] 10 52, zq [10,8] 11 53, ⟨[11], [7], [13, 12], [(.slot 54)]⟩, zq [] 14 55, ⟨[14], [12], [16, 15], [(.slot 56)]⟩, ⟨[], [15], [17], [(.slot 9)]⟩] [(_,_),(_,_),(_,_),(_,_),(_,_),(_,_)] (by kernel_rfl) rfl rfl ⟨zp rfl (op_move_take _ _ _ _ rfl),zm rfl rfl rfl,zm rfl rfl rfl,zp rfl (op_ix_fr _ _ _ _ _ _ _ _ Tryd.underlying29 sz22 (by decide) rfl rfl rfl (ix_ok hv18).1 (gflat_lt Row_int_u8.ilen (ix_ok hv18).2) rfl),zp rfl (op_load_fr _ _ _ _ _ _ _ Tryd.underlying22 rfl rfl rfl (gflat_cell0 Row_int_u8.ilen hv19 rfl) (.fl _ _ rfl)),zp rfl (op_app _ _ _ _ _ el22 rfl rfl (map_len _) (map_len _) hv20 ((List.map_append).symm.trans (congrArg (List.map _) (app_eq hv20)))),zp rfl (op_buildSlice _ _ 1 (.int .u8 0) (List.map (Value.int .u8) [13, 10]) [(0, .int .u8 13), (1, .int .u8 10)] Tryd.underlying22 sz5 zr5 (fun _ V w o a hv hes => by simp only [List.map_toArray, List.map_cons, List.map_nil]; try rfl) (litfill (by simp [Instr.fill, Value.cells]; rfl) (by simp [List.range, List.range.loop] <;> rfl)) (by simp [Value.oneCell']) rfl (by decide) (by decide) (by decide)),zp rfl (op_app _ _ _ _ _ el22 rfl rfl (map_len _) (map_len _) hv21 ((List.map_append).symm.trans (congrArg (List.map _) (app_eq hv21)))),zp rfl (op_assign_take _ _ _ _ rfl),trivial⟩ ?_
        refine pt_inb ?_
        refine pt_then ?_
        obtain ⟨v22, hv22, h⟩ := bind_some h
        refine zh hn [_, _, _, _, _, _, (47, .v (.int .i64 s27)), (48, .v (.int .i64 v22)), (10, .v (.int .i64 v22))] [0,1,2,3,4,5] [0,1,2,3,5,8] [zq [4] 6 47, zq [6] 7 48, ⟨[7], [4], [8], [(.slot 10)]⟩] [(_,_),(_,_),(_,_),(_,_),(_,_),(_,_)] (by kernel_rfl) rfl rfl ⟨zm rfl rfl rfl,zp rfl (op_bin _ _ _ _ _ rfl rfl (ibind (f := Value.int .i64) (Option.some.inj hv22))),zp rfl (LOp.drop [_] (op_assign _ _ _ _ rfl rfl)),trivial⟩ ?_
        exact pt_next _ (Option.some.inj h).symm rfl
       ·have h := cond_f hb36 h
        refine ht_exit ?_
        refine pt_x_then ?_
        refine pt_x_then ?_
        refine pt_x_in ?_
        refine pt_pick [0, 1, 2, 4] (by kernel_rfl) (es' := [(_, _), (_, _), (_, _), (_, _)]) rfl ?_
        exact hl31 _ (ho33 _ (Option.some.inj h).symm).symm
    ·intro u9 h hl10 hr11
     refine cond_some h (fun hg4_2 h => ?_) (fun hg4_2 h => ?_)
     ·refine zh hn [_, _, _, _, (24, .v (.int .i64 v7.2)), (25, .v (.bool (v7.2 != 0))), (26, .v (.bool true)), (27, .v undef), (28, .v undef), (29, .v undef), (30, .v (.bool true))] [0,1,2,3] [0,1,2,10] [zq [3] 4 24, zq [4] 5 25, zq [5] 6 26, zq [6] 7 27, zq [6] 8 28, zq [6] 9 29, zq [6] 10 30] [(_,_),(_,_),(_,_),(_,_)] (by kernel_rfl) rfl rfl ⟨zm rfl rfl rfl,zo rfl rfl rfl rfl,zm rfl (zb hg4_2) rfl,zs 2 false rfl rfl rfl rfl,zs 2 false rfl rfl rfl rfl,zs 2 false rfl rfl rfl rfl,zk true rfl rfl rfl,trivial⟩ ?_
      exact hl10 _ (Option.some.inj h).symm
     ·refine zh hn [_, _, _, _, (24, .v (.int .i64 v7.2)), (25, .v (.bool (v7.2 != 0))), (26, .v (.bool false)), (27, .same (.slot 3)), (28, .v (.int .i64 (v7.1.length : Int))), (29, .v (.bool ((decide ((v7.1.length : Int) < 3))))), (30, .v (.bool ((decide ((v7.1.length : Int) < 3)))))] [0,1,2,3] [0,1,2,10] [zq [3] 4 24, zq [4] 5 25, zq [5] 6 26, zq [6,2] 7 27, zq [6,7,2] 8 28, zq [6,8] 9 29, zq [6,9] 10 30] [(_,_),(_,_),(_,_),(_,_)] (by kernel_rfl) rfl rfl ⟨zm rfl rfl rfl,zo rfl rfl rfl rfl,zm rfl (zb hg4_2) rfl,zr 2 rfl rfl rfl (op_move _ _ _ _ rfl rfl),zr 2 rfl rfl rfl (op_len_fl _ _ _ Tryd.underlying22 rfl (by decide) (map_len _)),zr 2 rfl rfl rfl (op_bin _ _ _ _ _ rfl rfl rfl),zk false rfl rfl rfl,trivial⟩ ?_
      exact hl10 _ (Option.some.inj h).symm
  ·intro u3 h hl4 hr5
   refine cond_some h (fun hg1_3 h => ?_) (fun hg1_3 h => ?_)
   ·refine zh hn [_, _, (11, .fl .shr 1 (List.map (Value.int .u8) b)), (12, .v (.int .i64 (b.length : Int))), (13, .v (.bool ((decide (2000 < (b.length : Int)))))), (14, .v (.bool true)), (15, .v undef), (16, .v undef), (17, .v undef), (18, .v (.bool true))] [0,1] [0,1,9] [zq [0] 2 11, zq [2] 3 12, zq [3] 4 13, zq [4] 5 14, zq [5] 6 15, zq [5] 7 16, zq [5] 8 17, zq [5] 9 18] [(_,_),(_,_),(_,_)] (by kernel_rfl) rfl rfl ⟨zm rfl rfl rfl,zp rfl (op_len_fl _ _ _ Tryd.underlying22 rfl (by decide) (map_len _)),zo rfl rfl rfl rfl,zm rfl (zb hg1_3) rfl,zs 3 false rfl rfl rfl rfl,zs 3 false rfl rfl rfl rfl,zs 3 false rfl rfl rfl rfl,zk true rfl rfl rfl,trivial⟩ ?_
    exact hl4 _ (Option.some.inj h).symm
   ·obtain ⟨v1, hv1, h⟩ := bind_some h
    refine zh hn [_, _, (11, .fl .shr 1 (List.map (Value.int .u8) b)), (12, .v (.int .i64 (b.length : Int))), (13, .v (.bool ((decide (2000 < (b.length : Int)))))), (14, .v (.bool false)), (15, .fl .shr 1 (List.map (Value.int .u8) b)), (16, .v (.bool v1)), (17, .v (.bool (!v1))), (18, .v (.bool (!v1)))] [0,1] [0,1,9] [zq [0] 2 11, zq [2] 3 12, zq [3] 4 13, zq [4] 5 14, zq [5,0] 6 15, zq [5,6] 7 16, zq [5,7] 8 17, zq [5,8] 9 18] [(_,_),(_,_),(_,_)] (by kernel_rfl) rfl rfl ⟨zm rfl rfl rfl,zp rfl (op_len_fl _ _ _ Tryd.underlying22 rfl (by decide) (map_len _)),zo rfl rfl rfl rfl,zm rfl (zb hg1_3) rfl,zr 3 rfl rfl rfl (op_move _ _ _ _ rfl rfl),zr 3 rfl rfl rfl (op_call _ _ 16 _ _ rfl Tryd.call16 rfl (ok_wherryref11_Body b _ hv1) rfl rfl),zr 3 rfl rfl rfl (op_un _ _ _ _ rfl rfl),zk false rfl rfl rfl,trivial⟩ ?_
    exact hl4 _ (Option.some.inj h).symm

end Go.Proofs.YtgonanjdmdlkjaaDoor
