/-
  The model's runs are what is told in Lean.
-/
import Derived.Test.YthfmdofkkkpbkaaGreatDoorProg
import Derived.KernelRfl
import Derived.Test.YthfmdofkkkpbkaaGreatDoorShelf
import Derived.Test.YthfmdofkkkpbkaaGreatDoorOkc2
set_option linter.unusedVariables false
set_option linter.unusedSimpArgs false
namespace Go.Proofs.YthfmdofkkkpbkaaGreatDoor
open Go.Abs Go.Abs.Sh
set_option maxHeartbeats 1000000 in
theorem ok_verb_format (mx : Int) (c : T_Cmd) (r : ByteArray) (h : Sh.verb_format c = some r) : FnG Tryz.prog (GL mx) 29 [.agg [.v (.int .i64 c.Kind), .v (.string c.Text), .v (.bool c.Path.Null), .v (.string c.Path.Local), .v (.string c.Path.Domain), .fl .shr 2 (List.flatten (List.map T_Param.enc c.Params))]] (.v (.string r)) := by
  unfold Sh.verb_format at h
  refine fn_okG Tryz.func29 rfl (zl rfl) rfl rfl fun g0 hn hio => ?_
  refine ht_seq ?_
  refine zh hn [_, _, (1, .box 26 [.v (.int .i64 c.Kind), .v (.string c.Text), .v (.bool c.Path.Null), .v (.string c.Path.Local), .v (.string c.Path.Domain), .fl .shr 2 (List.flatten (List.map T_Param.enc c.Params))]), (2, .v (.string (⟨#[]⟩ : ByteArray)))] [0,1] [1,2] [zq [0] 2 1, zq [] 3 2] [(_,_),(_,_)] (by kernel_rfl) rfl rfl ⟨zp rfl (op_box _ _ _ _ rfl rfl rfl),za rfl rfl rfl,trivial⟩ ?_
  refine pt_then ?_
  refine ht_seq ?_
  refine ht_seq ?_
  refine zh hn [_, _, (8, .ptr 1 0), (9, .v (.int .i64 c.Kind))] [0,1] [0,1,3] [zq [1] 2 8, zq [2,1] 3 9] [(_,_),(_,_),(_,_)] (by kernel_rfl) rfl rfl ⟨zp rfl (op_fieldAddr _ _ _ _ 1 0 _ Tryz.underlying26 rfl sz3 rfl rfl (by decide)),zp rfl (op_load _ _ _ _ _ _ Tryz.underlying3 rfl rfl rfl (zl rfl) rfl rfl rfl),trivial⟩ ?_
  refine pt_then ?_
  refine ht_block ?_
  refine ht_seq ?_
  refine zh hn [_, _, _, (11, .v (.bool (c.Kind == 1))), (10, .v (.bool (c.Kind == 1)))] [0,1,2] [0,1,2,4] [zq [2] 3 11, zq [3] 4 10] [(_,_),(_,_),(_,_),(_,_)] (by kernel_rfl) rfl rfl ⟨zo rfl rfl rfl rfl,za rfl rfl rfl,trivial⟩ ?_
  refine pt_then ?_
  refine ht_cond _ rfl (fun hb1 => ?_) (fun hb1 => ?_)
  ·have h := cond_t hb1 h
   refine ht_seq ?_
   obtain ⟨v2, hv2, h⟩ := bind_some h
   refine zh hn [_, _, _, _, (12, .ptr 1 1), (13, .v (.string c.Text)), (14, .v (.string v2)), (2, .v (.string v2))] [0,1,2,3] [0,7] [zq [1] 4 12, zq [4,1] 5 13, zq [5] 6 14, zq [6] 7 2] [(_,_),(_,_)] (by kernel_rfl) rfl rfl ⟨zp rfl (op_fieldAddr _ _ _ _ 1 0 _ Tryz.underlying26 rfl sz9 rfl rfl (by decide)),zp rfl (op_load _ _ _ _ _ _ Tryz.underlying9 rfl rfl rfl (zl rfl) rfl rfl rfl),zp rfl (op_bin _ _ _ _ _ rfl rfl (cat_ok hv2)),za rfl rfl rfl,trivial⟩ ?_
   refine pt_then ?_
   refine ht_ret ?_
   refine pt_pick [1] (by kernel_rfl) (es' := [(_, _)]) rfl ?_
   refine pt_r_in ?_
   refine pt_r_then ?_
   obtain rfl := Option.some.inj h
   exact pt_ret hio rfl (.tmp _ _ .nil) rfl rfl
  ·have h := cond_f hb1 h
   refine ht_seq ?_
   refine ht_joinS h (fun (s4 : Bool) => [(75, .glob (GL mx)), (1, .box 26 [.v (.int .i64 c.Kind), .v (.string c.Text), .v (.bool c.Path.Null), .v (.string c.Path.Local), .v (.string c.Path.Domain), .fl .shr 2 (List.flatten (List.map T_Param.enc c.Params))]), (9, .v (.int .i64 c.Kind)), (15, .v (.bool s4))]) ?_ ?_
   ·rintro s4 h
    refine pt_then ?_
    refine ht_cond _ rfl (fun hb9 => ?_) (fun hb9 => ?_)
    ·have h := cond_t hb9 h
     refine ht_seq ?_
     obtain ⟨v10, hv10, h⟩ := bind_some h
     refine zh hn [_, _, _, _, (19, .ptr 1 2), (20, .agg [.v (.bool c.Path.Null), .v (.string c.Path.Local), .v (.string c.Path.Domain)]), (21, .tup [.v (.string v10.1), .v (.int .i64 v10.2)]), (18, .tup [.v (.string v10.1), .v (.int .i64 v10.2)]), (22, .v (.string v10.1)), (23, .v (.int .i64 v10.2)), (3, .v (.string v10.1)), (4, .v (.int .i64 v10.2))] [0,1,2,3] [0,1,10] [zq [1] 4 19, zq [4,1] 5 20, zq [5,0] 6 21, ⟨[], [6], [7], [(.slot 18)]⟩, zq [7] 8 22, zq [7] 9 23, zq [8] 10 3, zq [9] 11 4] [(_,_),(_,_),(_,_)] (by kernel_rfl) rfl rfl ⟨zp rfl (op_fieldAddr _ _ _ _ 1 0 _ Tryz.underlying26 rfl sz23 rfl rfl (by decide)),zp rfl (op_loadA _ _ _ _ _ _ _ Tryz.underlying23 rfl sz23 rfl rfl (zl rfl) rfl rfl),zp rfl (op_callG _ _ 75 44 _ _ rfl Tryz.call44 rfl rfl (fun _ h => h) (ok_path_Text mx (T_Path.mk c.Path.Null c.Path.Local c.Path.Domain) _ hv10) rfl rfl),zp rfl (op_move_take _ _ _ _ rfl),zp rfl (op_extract _ _ _ _ _ rfl rfl (zl rfl) rfl rfl),zp rfl (op_extract _ _ _ _ _ rfl rfl (zl rfl) rfl rfl),za rfl rfl rfl,za rfl rfl rfl,trivial⟩ ?_
     refine pt_then ?_
     refine ht_seq ?_
     refine zh hn [_, _, _, (5, .hid (bldT 71 5 false (List.map (Value.int .u8) ([] : List Int))))] [0,1,2] [0,1,2,3] [zq [] 3 5] [(_,_),(_,_),(_,_),(_,_)] (by kernel_rfl) rfl rfl ⟨zp rfl (LOp.bld0 (op_alloc _ _ zr71)),trivial⟩ ?_
     refine pt_then ?_
     refine ht_seq ?_
     obtain ⟨v11, hv11, h⟩ := bind_some h
     obtain ⟨v12, hv12, h⟩ := bind_some h
     obtain ⟨v13, hv13, h⟩ := bind_some h
     refine zh hn [_, _, _, _, (24, .ptr 1 0), (25, .v (.int .i64 c.Kind)), (26, .v (.string v11)), (27, .v (.string v10.1)), (28, .v (.string v12)), (29, .tup [.v (.int .i64 (v12.size : Int)), .v (.nilIface)]), (5, .hid (bldT 71 5 false (List.map (Value.int .u8) v13)))] [0,1,2,3] [0,1,10] [zq [1] 4 24, zq [4,1] 5 25, zq [5] 6 26, zq [2] 7 27, zq [6,7] 8 28, ⟨[8], [3], [10, 9], [(.slot 29)]⟩] [(_,_),(_,_),(_,_)] (by kernel_rfl) rfl rfl ⟨zp rfl (op_fieldAddr _ _ _ _ 1 0 _ Tryz.underlying26 rfl sz3 rfl rfl (by decide)),zp rfl (op_load _ _ _ _ _ _ Tryz.underlying3 rfl rfl rfl (zl rfl) rfl rfl rfl),zp rfl (op_call _ _ 46 _ _ rfl Tryz.call46 rfl (ok_verb_opening c.Kind _ hv11) rfl rfl),zm rfl rfl rfl,zp rfl (op_bin _ _ _ _ _ rfl rfl (cat_ok hv12)),zp rfl (op_callPS _ _ _ _ 29 45 [.tmp 5] [.tmp 28] _ _ _ rfl Tryz.call45 rfl rfl rfl (ok_strings_Builder_WriteString ([] : List Int) v12 _ hv13) (zl rfl) rfl rfl rfl rfl rfl rfl rfl),trivial⟩ ?_
     refine pt_then ?_
     refine ht_seq ?_
     refine ht_seq ?_
     refine zh hn [_, _, _, (30, .ptr 1 5), (31, .fl .shr 2 (List.flatten (List.map T_Param.enc c.Params))), (32, .v (.int .i64 (c.Params.length : Int))), (33, .v (.int .i64 0))] [0,1,2] [0,2,4,5,6] [zq [1] 3 30, zq [3,1] 4 31, zq [4] 5 32, zq [] 6 33] [(_,_),(_,_),(_,_),(_,_),(_,_)] (by kernel_rfl) rfl rfl ⟨zp rfl (op_fieldAddr _ _ _ _ 1 0 _ Tryz.underlying26 rfl sz24 rfl rfl (by decide)),zp rfl (op_load _ _ _ _ _ _ Tryz.underlying24 rfl rfl rfl (zl rfl) rfl rfl rfl),zp rfl (op_len_fl _ _ _ Tryz.underlying24 rfl (by decide) (flat_len T_Param.len _)),zm rfl rfl rfl,trivial⟩ ?_
     refine pt_then ?_
     refine ht_loopS h (fun ((s25, s26) : (List Int) × Int) => [(75, .glob (GL mx)), (5, .hid (bldT 71 5 false (List.map (Value.int .u8) s25))), (31, .fl .shr 2 (List.flatten (List.map T_Param.enc c.Params))), (32, .v (.int .i64 (c.Params.length : Int))), (33, .v (.int .i64 s26))]) (fun (s28 : (List Int)) => [(75, .glob (GL mx)), (5, .hid (bldT 71 5 false (List.map (Value.int .u8) s28)))]) ?_ ?_
     ·rintro s28 h
      refine pt_then ?_
      refine ht_seq ?_
      obtain ⟨v36, hv36, h⟩ := bind_some h
      refine zh hn [_, _, (46, .v (.string v36)), (2, .v (.string v36))] [0,1] [0,3] [⟨[], [1], [2], [(.slot 46)]⟩, zq [2] 3 2] [(_,_),(_,_)] (by kernel_rfl) rfl rfl ⟨zp rfl (op_callPS _ _ _ _ 46 47 [.tmp 5] [] _ _ _ rfl Tryz.call47 rfl rfl rfl (ok_strings_Builder_String s28 _ hv36) (zl rfl) rfl rfl rfl rfl rfl rfl rfl),za rfl rfl rfl,trivial⟩ ?_
      refine pt_then ?_
      refine ht_ret ?_
      refine pt_pick [1] (by kernel_rfl) (es' := [(_, _)]) rfl ?_
      refine pt_r_in ?_
      refine pt_r_then ?_
      obtain rfl := Option.some.inj h
      exact pt_ret hio rfl (.tmp _ _ .nil) rfl rfl
     ·rintro u29 hl30 hr31 ⟨s25, s26⟩ rr34 h ho32
      refine ht_seq ?_
      refine zh hn [_, _, _, _, _, (34, .v (.bool ((decide (s26 < (c.Params.length : Int))))))] [0,1,2,3,4] [0,1,2,3,4,5] [zq [4,3] 5 34] [(_,_),(_,_),(_,_),(_,_),(_,_),(_,_)] (by kernel_rfl) rfl rfl ⟨zo rfl rfl rfl rfl,trivial⟩ ?_
      refine pt_then ?_
      refine ht_seq ?_
      refine ht_cond _ rfl (fun hb35 => ?_) (fun hb35 => ?_)
      ·have h := cond_t hb35 h
       refine ht_skip ?_
       refine pt_then ?_
       refine ht_seq ?_
       refine ht_block ?_
       refine ht_seq ?_
       obtain ⟨v15, hv15, h⟩ := bind_some h
       obtain ⟨v16, hv16, h⟩ := bind_some h
       refine zh hn [_, _, _, _, _, _, (35, .eref (.slot 31) (v15 * 2)), (36, .agg [.v (.string v16.Key), .v (.string v16.Val)]), (7, .box 47 [.v (.string (⟨#[]⟩ : ByteArray)), .v (.string (⟨#[]⟩ : ByteArray))]), (7, .box 47 [.v (.string v16.Key), .v (.string v16.Val)])] [0,1,2,3,4,5] [0,1,2,3,4,9] [zq [2,4] 6 35, zq [6,2] 7 36, zq [] 8 7, ⟨[7], [8], [9], [.cell 7 0, .cell 7 1]⟩] [(_,_),(_,_),(_,_),(_,_),(_,_),(_,_)] (by kernel_rfl) rfl rfl ⟨zp rfl (op_ix _ _ _ _ _ _ _ _ Tryz.underlying24 sz47 (by decide) rfl rfl rfl (ix_ok hv15).1 (flat_lt T_Param.len (ix_ok hv15).2) rfl),zp rfl (op_load_eA _ _ _ _ _ _ _ Tryz.underlying47 rfl sz47 rfl rfl (flat_get T_Param.len hv16) rfl (by decide)),zp rfl (op_alloc _ _ zr47),zp rfl (op_store _ _ _ _ _ _ _ _ sz47 rfl rfl rfl rfl (zl rfl) rfl rfl),trivial⟩ ?_
       refine pt_then ?_
       obtain ⟨v17, hv17, h⟩ := bind_some h
       obtain ⟨v18, hv18, h⟩ := bind_some h
       obtain ⟨v19, hv19, h⟩ := bind_some h
       obtain ⟨v20, hv20, h⟩ := bind_some h
       refine zh hn (_ :: _ :: _ :: _ :: _ :: _ :: (37, .ptr 7 0) :: (38, .v (.string v16.Key)) :: (39, .v (.string v17)) :: (40, .v (.string v18)) :: (41, .ptr 7 1) :: (42, .v (.string v16.Val)) :: (43, .v (.string v19)) :: (44, .tup [.v (.int .i64 (v19.size : Int)), .v (.nilIface)]) :: (5, .hid (bldT 71 5 false (List.map (Value.int .u8) v20))) :: []) [0,1,2,3,4,5] [0,14,2,3,4] [zq [5] 6 37, zq [6,5] 7 38, zq [7] 8 39, zq [8] 9 40, zq [5] 10 41, zq [10,5] 11 42, zq [9,11] 12 43, ⟨[12], [1], [14, 13], [(.slot 44)]⟩] [(_,_),(_,_),(_,_),(_,_),(_,_)] (by kernel_rfl) rfl rfl ⟨zp rfl (op_fieldAddr _ _ _ _ 7 0 _ Tryz.underlying47 rfl sz9 rfl rfl (by decide)),zp rfl (op_load _ _ _ _ _ _ Tryz.underlying9 rfl rfl rfl (zl rfl) rfl rfl rfl),zp rfl (op_bin _ _ _ _ _ rfl rfl (cat_ok hv17)),zp rfl (op_bin _ _ _ _ _ rfl rfl (cat_ok hv18)),zp rfl (op_fieldAddr _ _ _ _ 7 0 _ Tryz.underlying47 rfl sz9 rfl rfl (by decide)),zp rfl (op_load _ _ _ _ _ _ Tryz.underlying9 rfl rfl rfl (zl rfl) rfl rfl rfl),zp rfl (op_bin _ _ _ _ _ rfl rfl (cat_ok hv19)),zp rfl (op_callPS _ _ _ _ 44 45 [.tmp 5] [.tmp 43] _ _ _ rfl Tryz.call45 rfl rfl rfl (ok_strings_Builder_WriteString s25 v19 _ hv20) (zl rfl) rfl rfl rfl rfl rfl rfl rfl),trivial⟩ ?_
       refine pt_inb ?_
       refine pt_then ?_
       obtain ⟨v21, hv21, h⟩ := bind_some h
       refine zh hn [_, _, _, _, _, (45, .v (.int .i64 v21)), (33, .v (.int .i64 v21))] [0,1,2,3,4] [0,1,2,3,6] [zq [4] 5 45, ⟨[5], [4], [6], [(.slot 33)]⟩] [(_,_),(_,_),(_,_),(_,_),(_,_)] (by kernel_rfl) rfl rfl ⟨zp rfl (op_bin _ _ _ _ _ rfl rfl (ibind (f := Value.int .i64) (Option.some.inj hv21))),zp rfl (LOp.drop [_] (op_move _ _ _ _ rfl rfl)),trivial⟩ ?_
       exact pt_next _ (Option.some.inj h).symm rfl
      ·have h := cond_f hb35 h
       refine ht_exit ?_
       refine pt_x_then ?_
       refine pt_x_then ?_
       refine pt_x_in ?_
       refine pt_pick [0, 1] (by kernel_rfl) (es' := [(_, _), (_, _)]) rfl ?_
       exact hl30 _ (ho32 _ (Option.some.inj h).symm).symm
    ·have h := cond_f hb9 h
     refine ht_seq ?_
     refine zh hn [_, _, _, _, (48, .v (.bool (c.Kind == 4))), (47, .v (.bool (c.Kind == 4)))] [0,1,2,3] [0,1,2,5] [zq [2] 4 48, zq [4] 5 47] [(_,_),(_,_),(_,_),(_,_)] (by kernel_rfl) rfl rfl ⟨zo rfl rfl rfl rfl,za rfl rfl rfl,trivial⟩ ?_
     refine pt_then ?_
     refine ht_cond _ rfl (fun hb37 => ?_) (fun hb37 => ?_)
     ·have h := cond_t hb37 h
      refine ht_seq ?_
      refine zh hn [_, _, _, _, (2, .v (.string (⟨#[68, 65, 84, 65]⟩ : ByteArray)))] [0,1,2,3] [0,4] [zq [] 4 2] [(_,_),(_,_)] (by kernel_rfl) rfl rfl ⟨za rfl rfl rfl,trivial⟩ ?_
      refine pt_then ?_
      refine ht_ret ?_
      refine pt_pick [1] (by kernel_rfl) (es' := [(_, _)]) rfl ?_
      refine pt_r_in ?_
      refine pt_r_then ?_
      obtain rfl := Option.some.inj h
      exact pt_ret hio rfl (.tmp _ _ .nil) rfl rfl
     ·have h := cond_f hb37 h
      refine ht_seq ?_
      refine zh hn [_, _, _, _, (50, .v (.bool (c.Kind == 5))), (49, .v (.bool (c.Kind == 5)))] [0,1,2,3] [0,1,2,5] [zq [2] 4 50, zq [4] 5 49] [(_,_),(_,_),(_,_),(_,_)] (by kernel_rfl) rfl rfl ⟨zo rfl rfl rfl rfl,za rfl rfl rfl,trivial⟩ ?_
      refine pt_then ?_
      refine ht_cond _ rfl (fun hb38 => ?_) (fun hb38 => ?_)
      ·have h := cond_t hb38 h
       refine ht_seq ?_
       refine zh hn [_, _, _, _, (2, .v (.string (⟨#[82, 83, 69, 84]⟩ : ByteArray)))] [0,1,2,3] [0,4] [zq [] 4 2] [(_,_),(_,_)] (by kernel_rfl) rfl rfl ⟨za rfl rfl rfl,trivial⟩ ?_
       refine pt_then ?_
       refine ht_ret ?_
       refine pt_pick [1] (by kernel_rfl) (es' := [(_, _)]) rfl ?_
       refine pt_r_in ?_
       refine pt_r_then ?_
       obtain rfl := Option.some.inj h
       exact pt_ret hio rfl (.tmp _ _ .nil) rfl rfl
      ·have h := cond_f hb38 h
       refine ht_seq ?_
       refine zh hn [_, _, _, _, (52, .v (.bool (c.Kind == 6))), (51, .v (.bool (c.Kind == 6)))] [0,1,2,3] [0,1,2,5] [zq [2] 4 52, zq [4] 5 51] [(_,_),(_,_),(_,_),(_,_)] (by kernel_rfl) rfl rfl ⟨zo rfl rfl rfl rfl,za rfl rfl rfl,trivial⟩ ?_
       refine pt_then ?_
       refine ht_cond _ rfl (fun hb39 => ?_) (fun hb39 => ?_)
       ·have h := cond_t hb39 h
        refine ht_seq ?_
        obtain ⟨v40, hv40, h⟩ := bind_some h
        refine zh hn [_, _, _, _, (53, .ptr 1 1), (54, .v (.string c.Text)), (55, .v (.string v40)), (2, .v (.string v40))] [0,1,2,3] [0,7] [zq [1] 4 53, zq [4,1] 5 54, zq [5] 6 55, zq [6] 7 2] [(_,_),(_,_)] (by kernel_rfl) rfl rfl ⟨zp rfl (op_fieldAddr _ _ _ _ 1 0 _ Tryz.underlying26 rfl sz9 rfl rfl (by decide)),zp rfl (op_load _ _ _ _ _ _ Tryz.underlying9 rfl rfl rfl (zl rfl) rfl rfl rfl),zp rfl (op_bin _ _ _ _ _ rfl rfl (cat_ok hv40)),za rfl rfl rfl,trivial⟩ ?_
        refine pt_then ?_
        refine ht_ret ?_
        refine pt_pick [1] (by kernel_rfl) (es' := [(_, _)]) rfl ?_
        refine pt_r_in ?_
        refine pt_r_then ?_
        obtain rfl := Option.some.inj h
        exact pt_ret hio rfl (.tmp _ _ .nil) rfl rfl
       ·have h := cond_f hb39 h
        refine ht_seq ?_
        refine zh hn [_, _, _, _, (57, .v (.bool (c.Kind == 7))), (56, .v (.bool (c.Kind == 7)))] [0,1,2,3] [0,1,2,5] [zq [2] 4 57, zq [4] 5 56] [(_,_),(_,_),(_,_),(_,_)] (by kernel_rfl) rfl rfl ⟨zo rfl rfl rfl rfl,za rfl rfl rfl,trivial⟩ ?_
        refine pt_then ?_
        refine ht_cond _ rfl (fun hb41 => ?_) (fun hb41 => ?_)
        ·have h := cond_t hb41 h
         refine ht_seq ?_
         refine zh hn [_, _, _, _, (2, .v (.string (⟨#[78, 79, 79, 80]⟩ : ByteArray)))] [0,1,2,3] [0,4] [zq [] 4 2] [(_,_),(_,_)] (by kernel_rfl) rfl rfl ⟨za rfl rfl rfl,trivial⟩ ?_
         refine pt_then ?_
         refine ht_ret ?_
         refine pt_pick [1] (by kernel_rfl) (es' := [(_, _)]) rfl ?_
         refine pt_r_in ?_
         refine pt_r_then ?_
         obtain rfl := Option.some.inj h
         exact pt_ret hio rfl (.tmp _ _ .nil) rfl rfl
        ·have h := cond_f hb41 h
         refine ht_seq ?_
         refine zh hn [_, _, _, _, (59, .v (.bool (c.Kind == 8))), (58, .v (.bool (c.Kind == 8)))] [0,1,2,3] [0,1,2,5] [zq [2] 4 59, zq [4] 5 58] [(_,_),(_,_),(_,_),(_,_)] (by kernel_rfl) rfl rfl ⟨zo rfl rfl rfl rfl,za rfl rfl rfl,trivial⟩ ?_
         refine pt_then ?_
         refine ht_cond _ rfl (fun hb42 => ?_) (fun hb42 => ?_)
         ·have h := cond_t hb42 h
          refine ht_seq ?_
          refine zh hn [_, _, _, _, (2, .v (.string (⟨#[81, 85, 73, 84]⟩ : ByteArray)))] [0,1,2,3] [0,4] [zq [] 4 2] [(_,_),(_,_)] (by kernel_rfl) rfl rfl ⟨za rfl rfl rfl,trivial⟩ ?_
          refine pt_then ?_
          refine ht_ret ?_
          refine pt_pick [1] (by kernel_rfl) (es' := [(_, _)]) rfl ?_
          refine pt_r_in ?_
          refine pt_r_then ?_
          obtain rfl := Option.some.inj h
          exact pt_ret hio rfl (.tmp _ _ .nil) rfl rfl
         ·have h := cond_f hb42 h
          refine ht_seq ?_
          refine zh hn [_, _, _, _, (61, .v (.bool (c.Kind == 9))), (60, .v (.bool (c.Kind == 9)))] [0,1,2,3] [0,1,2,5] [zq [2] 4 61, zq [4] 5 60] [(_,_),(_,_),(_,_),(_,_)] (by kernel_rfl) rfl rfl ⟨zo rfl rfl rfl rfl,za rfl rfl rfl,trivial⟩ ?_
          refine pt_then ?_
          refine ht_cond _ rfl (fun hb43 => ?_) (fun hb43 => ?_)
          ·have h := cond_t hb43 h
           refine ht_seq ?_
           obtain ⟨v44, hv44, h⟩ := bind_some h
           refine zh hn [_, _, _, _, (62, .ptr 1 1), (63, .v (.string c.Text)), (64, .v (.string v44)), (2, .v (.string v44))] [0,1,2,3] [0,7] [zq [1] 4 62, zq [4,1] 5 63, zq [5] 6 64, zq [6] 7 2] [(_,_),(_,_)] (by kernel_rfl) rfl rfl ⟨zp rfl (op_fieldAddr _ _ _ _ 1 0 _ Tryz.underlying26 rfl sz9 rfl rfl (by decide)),zp rfl (op_load _ _ _ _ _ _ Tryz.underlying9 rfl rfl rfl (zl rfl) rfl rfl rfl),zp rfl (op_bin _ _ _ _ _ rfl rfl (cat_ok hv44)),za rfl rfl rfl,trivial⟩ ?_
           refine pt_then ?_
           refine ht_ret ?_
           refine pt_pick [1] (by kernel_rfl) (es' := [(_, _)]) rfl ?_
           refine pt_r_in ?_
           refine pt_r_then ?_
           obtain rfl := Option.some.inj h
           exact pt_ret hio rfl (.tmp _ _ .nil) rfl rfl
          ·have h := cond_f hb43 h
           refine ht_seq ?_
           refine zh hn [_, _, _, _, (66, .v (.bool (c.Kind == 10))), (65, .v (.bool (c.Kind == 10)))] [0,1,2,3] [0,1,2,5] [zq [2] 4 66, zq [4] 5 65] [(_,_),(_,_),(_,_),(_,_)] (by kernel_rfl) rfl rfl ⟨zo rfl rfl rfl rfl,za rfl rfl rfl,trivial⟩ ?_
           refine pt_then ?_
           refine ht_cond _ rfl (fun hb45 => ?_) (fun hb45 => ?_)
           ·have h := cond_t hb45 h
            refine ht_seq ?_
            refine zh hn [_, _, _, _, (2, .v (.string (⟨#[65, 85, 84, 72, 32, 67, 82, 65, 77, 45, 77, 68, 53]⟩ : ByteArray)))] [0,1,2,3] [0,4] [zq [] 4 2] [(_,_),(_,_)] (by kernel_rfl) rfl rfl ⟨za rfl rfl rfl,trivial⟩ ?_
            refine pt_then ?_
            refine ht_ret ?_
            refine pt_pick [1] (by kernel_rfl) (es' := [(_, _)]) rfl ?_
            refine pt_r_in ?_
            refine pt_r_then ?_
            obtain rfl := Option.some.inj h
            exact pt_ret hio rfl (.tmp _ _ .nil) rfl rfl
           ·have h := cond_f hb45 h
            refine ht_seq ?_
            refine zh hn [_, _, _, _, (68, .v (.bool (c.Kind == 11))), (67, .v (.bool (c.Kind == 11)))] [0,1,2,3] [0,1,5] [zq [2] 4 68, zq [4] 5 67] [(_,_),(_,_),(_,_)] (by kernel_rfl) rfl rfl ⟨zo rfl rfl rfl rfl,za rfl rfl rfl,trivial⟩ ?_
            refine pt_then ?_
            refine ht_cond _ rfl (fun hb46 => ?_) (fun hb46 => ?_)
            ·have h := cond_t hb46 h
             refine ht_seq ?_
             refine ht_seq ?_
             refine zh hn [_, _, _, (69, .ptr 1 1), (70, .v (.string c.Text)), (71, .v (.bool ((c.Text.toList == (⟨#[]⟩ : ByteArray).toList))))] [0,1,2] [0,1,5] [zq [1] 3 69, zq [3,1] 4 70, zq [4] 5 71] [(_,_),(_,_),(_,_)] (by kernel_rfl) rfl rfl ⟨zp rfl (op_fieldAddr _ _ _ _ 1 0 _ Tryz.underlying26 rfl sz9 rfl rfl (by decide)),zp rfl (op_load _ _ _ _ _ _ Tryz.underlying9 rfl rfl rfl (zl rfl) rfl rfl rfl),zo rfl rfl rfl rfl,trivial⟩ ?_
             refine pt_then ?_
             refine ht_cond _ rfl (fun hb47 => ?_) (fun hb47 => ?_)
             ·have h := cond_t hb47 h
              refine ht_seq ?_
              refine zh hn [_, _, _, (2, .v (.string (⟨#[65, 84, 82, 78]⟩ : ByteArray)))] [0,1,2] [0,3] [zq [] 3 2] [(_,_),(_,_)] (by kernel_rfl) rfl rfl ⟨za rfl rfl rfl,trivial⟩ ?_
              refine pt_then ?_
              refine ht_ret ?_
              refine pt_pick [1] (by kernel_rfl) (es' := [(_, _)]) rfl ?_
              refine pt_r_then ?_
              refine pt_r_in ?_
              refine pt_r_then ?_
              obtain rfl := Option.some.inj h
              exact pt_ret hio rfl (.tmp _ _ .nil) rfl rfl
             ·have h := cond_f hb47 h
              refine ht_skip ?_
              refine pt_then ?_
              refine ht_seq ?_
              obtain ⟨v48, hv48, h⟩ := bind_some h
              refine zh hn [_, _, _, (72, .ptr 1 1), (73, .v (.string c.Text)), (74, .v (.string v48)), (2, .v (.string v48))] [0,1,2] [0,6] [zq [1] 3 72, zq [3,1] 4 73, zq [4] 5 74, zq [5] 6 2] [(_,_),(_,_)] (by kernel_rfl) rfl rfl ⟨zp rfl (op_fieldAddr _ _ _ _ 1 0 _ Tryz.underlying26 rfl sz9 rfl rfl (by decide)),zp rfl (op_load _ _ _ _ _ _ Tryz.underlying9 rfl rfl rfl (zl rfl) rfl rfl rfl),zp rfl (op_bin _ _ _ _ _ rfl rfl (cat_ok hv48)),za rfl rfl rfl,trivial⟩ ?_
              refine pt_then ?_
              refine ht_ret ?_
              refine pt_pick [1] (by kernel_rfl) (es' := [(_, _)]) rfl ?_
              refine pt_r_in ?_
              refine pt_r_then ?_
              obtain rfl := Option.some.inj h
              exact pt_ret hio rfl (.tmp _ _ .nil) rfl rfl
            ·have h := cond_f hb46 h
             refine ht_skip ?_
             refine pt_inb ?_
             refine pt_then ?_
             refine ht_seq ?_
             refine zh hn [_, _, _, (2, .v (.string (⟨#[]⟩ : ByteArray)))] [0,1,2] [0,3] [zq [] 3 2] [(_,_),(_,_)] (by kernel_rfl) rfl rfl ⟨za rfl rfl rfl,trivial⟩ ?_
             refine pt_then ?_
             refine ht_ret ?_
             refine pt_pick [1] (by kernel_rfl) (es' := [(_, _)]) rfl ?_
             obtain rfl := Option.some.inj h
             exact pt_ret hio rfl (.tmp _ _ .nil) rfl rfl
   ·intro u5 h hl6 hr7
    refine ht_seq ?_
    refine zh hn [_, _, _, _, (16, .v (.bool (c.Kind == 2))), (15, .v (.bool (c.Kind == 2)))] [0,1,2,3] [0,1,2,5] [zq [2] 4 16, zq [4] 5 15] [(_,_),(_,_),(_,_),(_,_)] (by kernel_rfl) rfl rfl ⟨zo rfl rfl rfl rfl,za rfl rfl rfl,trivial⟩ ?_
    refine pt_then ?_
    refine ht_cond _ rfl (fun hb8 => ?_) (fun hb8 => ?_)
    ·have h := cond_t hb8 h
     refine ht_skip ?_
     exact hl6 _ (Option.some.inj h).symm
    ·have h := cond_f hb8 h
     refine zh hn [_, _, _, _, (17, .v (.bool (c.Kind == 3))), (15, .v (.bool (c.Kind == 3)))] [0,1,2,3] [0,1,2,5] [zq [2] 4 17, ⟨[4], [3], [5], [(.slot 15)]⟩] [(_,_),(_,_),(_,_),(_,_)] (by kernel_rfl) rfl rfl ⟨zo rfl rfl rfl rfl,zp rfl (LOp.drop [_] (op_assign _ _ _ _ rfl rfl)),trivial⟩ ?_
     exact hl6 _ (Option.some.inj h).symm
set_option maxHeartbeats 1000000 in
theorem ok_slices_Equal_api_Param_api_Param (p_s1 : (List T_Param)) (p_s2 : (List T_Param)) (r : Bool) (h : Sh.slices_Equal_api_Param_api_Param p_s1 p_s2 = some r) : FnOK Tryz.prog 48 [.fl .shr 2 (List.flatten (List.map T_Param.enc p_s1)), .fl .shr 2 (List.flatten (List.map T_Param.enc p_s2))] (.v (.bool r)) := by
  unfold Sh.slices_Equal_api_Param_api_Param at h
  refine fn_ok Tryz.func48 rfl (zl rfl) rfl rfl fun g0 hn hio => ?_
  refine ht_seq ?_
  refine zh hn [_, _, (4, .v (.bool false))] [0,1] [0,1] [zq [] 2 4] [(_,_),(_,_)] (by kernel_rfl) rfl rfl ⟨za rfl rfl rfl,trivial⟩ ?_
  refine pt_then ?_
  refine ht_seq ?_
  refine ht_seq ?_
  refine zh hn [_, _, (6, .fl .shr 2 (List.flatten (List.map T_Param.enc p_s1))), (7, .v (.int .i64 (p_s1.length : Int))), (8, .fl .shr 2 (List.flatten (List.map T_Param.enc p_s2))), (9, .v (.int .i64 (p_s2.length : Int))), (10, .v (.bool (((p_s1.length : Int) != (p_s2.length : Int)))))] [0,1] [0,1,6] [zq [0] 2 6, zq [2] 3 7, zq [1] 4 8, zq [4] 5 9, zq [3,5] 6 10] [(_,_),(_,_),(_,_)] (by kernel_rfl) rfl rfl ⟨zm rfl rfl rfl,zp rfl (op_len_fl _ _ _ Tryz.underlying24 rfl (by decide) (flat_len T_Param.len _)),zm rfl rfl rfl,zp rfl (op_len_fl _ _ _ Tryz.underlying24 rfl (by decide) (flat_len T_Param.len _)),zo rfl rfl rfl rfl,trivial⟩ ?_
  refine pt_then ?_
  refine ht_cond _ rfl (fun hb1 => ?_) (fun hb1 => ?_)
  ·have h := cond_t hb1 h
   refine ht_seq ?_
   refine zh hn [_, _, _, (4, .v (.bool false))] [0,1,2] [3] [zq [] 3 4] [(_,_)] (by kernel_rfl) rfl rfl ⟨za rfl rfl rfl,trivial⟩ ?_
   refine pt_then ?_
   refine ht_ret ?_
   refine pt_r_then ?_
   obtain rfl := Option.some.inj h
   exact pt_ret hio rfl (.tmp _ _ .nil) rfl rfl
  ·have h := cond_f hb1 h
   refine ht_skip ?_
   refine pt_then ?_
   refine ht_seq ?_
   refine ht_seq ?_
   refine zh hn [_, _, _, (11, .fl .shr 2 (List.flatten (List.map T_Param.enc p_s1))), (12, .v (.int .i64 (p_s1.length : Int))), (13, .v (.int .i64 0))] [0,1,2] [0,1,4,5] [zq [0] 3 11, zq [3] 4 12, zq [] 5 13] [(_,_),(_,_),(_,_),(_,_)] (by kernel_rfl) rfl rfl ⟨zm rfl rfl rfl,zp rfl (op_len_fl _ _ _ Tryz.underlying24 rfl (by decide) (flat_len T_Param.len _)),zm rfl rfl rfl,trivial⟩ ?_
   refine pt_then ?_
   refine ht_loopS h (fun (s12 : Int) => [(0, .fl .shr 2 (List.flatten (List.map T_Param.enc p_s1))), (1, .fl .shr 2 (List.flatten (List.map T_Param.enc p_s2))), (12, .v (.int .i64 (p_s1.length : Int))), (13, .v (.int .i64 s12))]) (fun (() : Unit) => []) ?_ ?_
   ·rintro ⟨⟩ h
    refine pt_then ?_
    refine ht_seq ?_
    refine zh hn [(4, .v (.bool true))] [] [0] [zq [] 0 4] [(_,_)] (by kernel_rfl) rfl rfl ⟨za rfl rfl rfl,trivial⟩ ?_
    refine pt_then ?_
    refine ht_ret ?_
    obtain rfl := Option.some.inj h
    exact pt_ret hio rfl (.tmp _ _ .nil) rfl rfl
   ·rintro u15 hl16 hr17 s12 rr20 h ho18
    refine ht_seq ?_
    refine zh hn [_, _, _, _, (14, .v (.bool ((decide (s12 < (p_s1.length : Int))))))] [0,1,2,3] [0,1,2,3,4] [zq [3,2] 4 14] [(_,_),(_,_),(_,_),(_,_),(_,_)] (by kernel_rfl) rfl rfl ⟨zo rfl rfl rfl rfl,trivial⟩ ?_
    refine pt_then ?_
    refine ht_seq ?_
    refine ht_cond _ rfl (fun hb21 => ?_) (fun hb21 => ?_)
    ·have h := cond_t hb21 h
     refine ht_skip ?_
     refine pt_then ?_
     refine ht_seq ?_
     refine ht_block ?_
     refine ht_seq ?_
     refine zh hn [_, _, _, _, _, (15, .v (.int .i64 s12)), (5, .v (.int .i64 s12))] [0,1,2,3,4] [0,1,2,3,6] [zq [3] 5 15, zq [5] 6 5] [(_,_),(_,_),(_,_),(_,_),(_,_)] (by kernel_rfl) rfl rfl ⟨zm rfl rfl rfl,za rfl rfl rfl,trivial⟩ ?_
     refine pt_then ?_
     refine ht_seq ?_
     obtain ⟨v3, hv3, h⟩ := bind_some h
     obtain ⟨v4, hv4, h⟩ := bind_some h
     obtain ⟨v5, hv5, h⟩ := bind_some h
     obtain ⟨v6, hv6, h⟩ := bind_some h
     refine ht_anyR (by kernel_rfl) hn (El := [_, _, _, _, _, (16, .fl .shr 2 (List.flatten (List.map T_Param.enc p_s1))), (17, .v (.int .i64 s12)), (18, .eref (.slot 16) (v3 * 2)), (19, .agg [.v (.string v4.Key), .v (.string v4.Val)]), (20, .fl .shr 2 (List.flatten (List.map T_Param.enc p_s2))), (21, .v (.int .i64 s12)), (22, .eref (.slot 20) (v5 * 2)), (23, .agg [.v (.string v6.Key), .v (.string v6.Val)]), (24, .v (.bool ((!((v4.Key.toList == v6.Key.toList) && ((v4.Val.toList == v6.Val.toList) && true))))))]) (init := [0, 1, 2, 3, 4]) (fin := [0, 1, 2, 3, 13]) (sps := [zq [0] 5 16, zq [4] 6 17, zq [5,6] 7 18, zq [7,5] 8 19, zq [1] 9 20, zq [4] 10 21, zq [9,10] 11 22, zq [11,9] 12 23, zq [8,12] 13 24]) (es' := [(_, _), (_, _), (_, _), (_, _), (24, .v (.bool ((!((v4.Key.toList == v6.Key.toList) && ((v4.Val.toList == v6.Val.toList) && true))))))]) (by kernel_rfl) rfl rfl ⟨zm rfl rfl rfl,zm rfl rfl rfl,zp rfl (op_ix _ _ _ _ _ _ _ _ Tryz.underlying24 sz47 (by decide) rfl rfl rfl (ix_ok hv3).1 (flat_lt T_Param.len (ix_ok hv3).2) rfl),zp rfl (op_load_eA _ _ _ _ _ _ _ Tryz.underlying47 rfl sz47 rfl rfl (flat_get T_Param.len hv4) rfl (by decide)),zm rfl rfl rfl,zm rfl rfl rfl,zp rfl (op_ix _ _ _ _ _ _ _ _ Tryz.underlying24 sz47 (by decide) rfl rfl rfl (ix_ok hv5).1 (flat_lt T_Param.len (ix_ok hv5).2) rfl),zp rfl (op_load_eA _ _ _ _ _ _ _ Tryz.underlying47 rfl sz47 rfl rfl (flat_get T_Param.len hv6) rfl (by decide)),zp rfl (op_eq_st _ _ [.string v4.Key, .string v4.Val] [.string v6.Key, .string v6.Val] (((v4.Key.toList == v6.Key.toList) && ((v4.Val.toList == v6.Val.toList) && true))) _ true (by kernel_rfl) (by kernel_rfl) (by kernel_rfl) (by kernel_rfl) (by kernel_rfl) rfl rfl rfl rfl (by kernel_rfl) rfl),trivial⟩ ?_
     refine pt_then ?_
     refine ht_cond _ rfl (fun hb22 => ?_) (fun hb22 => ?_)
     ·have h := cond_t hb22 h
      refine ht_seq ?_
      refine zh hn [_, _, _, _, _, (4, .v (.bool false))] [0,1,2,3,4] [5] [zq [] 5 4] [(_,_)] (by kernel_rfl) rfl rfl ⟨za rfl rfl rfl,trivial⟩ ?_
      refine pt_then ?_
      refine ht_ret ?_
      refine pt_r_in ?_
      refine pt_r_then ?_
      refine pt_r_then ?_
      refine pt_r_in ?_
      refine pt_r_then ?_
      have h := hr17 _ (ho18 _ (Option.some.inj h).symm).symm
      obtain rfl := Option.some.inj h
      exact pt_ret hio rfl (.tmp _ _ .nil) rfl rfl
     ·have h := cond_f hb22 h
      refine ht_skip ?_
      refine pt_inb ?_
      refine pt_then ?_
      obtain ⟨v8, hv8, h⟩ := bind_some h
      refine zh hn [_, _, _, _, _, (25, .v (.int .i64 v8)), (13, .v (.int .i64 v8))] [0,1,2,3,4] [0,1,2,6] [zq [3] 5 25, ⟨[5], [3], [6], [(.slot 13)]⟩] [(_,_),(_,_),(_,_),(_,_)] (by kernel_rfl) rfl rfl ⟨zp rfl (op_bin _ _ _ _ _ rfl rfl (ibind (f := Value.int .i64) (Option.some.inj hv8))),zp rfl (LOp.drop [_] (op_move _ _ _ _ rfl rfl)),trivial⟩ ?_
      exact pt_next _ (Option.some.inj h).symm rfl
    ·have h := cond_f hb21 h
     refine ht_exit ?_
     refine pt_x_then ?_
     refine pt_x_then ?_
     refine pt_x_in ?_
     refine pt_pick [] (by kernel_rfl) (es' := []) rfl ?_
     exact hl16 _ (ho18 _ (Option.some.inj h).symm).symm
set_option maxHeartbeats 1000000 in
theorem ok_verb_same (a : T_Cmd) (b : T_Cmd) (r : Bool) (h : Sh.verb_same a b = some r) : FnOK Tryz.prog 30 [.agg [.v (.int .i64 a.Kind), .v (.string a.Text), .v (.bool a.Path.Null), .v (.string a.Path.Local), .v (.string a.Path.Domain), .fl .shr 2 (List.flatten (List.map T_Param.enc a.Params))], .agg [.v (.int .i64 b.Kind), .v (.string b.Text), .v (.bool b.Path.Null), .v (.string b.Path.Local), .v (.string b.Path.Domain), .fl .shr 2 (List.flatten (List.map T_Param.enc b.Params))]] (.v (.bool r)) := by
  unfold Sh.verb_same at h
  refine fn_ok Tryz.func30 rfl (zl rfl) rfl rfl fun g0 hn hio => ?_
  refine ht_seq ?_
  refine zh hn [_, _, (2, .box 26 [.v (.int .i64 a.Kind), .v (.string a.Text), .v (.bool a.Path.Null), .v (.string a.Path.Local), .v (.string a.Path.Domain), .fl .shr 2 (List.flatten (List.map T_Param.enc a.Params))]), (3, .box 26 [.v (.int .i64 b.Kind), .v (.string b.Text), .v (.bool b.Path.Null), .v (.string b.Path.Local), .v (.string b.Path.Domain), .fl .shr 2 (List.flatten (List.map T_Param.enc b.Params))]), (4, .v (.bool false))] [0,1] [2,3] [zq [0] 2 2, zq [1] 3 3, zq [] 4 4] [(_,_),(_,_)] (by kernel_rfl) rfl rfl ⟨zp rfl (op_box _ _ _ _ rfl rfl rfl),zp rfl (op_box _ _ _ _ rfl rfl rfl),za rfl rfl rfl,trivial⟩ ?_
  refine pt_then ?_
  refine ht_seq ?_
  refine ht_joinS h (fun (s2 : Bool) => [(4, .v (.bool s2))]) ?_ ?_
  ·rintro s2 h
   refine pt_then ?_
   refine ht_ret ?_
   obtain rfl := Option.some.inj h
   exact pt_ret hio rfl (.tmp _ _ .nil) rfl rfl
  ·intro u3 h hl4 hr5
   refine cond_some h (fun hg1_5 h => ?_) (fun hg1_5 h => ?_)
   ·refine cond_some h (fun hg1_12 h => ?_) (fun hg1_12 h => ?_)
    ·refine cond_some h (fun hg1_19 h => ?_) (fun hg1_19 h => ?_)
     ·obtain ⟨v1, hv1, h⟩ := bind_some h
      refine zh hn (_ :: _ :: (5, .ptr 2 0) :: (6, .v (.int .i64 a.Kind)) :: (7, .ptr 3 0) :: (8, .v (.int .i64 b.Kind)) :: (9, .v (.bool (a.Kind == b.Kind))) :: (10, .v (.bool true)) :: (11, .ptr 2 1) :: (12, .v (.string a.Text)) :: (13, .ptr 3 1) :: (14, .v (.string b.Text)) :: (15, .v (.bool (a.Text.toList == b.Text.toList))) :: (16, .v (.bool (a.Text.toList == b.Text.toList))) :: (17, .v (.bool true)) :: (18, .ptr 2 2) :: (19, .agg [.v (.bool a.Path.Null), .v (.string a.Path.Local), .v (.string a.Path.Domain)]) :: (20, .ptr 3 2) :: (21, .agg [.v (.bool b.Path.Null), .v (.string b.Path.Local), .v (.string b.Path.Domain)]) :: (22, .v (.bool (((a.Path.Null == b.Path.Null) && ((a.Path.Local.toList == b.Path.Local.toList) && ((a.Path.Domain.toList == b.Path.Domain.toList) && true)))))) :: (23, .v (.bool (((a.Path.Null == b.Path.Null) && ((a.Path.Local.toList == b.Path.Local.toList) && ((a.Path.Domain.toList == b.Path.Domain.toList) && true)))))) :: (24, .v (.bool true)) :: (25, .ptr 2 5) :: (26, .fl .shr 2 (List.flatten (List.map T_Param.enc a.Params))) :: (27, .ptr 3 5) :: (28, .fl .shr 2 (List.flatten (List.map T_Param.enc b.Params))) :: (29, .v (.bool v1)) :: (30, .v (.bool v1)) :: (4, .v (.bool v1)) :: []) [0,1] [28] (zq [0] 2 5 :: zq [2,0] 3 6 :: zq [1] 4 7 :: zq [4,1] 5 8 :: zq [3,5] 6 9 :: zq [6] 7 10 :: zq [7,0] 8 11 :: zq [7,8,0] 9 12 :: zq [7,1] 10 13 :: zq [7,10,1] 11 14 :: zq [7,9,11] 12 15 :: zq [7,12] 13 16 :: zq [13] 14 17 :: zq [14,0] 15 18 :: zq [14,15,0] 16 19 :: zq [14,1] 17 20 :: zq [14,17,1] 18 21 :: zq [14,16,18] 19 22 :: zq [14,19] 20 23 :: zq [20] 21 24 :: zq [21,0] 22 25 :: zq [21,22,0] 23 26 :: zq [21,1] 24 27 :: zq [21,24,1] 25 28 :: zq [21,23,25] 26 29 :: zq [21,26] 27 30 :: zq [27] 28 4 :: []) [(_,_)] (by kernel_rfl) rfl rfl ⟨zp rfl (op_fieldAddr _ _ _ _ 2 0 _ Tryz.underlying26 rfl sz3 rfl rfl (by decide)),zp rfl (op_load _ _ _ _ _ _ Tryz.underlying3 rfl rfl rfl (zl rfl) rfl rfl rfl),zp rfl (op_fieldAddr _ _ _ _ 3 0 _ Tryz.underlying26 rfl sz3 rfl rfl (by decide)),zp rfl (op_load _ _ _ _ _ _ Tryz.underlying3 rfl rfl rfl (zl rfl) rfl rfl rfl),zo rfl rfl rfl rfl,zm rfl (zb hg1_5) rfl,zr 5 rfl rfl rfl (op_fieldAddr _ _ _ _ 2 0 _ Tryz.underlying26 rfl sz9 rfl rfl (by decide)),zr 5 rfl rfl rfl (op_load _ _ _ _ _ _ Tryz.underlying9 rfl rfl rfl (zl rfl) rfl rfl rfl),zr 5 rfl rfl rfl (op_fieldAddr _ _ _ _ 3 0 _ Tryz.underlying26 rfl sz9 rfl rfl (by decide)),zr 5 rfl rfl rfl (op_load _ _ _ _ _ _ Tryz.underlying9 rfl rfl rfl (zl rfl) rfl rfl rfl),zr 5 rfl rfl rfl (op_bin _ _ _ _ _ rfl rfl rfl),zk true rfl rfl rfl,zm rfl (zb hg1_12) rfl,zr 12 rfl rfl rfl (op_fieldAddr _ _ _ _ 2 0 _ Tryz.underlying26 rfl sz23 rfl rfl (by decide)),zr 12 rfl rfl rfl (op_loadA _ _ _ _ _ _ _ Tryz.underlying23 rfl sz23 rfl rfl (zl rfl) rfl rfl),zr 12 rfl rfl rfl (op_fieldAddr _ _ _ _ 3 0 _ Tryz.underlying26 rfl sz23 rfl rfl (by decide)),zr 12 rfl rfl rfl (op_loadA _ _ _ _ _ _ _ Tryz.underlying23 rfl sz23 rfl rfl (zl rfl) rfl rfl),zr 12 rfl rfl rfl (op_eq_st _ _ [.bool a.Path.Null, .string a.Path.Local, .string a.Path.Domain] [.bool b.Path.Null, .string b.Path.Local, .string b.Path.Domain] (((a.Path.Null == b.Path.Null) && ((a.Path.Local.toList == b.Path.Local.toList) && ((a.Path.Domain.toList == b.Path.Domain.toList) && true)))) _ false (by kernel_rfl) (by kernel_rfl) (by kernel_rfl) (by kernel_rfl) (by kernel_rfl) rfl rfl rfl rfl (by kernel_rfl) rfl),zk true rfl rfl rfl,zm rfl (zb hg1_19) rfl,zr 19 rfl rfl rfl (op_fieldAddr _ _ _ _ 2 0 _ Tryz.underlying26 rfl sz24 rfl rfl (by decide)),zr 19 rfl rfl rfl (op_load _ _ _ _ _ _ Tryz.underlying24 rfl rfl rfl (zl rfl) rfl rfl rfl),zr 19 rfl rfl rfl (op_fieldAddr _ _ _ _ 3 0 _ Tryz.underlying26 rfl sz24 rfl rfl (by decide)),zr 19 rfl rfl rfl (op_load _ _ _ _ _ _ Tryz.underlying24 rfl rfl rfl (zl rfl) rfl rfl rfl),zr 19 rfl rfl rfl (op_call _ _ 48 _ _ rfl Tryz.call48 rfl (ok_slices_Equal_api_Param_api_Param a.Params b.Params _ hv1) rfl rfl),zk true rfl rfl rfl,za rfl rfl rfl,trivial⟩ ?_
      exact hl4 _ (Option.some.inj h).symm
     ·refine zh hn (_ :: _ :: (5, .ptr 2 0) :: (6, .v (.int .i64 a.Kind)) :: (7, .ptr 3 0) :: (8, .v (.int .i64 b.Kind)) :: (9, .v (.bool (a.Kind == b.Kind))) :: (10, .v (.bool true)) :: (11, .ptr 2 1) :: (12, .v (.string a.Text)) :: (13, .ptr 3 1) :: (14, .v (.string b.Text)) :: (15, .v (.bool (a.Text.toList == b.Text.toList))) :: (16, .v (.bool (a.Text.toList == b.Text.toList))) :: (17, .v (.bool true)) :: (18, .ptr 2 2) :: (19, .agg [.v (.bool a.Path.Null), .v (.string a.Path.Local), .v (.string a.Path.Domain)]) :: (20, .ptr 3 2) :: (21, .agg [.v (.bool b.Path.Null), .v (.string b.Path.Local), .v (.string b.Path.Domain)]) :: (22, .v (.bool (((a.Path.Null == b.Path.Null) && ((a.Path.Local.toList == b.Path.Local.toList) && ((a.Path.Domain.toList == b.Path.Domain.toList) && true)))))) :: (23, .v (.bool (((a.Path.Null == b.Path.Null) && ((a.Path.Local.toList == b.Path.Local.toList) && ((a.Path.Domain.toList == b.Path.Domain.toList) && true)))))) :: (24, .v (.bool false)) :: (25, .v undef) :: (26, .v undef) :: (27, .v undef) :: (28, .v undef) :: (29, .v undef) :: (30, .v (.bool false)) :: (4, .v (.bool false)) :: []) [0,1] [28] (zq [0] 2 5 :: zq [2,0] 3 6 :: zq [1] 4 7 :: zq [4,1] 5 8 :: zq [3,5] 6 9 :: zq [6] 7 10 :: zq [7,0] 8 11 :: zq [7,8,0] 9 12 :: zq [7,1] 10 13 :: zq [7,10,1] 11 14 :: zq [7,9,11] 12 15 :: zq [7,12] 13 16 :: zq [13] 14 17 :: zq [14,0] 15 18 :: zq [14,15,0] 16 19 :: zq [14,1] 17 20 :: zq [14,17,1] 18 21 :: zq [14,16,18] 19 22 :: zq [14,19] 20 23 :: zq [20] 21 24 :: zq [21] 22 25 :: zq [21] 23 26 :: zq [21] 24 27 :: zq [21] 25 28 :: zq [21] 26 29 :: zq [21] 27 30 :: zq [27] 28 4 :: []) [(_,_)] (by kernel_rfl) rfl rfl ⟨zp rfl (op_fieldAddr _ _ _ _ 2 0 _ Tryz.underlying26 rfl sz3 rfl rfl (by decide)),zp rfl (op_load _ _ _ _ _ _ Tryz.underlying3 rfl rfl rfl (zl rfl) rfl rfl rfl),zp rfl (op_fieldAddr _ _ _ _ 3 0 _ Tryz.underlying26 rfl sz3 rfl rfl (by decide)),zp rfl (op_load _ _ _ _ _ _ Tryz.underlying3 rfl rfl rfl (zl rfl) rfl rfl rfl),zo rfl rfl rfl rfl,zm rfl (zb hg1_5) rfl,zr 5 rfl rfl rfl (op_fieldAddr _ _ _ _ 2 0 _ Tryz.underlying26 rfl sz9 rfl rfl (by decide)),zr 5 rfl rfl rfl (op_load _ _ _ _ _ _ Tryz.underlying9 rfl rfl rfl (zl rfl) rfl rfl rfl),zr 5 rfl rfl rfl (op_fieldAddr _ _ _ _ 3 0 _ Tryz.underlying26 rfl sz9 rfl rfl (by decide)),zr 5 rfl rfl rfl (op_load _ _ _ _ _ _ Tryz.underlying9 rfl rfl rfl (zl rfl) rfl rfl rfl),zr 5 rfl rfl rfl (op_bin _ _ _ _ _ rfl rfl rfl),zk true rfl rfl rfl,zm rfl (zb hg1_12) rfl,zr 12 rfl rfl rfl (op_fieldAddr _ _ _ _ 2 0 _ Tryz.underlying26 rfl sz23 rfl rfl (by decide)),zr 12 rfl rfl rfl (op_loadA _ _ _ _ _ _ _ Tryz.underlying23 rfl sz23 rfl rfl (zl rfl) rfl rfl),zr 12 rfl rfl rfl (op_fieldAddr _ _ _ _ 3 0 _ Tryz.underlying26 rfl sz23 rfl rfl (by decide)),zr 12 rfl rfl rfl (op_loadA _ _ _ _ _ _ _ Tryz.underlying23 rfl sz23 rfl rfl (zl rfl) rfl rfl),zr 12 rfl rfl rfl (op_eq_st _ _ [.bool a.Path.Null, .string a.Path.Local, .string a.Path.Domain] [.bool b.Path.Null, .string b.Path.Local, .string b.Path.Domain] (((a.Path.Null == b.Path.Null) && ((a.Path.Local.toList == b.Path.Local.toList) && ((a.Path.Domain.toList == b.Path.Domain.toList) && true)))) _ false (by kernel_rfl) (by kernel_rfl) (by kernel_rfl) (by kernel_rfl) (by kernel_rfl) rfl rfl rfl rfl (by kernel_rfl) rfl),zk true rfl rfl rfl,zm rfl (zb hg1_19) rfl,zs 19 true rfl rfl rfl rfl,zs 19 true rfl rfl rfl rfl,zs 19 true rfl rfl rfl rfl,zs 19 true rfl rfl rfl rfl,zs 19 true rfl rfl rfl rfl,zk false rfl rfl rfl,za rfl rfl rfl,trivial⟩ ?_
      exact hl4 _ (Option.some.inj h).symm
    ·refine zh hn (_ :: _ :: (5, .ptr 2 0) :: (6, .v (.int .i64 a.Kind)) :: (7, .ptr 3 0) :: (8, .v (.int .i64 b.Kind)) :: (9, .v (.bool (a.Kind == b.Kind))) :: (10, .v (.bool true)) :: (11, .ptr 2 1) :: (12, .v (.string a.Text)) :: (13, .ptr 3 1) :: (14, .v (.string b.Text)) :: (15, .v (.bool (a.Text.toList == b.Text.toList))) :: (16, .v (.bool (a.Text.toList == b.Text.toList))) :: (17, .v (.bool false)) :: (18, .v undef) :: (19, .v undef) :: (20, .v undef) :: (21, .v undef) :: (22, .v undef) :: (23, .v (.bool false)) :: (24, .v (.bool false)) :: (25, .v undef) :: (26, .v undef) :: (27, .v undef) :: (28, .v undef) :: (29, .v undef) :: (30, .v (.bool false)) :: (4, .v (.bool false)) :: []) [0,1] [28] (zq [0] 2 5 :: zq [2,0] 3 6 :: zq [1] 4 7 :: zq [4,1] 5 8 :: zq [3,5] 6 9 :: zq [6] 7 10 :: zq [7,0] 8 11 :: zq [7,8,0] 9 12 :: zq [7,1] 10 13 :: zq [7,10,1] 11 14 :: zq [7,9,11] 12 15 :: zq [7,12] 13 16 :: zq [13] 14 17 :: zq [14] 15 18 :: zq [14] 16 19 :: zq [14] 17 20 :: zq [14] 18 21 :: zq [14] 19 22 :: zq [14] 20 23 :: zq [20] 21 24 :: zq [21] 22 25 :: zq [21] 23 26 :: zq [21] 24 27 :: zq [21] 25 28 :: zq [21] 26 29 :: zq [21] 27 30 :: zq [27] 28 4 :: []) [(_,_)] (by kernel_rfl) rfl rfl ⟨zp rfl (op_fieldAddr _ _ _ _ 2 0 _ Tryz.underlying26 rfl sz3 rfl rfl (by decide)),zp rfl (op_load _ _ _ _ _ _ Tryz.underlying3 rfl rfl rfl (zl rfl) rfl rfl rfl),zp rfl (op_fieldAddr _ _ _ _ 3 0 _ Tryz.underlying26 rfl sz3 rfl rfl (by decide)),zp rfl (op_load _ _ _ _ _ _ Tryz.underlying3 rfl rfl rfl (zl rfl) rfl rfl rfl),zo rfl rfl rfl rfl,zm rfl (zb hg1_5) rfl,zr 5 rfl rfl rfl (op_fieldAddr _ _ _ _ 2 0 _ Tryz.underlying26 rfl sz9 rfl rfl (by decide)),zr 5 rfl rfl rfl (op_load _ _ _ _ _ _ Tryz.underlying9 rfl rfl rfl (zl rfl) rfl rfl rfl),zr 5 rfl rfl rfl (op_fieldAddr _ _ _ _ 3 0 _ Tryz.underlying26 rfl sz9 rfl rfl (by decide)),zr 5 rfl rfl rfl (op_load _ _ _ _ _ _ Tryz.underlying9 rfl rfl rfl (zl rfl) rfl rfl rfl),zr 5 rfl rfl rfl (op_bin _ _ _ _ _ rfl rfl rfl),zk true rfl rfl rfl,zm rfl (zb hg1_12) rfl,zs 12 true rfl rfl rfl rfl,zs 12 true rfl rfl rfl rfl,zs 12 true rfl rfl rfl rfl,zs 12 true rfl rfl rfl rfl,zs 12 true rfl rfl rfl rfl,zk false rfl rfl rfl,zm rfl rfl rfl,zs 19 true rfl rfl rfl rfl,zs 19 true rfl rfl rfl rfl,zs 19 true rfl rfl rfl rfl,zs 19 true rfl rfl rfl rfl,zs 19 true rfl rfl rfl rfl,zk false rfl rfl rfl,za rfl rfl rfl,trivial⟩ ?_
     exact hl4 _ (Option.some.inj h).symm
   ·refine zh hn (_ :: _ :: (5, .ptr 2 0) :: (6, .v (.int .i64 a.Kind)) :: (7, .ptr 3 0) :: (8, .v (.int .i64 b.Kind)) :: (9, .v (.bool (a.Kind == b.Kind))) :: (10, .v (.bool false)) :: (11, .v undef) :: (12, .v undef) :: (13, .v undef) :: (14, .v undef) :: (15, .v undef) :: (16, .v (.bool false)) :: (17, .v (.bool false)) :: (18, .v undef) :: (19, .v undef) :: (20, .v undef) :: (21, .v undef) :: (22, .v undef) :: (23, .v (.bool false)) :: (24, .v (.bool false)) :: (25, .v undef) :: (26, .v undef) :: (27, .v undef) :: (28, .v undef) :: (29, .v undef) :: (30, .v (.bool false)) :: (4, .v (.bool false)) :: []) [0,1] [28] (zq [0] 2 5 :: zq [2,0] 3 6 :: zq [1] 4 7 :: zq [4,1] 5 8 :: zq [3,5] 6 9 :: zq [6] 7 10 :: zq [7] 8 11 :: zq [7] 9 12 :: zq [7] 10 13 :: zq [7] 11 14 :: zq [7] 12 15 :: zq [7] 13 16 :: zq [13] 14 17 :: zq [14] 15 18 :: zq [14] 16 19 :: zq [14] 17 20 :: zq [14] 18 21 :: zq [14] 19 22 :: zq [14] 20 23 :: zq [20] 21 24 :: zq [21] 22 25 :: zq [21] 23 26 :: zq [21] 24 27 :: zq [21] 25 28 :: zq [21] 26 29 :: zq [21] 27 30 :: zq [27] 28 4 :: []) [(_,_)] (by kernel_rfl) rfl rfl ⟨zp rfl (op_fieldAddr _ _ _ _ 2 0 _ Tryz.underlying26 rfl sz3 rfl rfl (by decide)),zp rfl (op_load _ _ _ _ _ _ Tryz.underlying3 rfl rfl rfl (zl rfl) rfl rfl rfl),zp rfl (op_fieldAddr _ _ _ _ 3 0 _ Tryz.underlying26 rfl sz3 rfl rfl (by decide)),zp rfl (op_load _ _ _ _ _ _ Tryz.underlying3 rfl rfl rfl (zl rfl) rfl rfl rfl),zo rfl rfl rfl rfl,zm rfl (zb hg1_5) rfl,zs 5 true rfl rfl rfl rfl,zs 5 true rfl rfl rfl rfl,zs 5 true rfl rfl rfl rfl,zs 5 true rfl rfl rfl rfl,zs 5 true rfl rfl rfl rfl,zk false rfl rfl rfl,zm rfl rfl rfl,zs 12 true rfl rfl rfl rfl,zs 12 true rfl rfl rfl rfl,zs 12 true rfl rfl rfl rfl,zs 12 true rfl rfl rfl rfl,zs 12 true rfl rfl rfl rfl,zk false rfl rfl rfl,zm rfl rfl rfl,zs 19 true rfl rfl rfl rfl,zs 19 true rfl rfl rfl rfl,zs 19 true rfl rfl rfl rfl,zs 19 true rfl rfl rfl rfl,zs 19 true rfl rfl rfl rfl,zk false rfl rfl rfl,za rfl rfl rfl,trivial⟩ ?_
    exact hl4 _ (Option.some.inj h).symm
set_option maxHeartbeats 1000000 in
theorem ok_verb_Text (mx : Int) (c : T_Cmd) (r : (ByteArray × Int)) (h : Sh.verb_Text c = some r) : FnG Tryz.prog (GL mx) 8 [.agg [.v (.int .i64 c.Kind), .v (.string c.Text), .v (.bool c.Path.Null), .v (.string c.Path.Local), .v (.string c.Path.Domain), .fl .shr 2 (List.flatten (List.map T_Param.enc c.Params))]] (.tup [.v (.string r.1), .v (.int .i64 r.2)]) := by
  unfold Sh.verb_Text at h
  refine fn_okG Tryz.func8 rfl (zl rfl) rfl rfl fun g0 hn hio => ?_
  refine ht_seq ?_
  refine zh hn [_, _, (1, .box 26 [.v (.int .i64 c.Kind), .v (.string c.Text), .v (.bool c.Path.Null), .v (.string c.Path.Local), .v (.string c.Path.Domain), .fl .shr 2 (List.flatten (List.map T_Param.enc c.Params))]), (2, .v (.string (⟨#[]⟩ : ByteArray))), (3, .v (.int .i64 0))] [0,1] [1,2] [zq [0] 2 1, zq [] 3 2, zq [] 4 3] [(_,_),(_,_)] (by kernel_rfl) rfl rfl ⟨zp rfl (op_box _ _ _ _ rfl rfl rfl),za rfl rfl rfl,za rfl rfl rfl,trivial⟩ ?_
  refine pt_then ?_
  refine ht_seq ?_
  obtain ⟨v1, hv1, h⟩ := bind_some h
  refine zh hn [_, _, (7, .agg [.v (.int .i64 c.Kind), .v (.string c.Text), .v (.bool c.Path.Null), .v (.string c.Path.Local), .v (.string c.Path.Domain), .fl .shr 2 (List.flatten (List.map T_Param.enc c.Params))]), (8, .v (.string v1)), (4, .v (.string v1))] [0,1] [0,1,4] [zq [1] 2 7, zq [2,0] 3 8, zq [3] 4 4] [(_,_),(_,_),(_,_)] (by kernel_rfl) rfl rfl ⟨zp rfl (op_loadA _ _ _ _ _ _ _ Tryz.underlying26 rfl sz26 rfl rfl (zl rfl) rfl rfl),zp rfl (op_callG _ _ 23 29 _ _ rfl Tryz.call29 rfl rfl (fun _ h => h) (ok_verb_format mx ((T_Cmd.mk c.Kind c.Text (T_Path.mk c.Path.Null c.Path.Local c.Path.Domain) c.Params)) _ hv1) rfl rfl),za rfl rfl rfl,trivial⟩ ?_
  refine pt_then ?_
  refine ht_seq ?_
  obtain ⟨v2, hv2, h⟩ := bind_some h
  refine zh hn [_, _, _, (10, .v (.string v1)), (11, .tup [.agg [.v (.int .i64 v2.1.Kind), .v (.string v2.1.Text), .v (.bool v2.1.Path.Null), .v (.string v2.1.Path.Local), .v (.string v2.1.Path.Domain), .fl .ro 2 (List.flatten (List.map T_Param.enc v2.1.Params))], .v (.int .i64 v2.2)]), (9, .tup [.agg [.v (.int .i64 v2.1.Kind), .v (.string v2.1.Text), .v (.bool v2.1.Path.Null), .v (.string v2.1.Path.Local), .v (.string v2.1.Path.Domain), .fl .ro 2 (List.flatten (List.map T_Param.enc v2.1.Params))], .v (.int .i64 v2.2)]), (12, .agg [.v (.int .i64 v2.1.Kind), .v (.string v2.1.Text), .v (.bool v2.1.Path.Null), .v (.string v2.1.Path.Local), .v (.string v2.1.Path.Domain), .fl .ro 2 (List.flatten (List.map T_Param.enc v2.1.Params))]), (13, .v (.int .i64 v2.2)), (5, .box 26 [.v (.int .i64 0), .v (.string (⟨#[]⟩ : ByteArray)), .v (.bool false), .v (.string (⟨#[]⟩ : ByteArray)), .v (.string (⟨#[]⟩ : ByteArray)), .v (.slice none 0 0)]), (5, .box 26 [.v (.int .i64 v2.1.Kind), .v (.string v2.1.Text), .v (.bool v2.1.Path.Null), .v (.string v2.1.Path.Local), .v (.string v2.1.Path.Domain), .fl .ro 2 (List.flatten (List.map T_Param.enc v2.1.Params))]), (6, .v (.int .i64 v2.2))] [0,1,2] [0,1,2,9,10] [zq [2] 3 10, zq [3,0] 4 11, ⟨[], [4], [5], [(.slot 9)]⟩, zq [5] 6 12, zq [5] 7 13, zq [] 8 5, ⟨[6], [8], [9], [.cell 5 0, .cell 5 1, .cell 5 2, .cell 5 3, .cell 5 4, .cell 5 5]⟩, zq [7] 10 6] [(_,_),(_,_),(_,_),(_,_),(_,_)] (by kernel_rfl) rfl rfl ⟨zm rfl rfl rfl,zp rfl (op_callG _ _ 23 6 _ _ rfl Tryz.call6 rfl rfl (fun _ h => h) (ok_verb_Parse mx v1 _ hv2) rfl rfl),zp rfl (op_move_take _ _ _ _ rfl),zp rfl (op_extract_no _ _ _ _ _ _ rfl rfl (zl rfl) rfl rfl),zp rfl (op_extract _ _ _ _ _ rfl rfl (zl rfl) rfl rfl),zp rfl (op_alloc _ _ zr26),zp rfl (op_store _ _ _ _ _ _ _ _ sz26 rfl rfl rfl rfl (zl rfl) rfl rfl),za rfl rfl rfl,trivial⟩ ?_
  refine pt_then ?_
  refine ht_seq ?_
  refine ht_seq ?_
  refine ht_joinS h (fun (s4 : Bool) => [(23, .glob (GL mx)), (4, .v (.string v1)), (21, .v (.bool s4))]) ?_ ?_
  ·rintro s4 h
   refine pt_then ?_
   refine ht_cond _ rfl (fun hb8 => ?_) (fun hb8 => ?_)
   ·have h := cond_t hb8 h
    refine ht_seq ?_
    refine zh hn [_, _, _, (2, .v (.string (⟨#[]⟩ : ByteArray))), (3, .v (.int .i64 5))] [0,1,2] [0,3,4] [zq [] 3 2, zq [] 4 3] [(_,_),(_,_),(_,_)] (by kernel_rfl) rfl rfl ⟨za rfl rfl rfl,za rfl rfl rfl,trivial⟩ ?_
    refine pt_then ?_
    refine ht_ret ?_
    refine pt_pick [1, 2] (by kernel_rfl) (es' := [(_, _), (_, _)]) rfl ?_
    refine pt_r_then ?_
    obtain rfl := Option.some.inj h
    exact pt_ret hio rfl (.tmp _ _ (.tmp _ _ .nil)) rfl rfl
   ·have h := cond_f hb8 h
    refine ht_skip ?_
    refine pt_then ?_
    refine ht_seq ?_
    refine zh hn [_, _, _, (22, .v (.string v1)), (2, .v (.string v1)), (3, .v (.int .i64 0))] [0,1,2] [0,4,5] [zq [1] 3 22, zq [3] 4 2, zq [] 5 3] [(_,_),(_,_),(_,_)] (by kernel_rfl) rfl rfl ⟨zm rfl rfl rfl,za rfl rfl rfl,za rfl rfl rfl,trivial⟩ ?_
    refine pt_then ?_
    refine ht_ret ?_
    refine pt_pick [1, 2] (by kernel_rfl) (es' := [(_, _), (_, _)]) rfl ?_
    obtain rfl := Option.some.inj h
    exact pt_ret hio rfl (.tmp _ _ (.tmp _ _ .nil)) rfl rfl
  ·intro u5 h hl6 hr7
   refine cond_some h (fun hg3_2 h => ?_) (fun hg3_2 h => ?_)
   ·refine zh hn [_, _, _, _, _, (14, .v (.int .i64 v2.2)), (15, .v (.bool (v2.2 != 0))), (16, .v (.bool true)), (17, .v undef), (18, .v undef), (19, .v undef), (20, .v undef), (21, .v (.bool true))] [0,1,2,3,4] [0,2,12] [zq [4] 5 14, zq [5] 6 15, zq [6] 7 16, zq [7] 8 17, zq [7] 9 18, zq [7] 10 19, zq [7] 11 20, zq [7] 12 21] [(_,_),(_,_),(_,_)] (by kernel_rfl) rfl rfl ⟨zm rfl rfl rfl,zo rfl rfl rfl rfl,zm rfl (zb hg3_2) rfl,zs 2 false rfl rfl rfl rfl,zs 2 false rfl rfl rfl rfl,zs 2 false rfl rfl rfl rfl,zs 2 false rfl rfl rfl rfl,zk true rfl rfl rfl,trivial⟩ ?_
    exact hl6 _ (Option.some.inj h).symm
   ·obtain ⟨v3, hv3, h⟩ := bind_some h
    refine zh hn [_, _, _, _, _, (14, .v (.int .i64 v2.2)), (15, .v (.bool (v2.2 != 0))), (16, .v (.bool false)), (17, .agg [.v (.int .i64 c.Kind), .v (.string c.Text), .v (.bool c.Path.Null), .v (.string c.Path.Local), .v (.string c.Path.Domain), .fl .shr 2 (List.flatten (List.map T_Param.enc c.Params))]), (18, .agg [.v (.int .i64 v2.1.Kind), .v (.string v2.1.Text), .v (.bool v2.1.Path.Null), .v (.string v2.1.Path.Local), .v (.string v2.1.Path.Domain), .fl .ro 2 (List.flatten (List.map T_Param.enc v2.1.Params))]), (19, .v (.bool v3)), (20, .v (.bool (!v3))), (21, .v (.bool (!v3)))] [0,1,2,3,4] [0,2,12] [zq [4] 5 14, zq [5] 6 15, zq [6] 7 16, zq [7,1] 8 17, zq [7,3] 9 18, zq [7,8,9] 10 19, zq [7,10] 11 20, zq [7,11] 12 21] [(_,_),(_,_),(_,_)] (by kernel_rfl) rfl rfl ⟨zm rfl rfl rfl,zo rfl rfl rfl rfl,zm rfl (zb hg3_2) rfl,zr 2 rfl rfl rfl (op_loadA _ _ _ _ _ _ _ Tryz.underlying26 rfl sz26 rfl rfl (zl rfl) rfl rfl),zr 2 rfl rfl rfl (op_loadA _ _ _ _ _ _ _ Tryz.underlying26 rfl sz26 rfl rfl (zl rfl) rfl rfl),zr 2 rfl rfl rfl (op_call _ _ 30 _ _ rfl Tryz.call30 rfl (ok_verb_same ((T_Cmd.mk c.Kind c.Text (T_Path.mk c.Path.Null c.Path.Local c.Path.Domain) c.Params)) ((T_Cmd.mk v2.1.Kind v2.1.Text (T_Path.mk v2.1.Path.Null v2.1.Path.Local v2.1.Path.Domain) v2.1.Params)) _ hv3) rfl rfl),zr 2 rfl rfl rfl (op_un _ _ _ _ rfl rfl),zk false rfl rfl rfl,trivial⟩ ?_
    exact hl6 _ (Option.some.inj h).symm
set_option maxHeartbeats 1000000 in
theorem ok_wherrylaw12_wakes (mx : Int) (r : Bool) (h : Sh.wherrylaw12_wakes  = some r) : FnG Tryz.prog (GL mx) 13 [] (.v (.bool r)) := by
  unfold Sh.wherrylaw12_wakes at h
  refine fn_okG Tryz.func13 rfl (zl rfl) rfl rfl fun g0 hn hio => ?_
  refine ht_seq ?_
  refine zh hn [_, (0, .v (.bool false))] [0] [0] [zq [] 1 0] [(_,_)] (by kernel_rfl) rfl rfl ⟨za rfl rfl rfl,trivial⟩ ?_
  refine pt_then ?_
  refine ht_seq ?_
  obtain ⟨v1, hv1, h⟩ := bind_some h
  refine zh hn [_, (10, .tup [.agg [.v (.int .i64 v1.1.Kind), .v (.string v1.1.Text), .v (.bool v1.1.Path.Null), .v (.string v1.1.Path.Local), .v (.string v1.1.Path.Domain), .fl .ro 2 (List.flatten (List.map T_Param.enc v1.1.Params))], .v (.int .i64 v1.2)]), (9, .tup [.agg [.v (.int .i64 v1.1.Kind), .v (.string v1.1.Text), .v (.bool v1.1.Path.Null), .v (.string v1.1.Path.Local), .v (.string v1.1.Path.Domain), .fl .ro 2 (List.flatten (List.map T_Param.enc v1.1.Params))], .v (.int .i64 v1.2)]), (11, .agg [.v (.int .i64 v1.1.Kind), .v (.string v1.1.Text), .v (.bool v1.1.Path.Null), .v (.string v1.1.Path.Local), .v (.string v1.1.Path.Domain), .fl .ro 2 (List.flatten (List.map T_Param.enc v1.1.Params))]), (12, .v (.int .i64 v1.2)), (1, .box 26 [.v (.int .i64 0), .v (.string (⟨#[]⟩ : ByteArray)), .v (.bool false), .v (.string (⟨#[]⟩ : ByteArray)), .v (.string (⟨#[]⟩ : ByteArray)), .v (.slice none 0 0)]), (1, .box 26 [.v (.int .i64 v1.1.Kind), .v (.string v1.1.Text), .v (.bool v1.1.Path.Null), .v (.string v1.1.Path.Local), .v (.string v1.1.Path.Domain), .fl .ro 2 (List.flatten (List.map T_Param.enc v1.1.Params))]), (2, .v (.int .i64 v1.2))] [0] [0,6,7] [zq [0] 1 10, ⟨[], [1], [2], [(.slot 9)]⟩, zq [2] 3 11, zq [2] 4 12, zq [] 5 1, ⟨[3], [5], [6], [.cell 1 0, .cell 1 1, .cell 1 2, .cell 1 3, .cell 1 4, .cell 1 5]⟩, zq [4] 7 2] [(_,_),(_,_),(_,_)] (by kernel_rfl) rfl rfl ⟨zp rfl (op_callG _ _ 58 6 _ _ rfl Tryz.call6 rfl rfl (fun _ h => h) (ok_verb_Parse mx (⟨#[109, 97, 105, 108, 32, 102, 114, 111, 109, 58, 60, 62, 32, 115, 105, 122, 101, 61, 53]⟩ : ByteArray) _ hv1) rfl rfl),zp rfl (op_move_take _ _ _ _ rfl),zp rfl (op_extract_no _ _ _ _ _ _ rfl rfl (zl rfl) rfl rfl),zp rfl (op_extract _ _ _ _ _ rfl rfl (zl rfl) rfl rfl),zp rfl (op_alloc _ _ zr26),zp rfl (op_store _ _ _ _ _ _ _ _ sz26 rfl rfl rfl rfl (zl rfl) rfl rfl),za rfl rfl rfl,trivial⟩ ?_
  refine pt_then ?_
  refine ht_seq ?_
  obtain ⟨v2, hv2, h⟩ := bind_some h
  refine zh hn [_, _, _, (14, .agg [.v (.int .i64 v1.1.Kind), .v (.string v1.1.Text), .v (.bool v1.1.Path.Null), .v (.string v1.1.Path.Local), .v (.string v1.1.Path.Domain), .fl .ro 2 (List.flatten (List.map T_Param.enc v1.1.Params))]), (15, .tup [.v (.string v2.1), .v (.int .i64 v2.2)]), (13, .tup [.v (.string v2.1), .v (.int .i64 v2.2)]), (16, .v (.string v2.1)), (17, .v (.int .i64 v2.2)), (3, .v (.string v2.1)), (4, .v (.int .i64 v2.2))] [0,1,2] [0,1,2,8,9] [zq [1] 3 14, zq [3,0] 4 15, ⟨[], [4], [5], [(.slot 13)]⟩, zq [5] 6 16, zq [5] 7 17, zq [6] 8 3, zq [7] 9 4] [(_,_),(_,_),(_,_),(_,_),(_,_)] (by kernel_rfl) rfl rfl ⟨zp rfl (op_loadA _ _ _ _ _ _ _ Tryz.underlying26 rfl sz26 rfl rfl (zl rfl) rfl rfl),zp rfl (op_callG _ _ 58 8 _ _ rfl Tryz.call8 rfl rfl (fun _ h => h) (ok_verb_Text mx ((T_Cmd.mk v1.1.Kind v1.1.Text (T_Path.mk v1.1.Path.Null v1.1.Path.Local v1.1.Path.Domain) v1.1.Params)) _ hv2) rfl rfl),zp rfl (op_move_take _ _ _ _ rfl),zp rfl (op_extract _ _ _ _ _ rfl rfl (zl rfl) rfl rfl),zp rfl (op_extract _ _ _ _ _ rfl rfl (zl rfl) rfl rfl),za rfl rfl rfl,za rfl rfl rfl,trivial⟩ ?_
  refine pt_then ?_
  refine ht_seq ?_
  obtain ⟨v3, hv3, h⟩ := bind_some h
  refine zh hn [_, _, _, _, _, (19, .agg [.v (.int .i64 v1.1.Kind), .v (.string v1.1.Text), .v (.bool v1.1.Path.Null), .v (.string v1.1.Path.Local), .v (.string v1.1.Path.Domain), .fl .ro 2 (List.flatten (List.map T_Param.enc v1.1.Params))]), (20, .tup [.v (.string v3.1), .v (.bool v3.2)]), (18, .tup [.v (.string v3.1), .v (.bool v3.2)]), (21, .v (.string v3.1)), (22, .v (.bool v3.2)), (5, .v (.string v3.1)), (6, .v (.bool v3.2))] [0,1,2,3,4] [0,1,2,3,4,10,11] [zq [1] 5 19, zq [5] 6 20, ⟨[], [6], [7], [(.slot 18)]⟩, zq [7] 8 21, zq [7] 9 22, zq [8] 10 5, zq [9] 11 6] [(_,_),(_,_),(_,_),(_,_),(_,_),(_,_),(_,_)] (by kernel_rfl) rfl rfl ⟨zp rfl (op_loadA _ _ _ _ _ _ _ Tryz.underlying26 rfl sz26 rfl rfl (zl rfl) rfl rfl),zp rfl (op_call _ _ 10 _ _ rfl Tryz.call10 rfl (ok_verb_Param ((T_Cmd.mk v1.1.Kind v1.1.Text (T_Path.mk v1.1.Path.Null v1.1.Path.Local v1.1.Path.Domain) v1.1.Params)) (⟨#[83, 73, 90, 69]⟩ : ByteArray) _ hv3) rfl rfl),zp rfl (op_move_take _ _ _ _ rfl),zp rfl (op_extract _ _ _ _ _ rfl rfl (zl rfl) rfl rfl),zp rfl (op_extract _ _ _ _ _ rfl rfl (zl rfl) rfl rfl),za rfl rfl rfl,za rfl rfl rfl,trivial⟩ ?_
  refine pt_then ?_
  refine ht_seq ?_
  obtain ⟨v4, hv4, h⟩ := bind_some h
  refine zh hn [_, _, _, _, _, _, _, (24, .tup [.agg [.v (.int .i64 v4.1.Kind), .v (.string v4.1.Text), .v (.bool v4.1.Path.Null), .v (.string v4.1.Path.Local), .v (.string v4.1.Path.Domain), .fl .ro 2 (List.flatten (List.map T_Param.enc v4.1.Params))], .v (.int .i64 v4.2)]), (23, .tup [.agg [.v (.int .i64 v4.1.Kind), .v (.string v4.1.Text), .v (.bool v4.1.Path.Null), .v (.string v4.1.Path.Local), .v (.string v4.1.Path.Domain), .fl .ro 2 (List.flatten (List.map T_Param.enc v4.1.Params))], .v (.int .i64 v4.2)]), (25, .agg [.v (.int .i64 v4.1.Kind), .v (.string v4.1.Text), .v (.bool v4.1.Path.Null), .v (.string v4.1.Path.Local), .v (.string v4.1.Path.Domain), .fl .ro 2 (List.flatten (List.map T_Param.enc v4.1.Params))]), (26, .v (.int .i64 v4.2)), (7, .box 26 [.v (.int .i64 0), .v (.string (⟨#[]⟩ : ByteArray)), .v (.bool false), .v (.string (⟨#[]⟩ : ByteArray)), .v (.string (⟨#[]⟩ : ByteArray)), .v (.slice none 0 0)]), (7, .box 26 [.v (.int .i64 v4.1.Kind), .v (.string v4.1.Text), .v (.bool v4.1.Path.Null), .v (.string v4.1.Path.Local), .v (.string v4.1.Path.Domain), .fl .ro 2 (List.flatten (List.map T_Param.enc v4.1.Params))]), (8, .v (.int .i64 v4.2))] [0,1,2,3,4,5,6] [0,1,2,3,4,5,6,13] [zq [0] 7 24, ⟨[], [7], [8], [(.slot 23)]⟩, zq [8] 9 25, zq [8] 10 26, zq [] 11 7, ⟨[9], [11], [12], [.cell 7 0, .cell 7 1, .cell 7 2, .cell 7 3, .cell 7 4, .cell 7 5]⟩, zq [10] 13 8] [(_,_),(_,_),(_,_),(_,_),(_,_),(_,_),(_,_),(_,_)] (by kernel_rfl) rfl rfl ⟨zp rfl (op_callG _ _ 58 6 _ _ rfl Tryz.call6 rfl rfl (fun _ h => h) (ok_verb_Parse mx (⟨#[70, 82, 79, 66]⟩ : ByteArray) _ hv4) rfl rfl),zp rfl (op_move_take _ _ _ _ rfl),zp rfl (op_extract_no _ _ _ _ _ _ rfl rfl (zl rfl) rfl rfl),zp rfl (op_extract _ _ _ _ _ rfl rfl (zl rfl) rfl rfl),zp rfl (op_alloc _ _ zr26),zp rfl (op_store _ _ _ _ _ _ _ _ sz26 rfl rfl rfl rfl (zl rfl) rfl rfl),za rfl rfl rfl,trivial⟩ ?_
  refine pt_then ?_
  refine ht_seq ?_
  refine ht_joinS h (fun (s5 : Bool) => [(58, .glob (GL mx)), (0, .v (.bool s5))]) ?_ ?_
  ·rintro s5 h
   refine pt_then ?_
   refine ht_ret ?_
   refine pt_pick [1] (by kernel_rfl) (es' := [(_, _)]) rfl ?_
   obtain rfl := Option.some.inj h
   exact pt_ret hio rfl (.tmp _ _ .nil) rfl rfl
  ·intro u6 h hl7 hr8
   refine cond_some h (fun hg5_2 h => ?_) (fun hg5_2 h => ?_)
   ·refine cond_some h (fun hg5_6 h => ?_) (fun hg5_6 h => ?_)
    ·refine cond_some h (fun hg5_11 h => ?_) (fun hg5_11 h => ?_)
     ·refine cond_some h (fun hg5_16 h => ?_) (fun hg5_16 h => ?_)
      ·refine cond_some h (fun hg5_20 h => ?_) (fun hg5_20 h => ?_)
       ·refine cond_some h (fun hg5_23 h => ?_) (fun hg5_23 h => ?_)
        ·refine cond_some h (fun hg5_27 h => ?_) (fun hg5_27 h => ?_)
         ·refine zh hn (_ :: _ :: _ :: _ :: _ :: _ :: _ :: _ :: (27, .v (.int .i64 v1.2)) :: (28, .v (.bool (v1.2 == 0))) :: (29, .v (.bool true)) :: (30, .v (.int .i64 v2.2)) :: (31, .v (.bool (v2.2 == 0))) :: (32, .v (.bool (v2.2 == 0))) :: (33, .v (.bool true)) :: (34, .ptr 1 0) :: (35, .v (.int .i64 v1.1.Kind)) :: (36, .v (.bool (v1.1.Kind == 2))) :: (37, .v (.bool (v1.1.Kind == 2))) :: (38, .v (.bool true)) :: (39, .ptr 1 2) :: (40, .ptr 1 2) :: (41, .v (.bool v1.1.Path.Null)) :: (42, .v (.bool v1.1.Path.Null)) :: (43, .v (.bool true)) :: (44, .v (.string v2.1)) :: (45, .v (.bool ((v2.1.toList == (⟨#[77, 65, 73, 76, 32, 70, 82, 79, 77, 58, 60, 62, 32, 83, 73, 90, 69, 61, 53]⟩ : ByteArray).toList)))) :: (46, .v (.bool ((v2.1.toList == (⟨#[77, 65, 73, 76, 32, 70, 82, 79, 77, 58, 60, 62, 32, 83, 73, 90, 69, 61, 53]⟩ : ByteArray).toList)))) :: (47, .v (.bool true)) :: (48, .v (.bool v3.2)) :: (49, .v (.bool v3.2)) :: (50, .v (.bool true)) :: (51, .v (.string v3.1)) :: (52, .v (.bool ((v3.1.toList == (⟨#[53]⟩ : ByteArray).toList)))) :: (53, .v (.bool ((v3.1.toList == (⟨#[53]⟩ : ByteArray).toList)))) :: (54, .v (.bool true)) :: (55, .v (.int .i64 v4.2)) :: (56, .v (.bool (v4.2 == 500))) :: (57, .v (.bool (v4.2 == 500))) :: (0, .v (.bool (v4.2 == 500))) :: []) [0,1,2,3,4,5,6,7] [0,39] (zq [2] 8 27 :: zq [8] 9 28 :: zq [9] 10 29 :: zq [10,4] 11 30 :: zq [10,11] 12 31 :: zq [10,12] 13 32 :: zq [13] 14 33 :: zq [14,1] 15 34 :: zq [14,15,1] 16 35 :: zq [14,16] 17 36 :: zq [14,17] 18 37 :: zq [18] 19 38 :: zq [19,1] 20 39 :: zq [19,20,1] 21 40 :: zq [19,21,1] 22 41 :: zq [19,22] 23 42 :: zq [23] 24 43 :: zq [24,3] 25 44 :: zq [24,25] 26 45 :: zq [24,26] 27 46 :: zq [27] 28 47 :: zq [28,6] 29 48 :: zq [28,29] 30 49 :: zq [30] 31 50 :: zq [31,5] 32 51 :: zq [31,32] 33 52 :: zq [31,33] 34 53 :: zq [34] 35 54 :: zq [35,7] 36 55 :: zq [35,36] 37 56 :: zq [35,37] 38 57 :: zq [38] 39 0 :: []) [(_,_),(_,_)] (by kernel_rfl) rfl rfl ⟨zm rfl rfl rfl,zo rfl rfl rfl rfl,zm rfl (zb hg5_2) rfl,zr 2 rfl rfl rfl (op_move _ _ _ _ rfl rfl),zr 2 rfl rfl rfl (op_bin _ _ _ _ _ rfl rfl rfl),zk true rfl rfl rfl,zm rfl (zb hg5_6) rfl,zr 6 rfl rfl rfl (op_fieldAddr _ _ _ _ 1 0 _ Tryz.underlying26 rfl sz3 rfl rfl (by decide)),zr 6 rfl rfl rfl (op_load _ _ _ _ _ _ Tryz.underlying3 rfl rfl rfl (zl rfl) rfl rfl rfl),zr 6 rfl rfl rfl (op_bin _ _ _ _ _ rfl rfl rfl),zk true rfl rfl rfl,zm rfl (zb hg5_11) rfl,zr 11 rfl rfl rfl (op_fieldAddr _ _ _ _ 1 0 _ Tryz.underlying26 rfl sz23 rfl rfl (by decide)),zr 11 rfl rfl rfl (op_fieldAddr _ _ _ _ 1 2 _ Tryz.underlying23 rfl sz4 rfl rfl (by decide)),zr 11 rfl rfl rfl (op_load _ _ _ _ _ _ Tryz.underlying4 rfl rfl rfl (zl rfl) rfl rfl rfl),zk true rfl rfl rfl,zm rfl (zb hg5_16) rfl,zr 16 rfl rfl rfl (op_move _ _ _ _ rfl rfl),zr 16 rfl rfl rfl (op_bin _ _ _ _ _ rfl rfl rfl),zk true rfl rfl rfl,zm rfl (zb hg5_20) rfl,zr 20 rfl rfl rfl (op_move _ _ _ _ rfl rfl),zk true rfl rfl rfl,zm rfl (zb hg5_23) rfl,zr 23 rfl rfl rfl (op_move _ _ _ _ rfl rfl),zr 23 rfl rfl rfl (op_bin _ _ _ _ _ rfl rfl rfl),zk true rfl rfl rfl,zm rfl (zb hg5_27) rfl,zr 27 rfl rfl rfl (op_move _ _ _ _ rfl rfl),zr 27 rfl rfl rfl (op_bin _ _ _ _ _ rfl rfl rfl),zk true rfl rfl rfl,za rfl rfl rfl,trivial⟩ ?_
          exact hl7 _ (Option.some.inj h).symm
         ·refine zh hn (_ :: _ :: _ :: _ :: _ :: _ :: _ :: _ :: (27, .v (.int .i64 v1.2)) :: (28, .v (.bool (v1.2 == 0))) :: (29, .v (.bool true)) :: (30, .v (.int .i64 v2.2)) :: (31, .v (.bool (v2.2 == 0))) :: (32, .v (.bool (v2.2 == 0))) :: (33, .v (.bool true)) :: (34, .ptr 1 0) :: (35, .v (.int .i64 v1.1.Kind)) :: (36, .v (.bool (v1.1.Kind == 2))) :: (37, .v (.bool (v1.1.Kind == 2))) :: (38, .v (.bool true)) :: (39, .ptr 1 2) :: (40, .ptr 1 2) :: (41, .v (.bool v1.1.Path.Null)) :: (42, .v (.bool v1.1.Path.Null)) :: (43, .v (.bool true)) :: (44, .v (.string v2.1)) :: (45, .v (.bool ((v2.1.toList == (⟨#[77, 65, 73, 76, 32, 70, 82, 79, 77, 58, 60, 62, 32, 83, 73, 90, 69, 61, 53]⟩ : ByteArray).toList)))) :: (46, .v (.bool ((v2.1.toList == (⟨#[77, 65, 73, 76, 32, 70, 82, 79, 77, 58, 60, 62, 32, 83, 73, 90, 69, 61, 53]⟩ : ByteArray).toList)))) :: (47, .v (.bool true)) :: (48, .v (.bool v3.2)) :: (49, .v (.bool v3.2)) :: (50, .v (.bool true)) :: (51, .v (.string v3.1)) :: (52, .v (.bool ((v3.1.toList == (⟨#[53]⟩ : ByteArray).toList)))) :: (53, .v (.bool ((v3.1.toList == (⟨#[53]⟩ : ByteArray).toList)))) :: (54, .v (.bool false)) :: (55, .v undef) :: (56, .v undef) :: (57, .v (.bool false)) :: (0, .v (.bool false)) :: []) [0,1,2,3,4,5,6,7] [0,39] (zq [2] 8 27 :: zq [8] 9 28 :: zq [9] 10 29 :: zq [10,4] 11 30 :: zq [10,11] 12 31 :: zq [10,12] 13 32 :: zq [13] 14 33 :: zq [14,1] 15 34 :: zq [14,15,1] 16 35 :: zq [14,16] 17 36 :: zq [14,17] 18 37 :: zq [18] 19 38 :: zq [19,1] 20 39 :: zq [19,20,1] 21 40 :: zq [19,21,1] 22 41 :: zq [19,22] 23 42 :: zq [23] 24 43 :: zq [24,3] 25 44 :: zq [24,25] 26 45 :: zq [24,26] 27 46 :: zq [27] 28 47 :: zq [28,6] 29 48 :: zq [28,29] 30 49 :: zq [30] 31 50 :: zq [31,5] 32 51 :: zq [31,32] 33 52 :: zq [31,33] 34 53 :: zq [34] 35 54 :: zq [35] 36 55 :: zq [35] 37 56 :: zq [35] 38 57 :: zq [38] 39 0 :: []) [(_,_),(_,_)] (by kernel_rfl) rfl rfl ⟨zm rfl rfl rfl,zo rfl rfl rfl rfl,zm rfl (zb hg5_2) rfl,zr 2 rfl rfl rfl (op_move _ _ _ _ rfl rfl),zr 2 rfl rfl rfl (op_bin _ _ _ _ _ rfl rfl rfl),zk true rfl rfl rfl,zm rfl (zb hg5_6) rfl,zr 6 rfl rfl rfl (op_fieldAddr _ _ _ _ 1 0 _ Tryz.underlying26 rfl sz3 rfl rfl (by decide)),zr 6 rfl rfl rfl (op_load _ _ _ _ _ _ Tryz.underlying3 rfl rfl rfl (zl rfl) rfl rfl rfl),zr 6 rfl rfl rfl (op_bin _ _ _ _ _ rfl rfl rfl),zk true rfl rfl rfl,zm rfl (zb hg5_11) rfl,zr 11 rfl rfl rfl (op_fieldAddr _ _ _ _ 1 0 _ Tryz.underlying26 rfl sz23 rfl rfl (by decide)),zr 11 rfl rfl rfl (op_fieldAddr _ _ _ _ 1 2 _ Tryz.underlying23 rfl sz4 rfl rfl (by decide)),zr 11 rfl rfl rfl (op_load _ _ _ _ _ _ Tryz.underlying4 rfl rfl rfl (zl rfl) rfl rfl rfl),zk true rfl rfl rfl,zm rfl (zb hg5_16) rfl,zr 16 rfl rfl rfl (op_move _ _ _ _ rfl rfl),zr 16 rfl rfl rfl (op_bin _ _ _ _ _ rfl rfl rfl),zk true rfl rfl rfl,zm rfl (zb hg5_20) rfl,zr 20 rfl rfl rfl (op_move _ _ _ _ rfl rfl),zk true rfl rfl rfl,zm rfl (zb hg5_23) rfl,zr 23 rfl rfl rfl (op_move _ _ _ _ rfl rfl),zr 23 rfl rfl rfl (op_bin _ _ _ _ _ rfl rfl rfl),zk true rfl rfl rfl,zm rfl (zb hg5_27) rfl,zs 27 true rfl rfl rfl rfl,zs 27 true rfl rfl rfl rfl,zk false rfl rfl rfl,za rfl rfl rfl,trivial⟩ ?_
          exact hl7 _ (Option.some.inj h).symm
        ·refine zh hn (_ :: _ :: _ :: _ :: _ :: _ :: _ :: _ :: (27, .v (.int .i64 v1.2)) :: (28, .v (.bool (v1.2 == 0))) :: (29, .v (.bool true)) :: (30, .v (.int .i64 v2.2)) :: (31, .v (.bool (v2.2 == 0))) :: (32, .v (.bool (v2.2 == 0))) :: (33, .v (.bool true)) :: (34, .ptr 1 0) :: (35, .v (.int .i64 v1.1.Kind)) :: (36, .v (.bool (v1.1.Kind == 2))) :: (37, .v (.bool (v1.1.Kind == 2))) :: (38, .v (.bool true)) :: (39, .ptr 1 2) :: (40, .ptr 1 2) :: (41, .v (.bool v1.1.Path.Null)) :: (42, .v (.bool v1.1.Path.Null)) :: (43, .v (.bool true)) :: (44, .v (.string v2.1)) :: (45, .v (.bool ((v2.1.toList == (⟨#[77, 65, 73, 76, 32, 70, 82, 79, 77, 58, 60, 62, 32, 83, 73, 90, 69, 61, 53]⟩ : ByteArray).toList)))) :: (46, .v (.bool ((v2.1.toList == (⟨#[77, 65, 73, 76, 32, 70, 82, 79, 77, 58, 60, 62, 32, 83, 73, 90, 69, 61, 53]⟩ : ByteArray).toList)))) :: (47, .v (.bool true)) :: (48, .v (.bool v3.2)) :: (49, .v (.bool v3.2)) :: (50, .v (.bool false)) :: (51, .v undef) :: (52, .v undef) :: (53, .v (.bool false)) :: (54, .v (.bool false)) :: (55, .v undef) :: (56, .v undef) :: (57, .v (.bool false)) :: (0, .v (.bool false)) :: []) [0,1,2,3,4,5,6,7] [0,39] (zq [2] 8 27 :: zq [8] 9 28 :: zq [9] 10 29 :: zq [10,4] 11 30 :: zq [10,11] 12 31 :: zq [10,12] 13 32 :: zq [13] 14 33 :: zq [14,1] 15 34 :: zq [14,15,1] 16 35 :: zq [14,16] 17 36 :: zq [14,17] 18 37 :: zq [18] 19 38 :: zq [19,1] 20 39 :: zq [19,20,1] 21 40 :: zq [19,21,1] 22 41 :: zq [19,22] 23 42 :: zq [23] 24 43 :: zq [24,3] 25 44 :: zq [24,25] 26 45 :: zq [24,26] 27 46 :: zq [27] 28 47 :: zq [28,6] 29 48 :: zq [28,29] 30 49 :: zq [30] 31 50 :: zq [31] 32 51 :: zq [31] 33 52 :: zq [31] 34 53 :: zq [34] 35 54 :: zq [35] 36 55 :: zq [35] 37 56 :: zq [35] 38 57 :: zq [38] 39 0 :: []) [(_,_),(_,_)] (by kernel_rfl) rfl rfl ⟨zm rfl rfl rfl,zo rfl rfl rfl rfl,zm rfl (zb hg5_2) rfl,zr 2 rfl rfl rfl (op_move _ _ _ _ rfl rfl),zr 2 rfl rfl rfl (op_bin _ _ _ _ _ rfl rfl rfl),zk true rfl rfl rfl,zm rfl (zb hg5_6) rfl,zr 6 rfl rfl rfl (op_fieldAddr _ _ _ _ 1 0 _ Tryz.underlying26 rfl sz3 rfl rfl (by decide)),zr 6 rfl rfl rfl (op_load _ _ _ _ _ _ Tryz.underlying3 rfl rfl rfl (zl rfl) rfl rfl rfl),zr 6 rfl rfl rfl (op_bin _ _ _ _ _ rfl rfl rfl),zk true rfl rfl rfl,zm rfl (zb hg5_11) rfl,zr 11 rfl rfl rfl (op_fieldAddr _ _ _ _ 1 0 _ Tryz.underlying26 rfl sz23 rfl rfl (by decide)),zr 11 rfl rfl rfl (op_fieldAddr _ _ _ _ 1 2 _ Tryz.underlying23 rfl sz4 rfl rfl (by decide)),zr 11 rfl rfl rfl (op_load _ _ _ _ _ _ Tryz.underlying4 rfl rfl rfl (zl rfl) rfl rfl rfl),zk true rfl rfl rfl,zm rfl (zb hg5_16) rfl,zr 16 rfl rfl rfl (op_move _ _ _ _ rfl rfl),zr 16 rfl rfl rfl (op_bin _ _ _ _ _ rfl rfl rfl),zk true rfl rfl rfl,zm rfl (zb hg5_20) rfl,zr 20 rfl rfl rfl (op_move _ _ _ _ rfl rfl),zk true rfl rfl rfl,zm rfl (zb hg5_23) rfl,zs 23 true rfl rfl rfl rfl,zs 23 true rfl rfl rfl rfl,zk false rfl rfl rfl,zm rfl rfl rfl,zs 27 true rfl rfl rfl rfl,zs 27 true rfl rfl rfl rfl,zk false rfl rfl rfl,za rfl rfl rfl,trivial⟩ ?_
         exact hl7 _ (Option.some.inj h).symm
       ·refine zh hn (_ :: _ :: _ :: _ :: _ :: _ :: _ :: _ :: (27, .v (.int .i64 v1.2)) :: (28, .v (.bool (v1.2 == 0))) :: (29, .v (.bool true)) :: (30, .v (.int .i64 v2.2)) :: (31, .v (.bool (v2.2 == 0))) :: (32, .v (.bool (v2.2 == 0))) :: (33, .v (.bool true)) :: (34, .ptr 1 0) :: (35, .v (.int .i64 v1.1.Kind)) :: (36, .v (.bool (v1.1.Kind == 2))) :: (37, .v (.bool (v1.1.Kind == 2))) :: (38, .v (.bool true)) :: (39, .ptr 1 2) :: (40, .ptr 1 2) :: (41, .v (.bool v1.1.Path.Null)) :: (42, .v (.bool v1.1.Path.Null)) :: (43, .v (.bool true)) :: (44, .v (.string v2.1)) :: (45, .v (.bool ((v2.1.toList == (⟨#[77, 65, 73, 76, 32, 70, 82, 79, 77, 58, 60, 62, 32, 83, 73, 90, 69, 61, 53]⟩ : ByteArray).toList)))) :: (46, .v (.bool ((v2.1.toList == (⟨#[77, 65, 73, 76, 32, 70, 82, 79, 77, 58, 60, 62, 32, 83, 73, 90, 69, 61, 53]⟩ : ByteArray).toList)))) :: (47, .v (.bool false)) :: (48, .v undef) :: (49, .v (.bool false)) :: (50, .v (.bool false)) :: (51, .v undef) :: (52, .v undef) :: (53, .v (.bool false)) :: (54, .v (.bool false)) :: (55, .v undef) :: (56, .v undef) :: (57, .v (.bool false)) :: (0, .v (.bool false)) :: []) [0,1,2,3,4,5,6,7] [0,39] (zq [2] 8 27 :: zq [8] 9 28 :: zq [9] 10 29 :: zq [10,4] 11 30 :: zq [10,11] 12 31 :: zq [10,12] 13 32 :: zq [13] 14 33 :: zq [14,1] 15 34 :: zq [14,15,1] 16 35 :: zq [14,16] 17 36 :: zq [14,17] 18 37 :: zq [18] 19 38 :: zq [19,1] 20 39 :: zq [19,20,1] 21 40 :: zq [19,21,1] 22 41 :: zq [19,22] 23 42 :: zq [23] 24 43 :: zq [24,3] 25 44 :: zq [24,25] 26 45 :: zq [24,26] 27 46 :: zq [27] 28 47 :: zq [28] 29 48 :: zq [28] 30 49 :: zq [30] 31 50 :: zq [31] 32 51 :: zq [31] 33 52 :: zq [31] 34 53 :: zq [34] 35 54 :: zq [35] 36 55 :: zq [35] 37 56 :: zq [35] 38 57 :: zq [38] 39 0 :: []) [(_,_),(_,_)] (by kernel_rfl) rfl rfl ⟨zm rfl rfl rfl,zo rfl rfl rfl rfl,zm rfl (zb hg5_2) rfl,zr 2 rfl rfl rfl (op_move _ _ _ _ rfl rfl),zr 2 rfl rfl rfl (op_bin _ _ _ _ _ rfl rfl rfl),zk true rfl rfl rfl,zm rfl (zb hg5_6) rfl,zr 6 rfl rfl rfl (op_fieldAddr _ _ _ _ 1 0 _ Tryz.underlying26 rfl sz3 rfl rfl (by decide)),zr 6 rfl rfl rfl (op_load _ _ _ _ _ _ Tryz.underlying3 rfl rfl rfl (zl rfl) rfl rfl rfl),zr 6 rfl rfl rfl (op_bin _ _ _ _ _ rfl rfl rfl),zk true rfl rfl rfl,zm rfl (zb hg5_11) rfl,zr 11 rfl rfl rfl (op_fieldAddr _ _ _ _ 1 0 _ Tryz.underlying26 rfl sz23 rfl rfl (by decide)),zr 11 rfl rfl rfl (op_fieldAddr _ _ _ _ 1 2 _ Tryz.underlying23 rfl sz4 rfl rfl (by decide)),zr 11 rfl rfl rfl (op_load _ _ _ _ _ _ Tryz.underlying4 rfl rfl rfl (zl rfl) rfl rfl rfl),zk true rfl rfl rfl,zm rfl (zb hg5_16) rfl,zr 16 rfl rfl rfl (op_move _ _ _ _ rfl rfl),zr 16 rfl rfl rfl (op_bin _ _ _ _ _ rfl rfl rfl),zk true rfl rfl rfl,zm rfl (zb hg5_20) rfl,zs 20 true rfl rfl rfl rfl,zk false rfl rfl rfl,zm rfl rfl rfl,zs 23 true rfl rfl rfl rfl,zs 23 true rfl rfl rfl rfl,zk false rfl rfl rfl,zm rfl rfl rfl,zs 27 true rfl rfl rfl rfl,zs 27 true rfl rfl rfl rfl,zk false rfl rfl rfl,za rfl rfl rfl,trivial⟩ ?_
        exact hl7 _ (Option.some.inj h).symm
      ·refine zh hn (_ :: _ :: _ :: _ :: _ :: _ :: _ :: _ :: (27, .v (.int .i64 v1.2)) :: (28, .v (.bool (v1.2 == 0))) :: (29, .v (.bool true)) :: (30, .v (.int .i64 v2.2)) :: (31, .v (.bool (v2.2 == 0))) :: (32, .v (.bool (v2.2 == 0))) :: (33, .v (.bool true)) :: (34, .ptr 1 0) :: (35, .v (.int .i64 v1.1.Kind)) :: (36, .v (.bool (v1.1.Kind == 2))) :: (37, .v (.bool (v1.1.Kind == 2))) :: (38, .v (.bool true)) :: (39, .ptr 1 2) :: (40, .ptr 1 2) :: (41, .v (.bool v1.1.Path.Null)) :: (42, .v (.bool v1.1.Path.Null)) :: (43, .v (.bool false)) :: (44, .v undef) :: (45, .v undef) :: (46, .v (.bool false)) :: (47, .v (.bool false)) :: (48, .v undef) :: (49, .v (.bool false)) :: (50, .v (.bool false)) :: (51, .v undef) :: (52, .v undef) :: (53, .v (.bool false)) :: (54, .v (.bool false)) :: (55, .v undef) :: (56, .v undef) :: (57, .v (.bool false)) :: (0, .v (.bool false)) :: []) [0,1,2,3,4,5,6,7] [0,39] (zq [2] 8 27 :: zq [8] 9 28 :: zq [9] 10 29 :: zq [10,4] 11 30 :: zq [10,11] 12 31 :: zq [10,12] 13 32 :: zq [13] 14 33 :: zq [14,1] 15 34 :: zq [14,15,1] 16 35 :: zq [14,16] 17 36 :: zq [14,17] 18 37 :: zq [18] 19 38 :: zq [19,1] 20 39 :: zq [19,20,1] 21 40 :: zq [19,21,1] 22 41 :: zq [19,22] 23 42 :: zq [23] 24 43 :: zq [24] 25 44 :: zq [24] 26 45 :: zq [24] 27 46 :: zq [27] 28 47 :: zq [28] 29 48 :: zq [28] 30 49 :: zq [30] 31 50 :: zq [31] 32 51 :: zq [31] 33 52 :: zq [31] 34 53 :: zq [34] 35 54 :: zq [35] 36 55 :: zq [35] 37 56 :: zq [35] 38 57 :: zq [38] 39 0 :: []) [(_,_),(_,_)] (by kernel_rfl) rfl rfl ⟨zm rfl rfl rfl,zo rfl rfl rfl rfl,zm rfl (zb hg5_2) rfl,zr 2 rfl rfl rfl (op_move _ _ _ _ rfl rfl),zr 2 rfl rfl rfl (op_bin _ _ _ _ _ rfl rfl rfl),zk true rfl rfl rfl,zm rfl (zb hg5_6) rfl,zr 6 rfl rfl rfl (op_fieldAddr _ _ _ _ 1 0 _ Tryz.underlying26 rfl sz3 rfl rfl (by decide)),zr 6 rfl rfl rfl (op_load _ _ _ _ _ _ Tryz.underlying3 rfl rfl rfl (zl rfl) rfl rfl rfl),zr 6 rfl rfl rfl (op_bin _ _ _ _ _ rfl rfl rfl),zk true rfl rfl rfl,zm rfl (zb hg5_11) rfl,zr 11 rfl rfl rfl (op_fieldAddr _ _ _ _ 1 0 _ Tryz.underlying26 rfl sz23 rfl rfl (by decide)),zr 11 rfl rfl rfl (op_fieldAddr _ _ _ _ 1 2 _ Tryz.underlying23 rfl sz4 rfl rfl (by decide)),zr 11 rfl rfl rfl (op_load _ _ _ _ _ _ Tryz.underlying4 rfl rfl rfl (zl rfl) rfl rfl rfl),zk true rfl rfl rfl,zm rfl (zb hg5_16) rfl,zs 16 true rfl rfl rfl rfl,zs 16 true rfl rfl rfl rfl,zk false rfl rfl rfl,zm rfl rfl rfl,zs 20 true rfl rfl rfl rfl,zk false rfl rfl rfl,zm rfl rfl rfl,zs 23 true rfl rfl rfl rfl,zs 23 true rfl rfl rfl rfl,zk false rfl rfl rfl,zm rfl rfl rfl,zs 27 true rfl rfl rfl rfl,zs 27 true rfl rfl rfl rfl,zk false rfl rfl rfl,za rfl rfl rfl,trivial⟩ ?_
       exact hl7 _ (Option.some.inj h).symm
     ·refine zh hn (_ :: _ :: _ :: _ :: _ :: _ :: _ :: _ :: (27, .v (.int .i64 v1.2)) :: (28, .v (.bool (v1.2 == 0))) :: (29, .v (.bool true)) :: (30, .v (.int .i64 v2.2)) :: (31, .v (.bool (v2.2 == 0))) :: (32, .v (.bool (v2.2 == 0))) :: (33, .v (.bool true)) :: (34, .ptr 1 0) :: (35, .v (.int .i64 v1.1.Kind)) :: (36, .v (.bool (v1.1.Kind == 2))) :: (37, .v (.bool (v1.1.Kind == 2))) :: (38, .v (.bool false)) :: (39, .v undef) :: (40, .v undef) :: (41, .v undef) :: (42, .v (.bool false)) :: (43, .v (.bool false)) :: (44, .v undef) :: (45, .v undef) :: (46, .v (.bool false)) :: (47, .v (.bool false)) :: (48, .v undef) :: (49, .v (.bool false)) :: (50, .v (.bool false)) :: (51, .v undef) :: (52, .v undef) :: (53, .v (.bool false)) :: (54, .v (.bool false)) :: (55, .v undef) :: (56, .v undef) :: (57, .v (.bool false)) :: (0, .v (.bool false)) :: []) [0,1,2,3,4,5,6,7] [0,39] (zq [2] 8 27 :: zq [8] 9 28 :: zq [9] 10 29 :: zq [10,4] 11 30 :: zq [10,11] 12 31 :: zq [10,12] 13 32 :: zq [13] 14 33 :: zq [14,1] 15 34 :: zq [14,15,1] 16 35 :: zq [14,16] 17 36 :: zq [14,17] 18 37 :: zq [18] 19 38 :: zq [19] 20 39 :: zq [19] 21 40 :: zq [19] 22 41 :: zq [19] 23 42 :: zq [23] 24 43 :: zq [24] 25 44 :: zq [24] 26 45 :: zq [24] 27 46 :: zq [27] 28 47 :: zq [28] 29 48 :: zq [28] 30 49 :: zq [30] 31 50 :: zq [31] 32 51 :: zq [31] 33 52 :: zq [31] 34 53 :: zq [34] 35 54 :: zq [35] 36 55 :: zq [35] 37 56 :: zq [35] 38 57 :: zq [38] 39 0 :: []) [(_,_),(_,_)] (by kernel_rfl) rfl rfl ⟨zm rfl rfl rfl,zo rfl rfl rfl rfl,zm rfl (zb hg5_2) rfl,zr 2 rfl rfl rfl (op_move _ _ _ _ rfl rfl),zr 2 rfl rfl rfl (op_bin _ _ _ _ _ rfl rfl rfl),zk true rfl rfl rfl,zm rfl (zb hg5_6) rfl,zr 6 rfl rfl rfl (op_fieldAddr _ _ _ _ 1 0 _ Tryz.underlying26 rfl sz3 rfl rfl (by decide)),zr 6 rfl rfl rfl (op_load _ _ _ _ _ _ Tryz.underlying3 rfl rfl rfl (zl rfl) rfl rfl rfl),zr 6 rfl rfl rfl (op_bin _ _ _ _ _ rfl rfl rfl),zk true rfl rfl rfl,zm rfl (zb hg5_11) rfl,zs 11 true rfl rfl rfl rfl,zs 11 true rfl rfl rfl rfl,zs 11 true rfl rfl rfl rfl,zk false rfl rfl rfl,zm rfl rfl rfl,zs 16 true rfl rfl rfl rfl,zs 16 true rfl rfl rfl rfl,zk false rfl rfl rfl,zm rfl rfl rfl,zs 20 true rfl rfl rfl rfl,zk false rfl rfl rfl,zm rfl rfl rfl,zs 23 true rfl rfl rfl rfl,zs 23 true rfl rfl rfl rfl,zk false rfl rfl rfl,zm rfl rfl rfl,zs 27 true rfl rfl rfl rfl,zs 27 true rfl rfl rfl rfl,zk false rfl rfl rfl,za rfl rfl rfl,trivial⟩ ?_
      exact hl7 _ (Option.some.inj h).symm
    ·refine zh hn (_ :: _ :: _ :: _ :: _ :: _ :: _ :: _ :: (27, .v (.int .i64 v1.2)) :: (28, .v (.bool (v1.2 == 0))) :: (29, .v (.bool true)) :: (30, .v (.int .i64 v2.2)) :: (31, .v (.bool (v2.2 == 0))) :: (32, .v (.bool (v2.2 == 0))) :: (33, .v (.bool false)) :: (34, .v undef) :: (35, .v undef) :: (36, .v undef) :: (37, .v (.bool false)) :: (38, .v (.bool false)) :: (39, .v undef) :: (40, .v undef) :: (41, .v undef) :: (42, .v (.bool false)) :: (43, .v (.bool false)) :: (44, .v undef) :: (45, .v undef) :: (46, .v (.bool false)) :: (47, .v (.bool false)) :: (48, .v undef) :: (49, .v (.bool false)) :: (50, .v (.bool false)) :: (51, .v undef) :: (52, .v undef) :: (53, .v (.bool false)) :: (54, .v (.bool false)) :: (55, .v undef) :: (56, .v undef) :: (57, .v (.bool false)) :: (0, .v (.bool false)) :: []) [0,1,2,3,4,5,6,7] [0,39] (zq [2] 8 27 :: zq [8] 9 28 :: zq [9] 10 29 :: zq [10,4] 11 30 :: zq [10,11] 12 31 :: zq [10,12] 13 32 :: zq [13] 14 33 :: zq [14] 15 34 :: zq [14] 16 35 :: zq [14] 17 36 :: zq [14] 18 37 :: zq [18] 19 38 :: zq [19] 20 39 :: zq [19] 21 40 :: zq [19] 22 41 :: zq [19] 23 42 :: zq [23] 24 43 :: zq [24] 25 44 :: zq [24] 26 45 :: zq [24] 27 46 :: zq [27] 28 47 :: zq [28] 29 48 :: zq [28] 30 49 :: zq [30] 31 50 :: zq [31] 32 51 :: zq [31] 33 52 :: zq [31] 34 53 :: zq [34] 35 54 :: zq [35] 36 55 :: zq [35] 37 56 :: zq [35] 38 57 :: zq [38] 39 0 :: []) [(_,_),(_,_)] (by kernel_rfl) rfl rfl ⟨zm rfl rfl rfl,zo rfl rfl rfl rfl,zm rfl (zb hg5_2) rfl,zr 2 rfl rfl rfl (op_move _ _ _ _ rfl rfl),zr 2 rfl rfl rfl (op_bin _ _ _ _ _ rfl rfl rfl),zk true rfl rfl rfl,zm rfl (zb hg5_6) rfl,zs 6 true rfl rfl rfl rfl,zs 6 true rfl rfl rfl rfl,zs 6 true rfl rfl rfl rfl,zk false rfl rfl rfl,zm rfl rfl rfl,zs 11 true rfl rfl rfl rfl,zs 11 true rfl rfl rfl rfl,zs 11 true rfl rfl rfl rfl,zk false rfl rfl rfl,zm rfl rfl rfl,zs 16 true rfl rfl rfl rfl,zs 16 true rfl rfl rfl rfl,zk false rfl rfl rfl,zm rfl rfl rfl,zs 20 true rfl rfl rfl rfl,zk false rfl rfl rfl,zm rfl rfl rfl,zs 23 true rfl rfl rfl rfl,zs 23 true rfl rfl rfl rfl,zk false rfl rfl rfl,zm rfl rfl rfl,zs 27 true rfl rfl rfl rfl,zs 27 true rfl rfl rfl rfl,zk false rfl rfl rfl,za rfl rfl rfl,trivial⟩ ?_
     exact hl7 _ (Option.some.inj h).symm
   ·refine zh hn (_ :: _ :: _ :: _ :: _ :: _ :: _ :: _ :: (27, .v (.int .i64 v1.2)) :: (28, .v (.bool (v1.2 == 0))) :: (29, .v (.bool false)) :: (30, .v undef) :: (31, .v undef) :: (32, .v (.bool false)) :: (33, .v (.bool false)) :: (34, .v undef) :: (35, .v undef) :: (36, .v undef) :: (37, .v (.bool false)) :: (38, .v (.bool false)) :: (39, .v undef) :: (40, .v undef) :: (41, .v undef) :: (42, .v (.bool false)) :: (43, .v (.bool false)) :: (44, .v undef) :: (45, .v undef) :: (46, .v (.bool false)) :: (47, .v (.bool false)) :: (48, .v undef) :: (49, .v (.bool false)) :: (50, .v (.bool false)) :: (51, .v undef) :: (52, .v undef) :: (53, .v (.bool false)) :: (54, .v (.bool false)) :: (55, .v undef) :: (56, .v undef) :: (57, .v (.bool false)) :: (0, .v (.bool false)) :: []) [0,1,2,3,4,5,6,7] [0,39] (zq [2] 8 27 :: zq [8] 9 28 :: zq [9] 10 29 :: zq [10] 11 30 :: zq [10] 12 31 :: zq [10] 13 32 :: zq [13] 14 33 :: zq [14] 15 34 :: zq [14] 16 35 :: zq [14] 17 36 :: zq [14] 18 37 :: zq [18] 19 38 :: zq [19] 20 39 :: zq [19] 21 40 :: zq [19] 22 41 :: zq [19] 23 42 :: zq [23] 24 43 :: zq [24] 25 44 :: zq [24] 26 45 :: zq [24] 27 46 :: zq [27] 28 47 :: zq [28] 29 48 :: zq [28] 30 49 :: zq [30] 31 50 :: zq [31] 32 51 :: zq [31] 33 52 :: zq [31] 34 53 :: zq [34] 35 54 :: zq [35] 36 55 :: zq [35] 37 56 :: zq [35] 38 57 :: zq [38] 39 0 :: []) [(_,_),(_,_)] (by kernel_rfl) rfl rfl ⟨zm rfl rfl rfl,zo rfl rfl rfl rfl,zm rfl (zb hg5_2) rfl,zs 2 true rfl rfl rfl rfl,zs 2 true rfl rfl rfl rfl,zk false rfl rfl rfl,zm rfl rfl rfl,zs 6 true rfl rfl rfl rfl,zs 6 true rfl rfl rfl rfl,zs 6 true rfl rfl rfl rfl,zk false rfl rfl rfl,zm rfl rfl rfl,zs 11 true rfl rfl rfl rfl,zs 11 true rfl rfl rfl rfl,zs 11 true rfl rfl rfl rfl,zk false rfl rfl rfl,zm rfl rfl rfl,zs 16 true rfl rfl rfl rfl,zs 16 true rfl rfl rfl rfl,zk false rfl rfl rfl,zm rfl rfl rfl,zs 20 true rfl rfl rfl rfl,zk false rfl rfl rfl,zm rfl rfl rfl,zs 23 true rfl rfl rfl rfl,zs 23 true rfl rfl rfl rfl,zk false rfl rfl rfl,zm rfl rfl rfl,zs 27 true rfl rfl rfl rfl,zs 27 true rfl rfl rfl rfl,zk false rfl rfl rfl,za rfl rfl rfl,trivial⟩ ?_
    exact hl7 _ (Option.some.inj h).symm
set_option maxHeartbeats 1000000 in
theorem ok_wherryref11_Param (c : T_Cmd) (key : ByteArray) (r : (ByteArray × Bool)) (h : Sh.wherryref11_Param c key = some r) : FnOK Tryz.prog 11 [.agg [.v (.int .i64 c.Kind), .v (.string c.Text), .v (.bool c.Path.Null), .v (.string c.Path.Local), .v (.string c.Path.Domain), .fl .shr 2 (List.flatten (List.map T_Param.enc c.Params))], .v (.string key)] (.tup [.v (.string r.1), .v (.bool r.2)]) := by
  unfold Sh.wherryref11_Param at h
  refine fn_ok Tryz.func11 rfl (zl rfl) rfl rfl fun g0 hn hio => ?_
  refine ht_seq ?_
  refine zh hn [_, _, (2, .box 26 [.v (.int .i64 c.Kind), .v (.string c.Text), .v (.bool c.Path.Null), .v (.string c.Path.Local), .v (.string c.Path.Domain), .fl .shr 2 (List.flatten (List.map T_Param.enc c.Params))]), (4, .v (.string (⟨#[]⟩ : ByteArray))), (5, .v (.bool false))] [0,1] [1,2] [zq [0] 2 2, zq [] 3 4, zq [] 4 5] [(_,_),(_,_)] (by kernel_rfl) rfl rfl ⟨zp rfl (op_box _ _ _ _ rfl rfl rfl),za rfl rfl rfl,za rfl rfl rfl,trivial⟩ ?_
  refine pt_then ?_
  refine ht_seq ?_
  refine ht_seq ?_
  refine zh hn [_, _, (6, .v (.int .i64 0))] [0,1] [0,1,2] [zq [] 2 6] [(_,_),(_,_),(_,_)] (by kernel_rfl) rfl rfl ⟨za rfl rfl rfl,trivial⟩ ?_
  refine pt_then ?_
  refine ht_loopS h (fun (s11 : Int) => [(1, .v (.string key)), (2, .box 26 [.v (.int .i64 c.Kind), .v (.string c.Text), .v (.bool c.Path.Null), .v (.string c.Path.Local), .v (.string c.Path.Domain), .fl .shr 2 (List.flatten (List.map T_Param.enc c.Params))]), (6, .v (.int .i64 s11))]) (fun (() : Unit) => []) ?_ ?_
  ·rintro ⟨⟩ h
   refine pt_then ?_
   refine ht_seq ?_
   refine zh hn [(4, .v (.string (⟨#[]⟩ : ByteArray))), (5, .v (.bool false))] [] [0,1] [zq [] 0 4, zq [] 1 5] [(_,_),(_,_)] (by kernel_rfl) rfl rfl ⟨za rfl rfl rfl,za rfl rfl rfl,trivial⟩ ?_
   refine pt_then ?_
   refine ht_ret ?_
   obtain rfl := Option.some.inj h
   exact pt_ret hio rfl (.tmp _ _ (.tmp _ _ .nil)) rfl rfl
  ·rintro u14 hl15 hr16 s11 rr19 h ho17
   refine ht_seq ?_
   refine ht_seq ?_
   refine zh hn [_, _, _, (7, .v (.int .i64 s11)), (8, .ptr 2 5), (9, .fl .shr 2 (List.flatten (List.map T_Param.enc c.Params))), (10, .v (.int .i64 (c.Params.length : Int))), (11, .v (.bool ((decide (s11 < (c.Params.length : Int))))))] [0,1,2] [0,1,2,7] [zq [2] 3 7, zq [1] 4 8, zq [4,1] 5 9, zq [5] 6 10, zq [3,6] 7 11] [(_,_),(_,_),(_,_),(_,_)] (by kernel_rfl) rfl rfl ⟨zm rfl rfl rfl,zp rfl (op_fieldAddr _ _ _ _ 2 0 _ Tryz.underlying26 rfl sz24 rfl rfl (by decide)),zp rfl (op_load _ _ _ _ _ _ Tryz.underlying24 rfl rfl rfl (zl rfl) rfl rfl rfl),zp rfl (op_len_fl _ _ _ Tryz.underlying24 rfl (by decide) (flat_len T_Param.len _)),zo rfl rfl rfl rfl,trivial⟩ ?_
   refine pt_then ?_
   refine ht_cond _ rfl (fun hb20 => ?_) (fun hb20 => ?_)
   ·have h := cond_t hb20 h
    refine ht_skip ?_
    refine pt_then ?_
    refine ht_seq ?_
    refine ht_block ?_
    refine ht_seq ?_
    obtain ⟨v2, hv2, h⟩ := bind_some h
    obtain ⟨v3, hv3, h⟩ := bind_some h
    refine zh hn [_, _, _, _, (14, .ptr 2 5), (15, .fl .shr 2 (List.flatten (List.map T_Param.enc c.Params))), (16, .v (.int .i64 s11)), (17, .eref (.slot 15) (v2 * 2)), (18, .eref (.slot 15) (v2 * 2 + 0)), (19, .v (.string v3.Key)), (20, .v (.string key)), (21, .v (.bool (v3.Key.toList == key.toList)))] [0,1,2,3] [0,1,2,11] [zq [1] 4 14, zq [4,1] 5 15, zq [2] 6 16, zq [5,6] 7 17, zq [7,5] 8 18, zq [8,5] 9 19, zq [0] 10 20, zq [9,10] 11 21] [(_,_),(_,_),(_,_),(_,_)] (by kernel_rfl) rfl rfl ⟨zp rfl (op_fieldAddr _ _ _ _ 2 0 _ Tryz.underlying26 rfl sz24 rfl rfl (by decide)),zp rfl (op_load _ _ _ _ _ _ Tryz.underlying24 rfl rfl rfl (zl rfl) rfl rfl rfl),zm rfl rfl rfl,zp rfl (op_ix _ _ _ _ _ _ _ _ Tryz.underlying24 sz47 (by decide) rfl rfl rfl (ix_ok hv2).1 (flat_lt T_Param.len (ix_ok hv2).2) rfl),zp rfl (op_fieldAddr_e _ _ _ _ _ _ _ Tryz.underlying47 rfl sz9 rfl rfl rfl),zp rfl (op_load_e _ _ _ _ _ _ Tryz.underlying9 rfl rfl rfl (flat_cell T_Param.len hv3 rfl)),zm rfl rfl rfl,zo rfl rfl rfl rfl,trivial⟩ ?_
    refine pt_then ?_
    refine ht_cond _ rfl (fun hb21 => ?_) (fun hb21 => ?_)
    ·have h := cond_t hb21 h
     refine ht_seq ?_
     obtain ⟨v5, hv5, h⟩ := bind_some h
     obtain ⟨v6, hv6, h⟩ := bind_some h
     refine zh hn [_, _, _, _, (22, .ptr 2 5), (23, .fl .shr 2 (List.flatten (List.map T_Param.enc c.Params))), (24, .v (.int .i64 s11)), (25, .eref (.slot 23) (v5 * 2)), (26, .eref (.slot 23) (v5 * 2 + 1)), (27, .v (.string v6.Val)), (4, .v (.string v6.Val)), (5, .v (.bool true))] [0,1,2,3] [10,11] [zq [1] 4 22, zq [4,1] 5 23, zq [2] 6 24, zq [5,6] 7 25, zq [7,5] 8 26, zq [8,5] 9 27, zq [9] 10 4, zq [] 11 5] [(_,_),(_,_)] (by kernel_rfl) rfl rfl ⟨zp rfl (op_fieldAddr _ _ _ _ 2 0 _ Tryz.underlying26 rfl sz24 rfl rfl (by decide)),zp rfl (op_load _ _ _ _ _ _ Tryz.underlying24 rfl rfl rfl (zl rfl) rfl rfl rfl),zm rfl rfl rfl,zp rfl (op_ix _ _ _ _ _ _ _ _ Tryz.underlying24 sz47 (by decide) rfl rfl rfl (ix_ok hv5).1 (flat_lt T_Param.len (ix_ok hv5).2) rfl),zp rfl (op_fieldAddr_e _ _ _ _ _ _ _ Tryz.underlying47 rfl sz9 rfl rfl rfl),zp rfl (op_load_e _ _ _ _ _ _ Tryz.underlying9 rfl rfl rfl (flat_cell T_Param.len hv6 rfl)),za rfl rfl rfl,za rfl rfl rfl,trivial⟩ ?_
     refine pt_then ?_
     refine ht_ret ?_
     refine pt_r_in ?_
     refine pt_r_then ?_
     refine pt_r_then ?_
     refine pt_r_in ?_
     refine pt_r_then ?_
     have h := hr16 _ (ho17 _ (Option.some.inj h).symm).symm
     obtain rfl := Option.some.inj h
     exact pt_ret hio rfl (.tmp _ _ (.tmp _ _ .nil)) rfl rfl
    ·have h := cond_f hb21 h
     refine ht_skip ?_
     refine pt_inb ?_
     refine pt_then ?_
     obtain ⟨v7, hv7, h⟩ := bind_some h
     refine zh hn [_, _, _, _, (12, .v (.int .i64 s11)), (13, .v (.int .i64 v7)), (6, .v (.int .i64 v7))] [0,1,2,3] [0,1,6] [zq [2] 4 12, zq [4] 5 13, ⟨[5], [2], [6], [(.slot 6)]⟩] [(_,_),(_,_),(_,_)] (by kernel_rfl) rfl rfl ⟨zm rfl rfl rfl,zp rfl (op_bin _ _ _ _ _ rfl rfl (ibind (f := Value.int .i64) (Option.some.inj hv7))),zp rfl (LOp.drop [_] (op_assign _ _ _ _ rfl rfl)),trivial⟩ ?_
     exact pt_next _ (Option.some.inj h).symm rfl
   ·have h := cond_f hb20 h
    refine ht_exit ?_
    refine pt_x_then ?_
    refine pt_x_then ?_
    refine pt_x_in ?_
    refine pt_pick [] (by kernel_rfl) (es' := []) rfl ?_
    exact hl15 _ (ho17 _ (Option.some.inj h).symm).symm
set_option maxHeartbeats 1000000 in
theorem ok_wherrykeep_Cmd (a : T_Cmd) (b : T_Cmd) (r : Bool) (h : Sh.wherrykeep_Cmd a b = some r) : FnOK Tryz.prog 12 [.agg [.v (.int .i64 a.Kind), .v (.string a.Text), .v (.bool a.Path.Null), .v (.string a.Path.Local), .v (.string a.Path.Domain), .fl .shr 2 (List.flatten (List.map T_Param.enc a.Params))], .agg [.v (.int .i64 b.Kind), .v (.string b.Text), .v (.bool b.Path.Null), .v (.string b.Path.Local), .v (.string b.Path.Domain), .fl .shr 2 (List.flatten (List.map T_Param.enc b.Params))]] (.v (.bool r)) := by
  unfold Sh.wherrykeep_Cmd at h
  refine fn_ok Tryz.func12 rfl (zl rfl) rfl rfl fun g0 hn hio => ?_
  refine ht_seq ?_
  refine zh hn [_, _, (2, .box 26 [.v (.int .i64 a.Kind), .v (.string a.Text), .v (.bool a.Path.Null), .v (.string a.Path.Local), .v (.string a.Path.Domain), .fl .shr 2 (List.flatten (List.map T_Param.enc a.Params))]), (3, .box 26 [.v (.int .i64 b.Kind), .v (.string b.Text), .v (.bool b.Path.Null), .v (.string b.Path.Local), .v (.string b.Path.Domain), .fl .shr 2 (List.flatten (List.map T_Param.enc b.Params))]), (4, .v (.bool false))] [0,1] [2,3] [zq [0] 2 2, zq [1] 3 3, zq [] 4 4] [(_,_),(_,_)] (by kernel_rfl) rfl rfl ⟨zp rfl (op_box _ _ _ _ rfl rfl rfl),zp rfl (op_box _ _ _ _ rfl rfl rfl),za rfl rfl rfl,trivial⟩ ?_
  refine pt_then ?_
  refine ht_seq ?_
  refine ht_seq ?_
  refine ht_joinS h (fun (s2 : Bool) => [(2, .box 26 [.v (.int .i64 a.Kind), .v (.string a.Text), .v (.bool a.Path.Null), .v (.string a.Path.Local), .v (.string a.Path.Domain), .fl .shr 2 (List.flatten (List.map T_Param.enc a.Params))]), (3, .box 26 [.v (.int .i64 b.Kind), .v (.string b.Text), .v (.bool b.Path.Null), .v (.string b.Path.Local), .v (.string b.Path.Domain), .fl .shr 2 (List.flatten (List.map T_Param.enc b.Params))]), (34, .v (.bool s2))]) ?_ ?_
  ·rintro s2 h
   refine pt_then ?_
   refine ht_cond _ rfl (fun hb6 => ?_) (fun hb6 => ?_)
   ·have h := cond_t hb6 h
    refine ht_seq ?_
    refine zh hn [_, _, _, (4, .v (.bool false))] [0,1,2] [3] [zq [] 3 4] [(_,_)] (by kernel_rfl) rfl rfl ⟨za rfl rfl rfl,trivial⟩ ?_
    refine pt_then ?_
    refine ht_ret ?_
    refine pt_r_then ?_
    obtain rfl := Option.some.inj h
    exact pt_ret hio rfl (.tmp _ _ .nil) rfl rfl
   ·have h := cond_f hb6 h
    refine ht_skip ?_
    refine pt_then ?_
    refine ht_seq ?_
    refine ht_seq ?_
    refine zh hn [_, _, _, (5, .v (.int .i64 0))] [0,1,2] [0,1,3] [zq [] 3 5] [(_,_),(_,_),(_,_)] (by kernel_rfl) rfl rfl ⟨za rfl rfl rfl,trivial⟩ ?_
    refine pt_then ?_
    refine ht_loopS h (fun (s29 : Int) => [(2, .box 26 [.v (.int .i64 a.Kind), .v (.string a.Text), .v (.bool a.Path.Null), .v (.string a.Path.Local), .v (.string a.Path.Domain), .fl .shr 2 (List.flatten (List.map T_Param.enc a.Params))]), (3, .box 26 [.v (.int .i64 b.Kind), .v (.string b.Text), .v (.bool b.Path.Null), .v (.string b.Path.Local), .v (.string b.Path.Domain), .fl .shr 2 (List.flatten (List.map T_Param.enc b.Params))]), (5, .v (.int .i64 s29))]) (fun (() : Unit) => []) ?_ ?_
    ·rintro ⟨⟩ h
     refine pt_then ?_
     refine ht_seq ?_
     refine zh hn [(4, .v (.bool true))] [] [0] [zq [] 0 4] [(_,_)] (by kernel_rfl) rfl rfl ⟨za rfl rfl rfl,trivial⟩ ?_
     refine pt_then ?_
     refine ht_ret ?_
     obtain rfl := Option.some.inj h
     exact pt_ret hio rfl (.tmp _ _ .nil) rfl rfl
    ·rintro u36 hl37 hr38 s29 rr41 h ho39
     refine ht_seq ?_
     refine ht_seq ?_
     refine zh hn [_, _, _, (35, .v (.int .i64 s29)), (36, .ptr 2 5), (37, .fl .shr 2 (List.flatten (List.map T_Param.enc a.Params))), (38, .v (.int .i64 (a.Params.length : Int))), (39, .v (.bool ((decide (s29 < (a.Params.length : Int))))))] [0,1,2] [0,1,2,7] [zq [2] 3 35, zq [0] 4 36, zq [4,0] 5 37, zq [5] 6 38, zq [3,6] 7 39] [(_,_),(_,_),(_,_),(_,_)] (by kernel_rfl) rfl rfl ⟨zm rfl rfl rfl,zp rfl (op_fieldAddr _ _ _ _ 2 0 _ Tryz.underlying26 rfl sz24 rfl rfl (by decide)),zp rfl (op_load _ _ _ _ _ _ Tryz.underlying24 rfl rfl rfl (zl rfl) rfl rfl rfl),zp rfl (op_len_fl _ _ _ Tryz.underlying24 rfl (by decide) (flat_len T_Param.len _)),zo rfl rfl rfl rfl,trivial⟩ ?_
     refine pt_then ?_
     refine ht_cond _ rfl (fun hb42 => ?_) (fun hb42 => ?_)
     ·have h := cond_t hb42 h
      refine ht_skip ?_
      refine pt_then ?_
      refine ht_seq ?_
      refine ht_block ?_
      refine ht_seq ?_
      refine ht_joinS h (fun (s43 : Bool) => [(2, .box 26 [.v (.int .i64 a.Kind), .v (.string a.Text), .v (.bool a.Path.Null), .v (.string a.Path.Local), .v (.string a.Path.Domain), .fl .shr 2 (List.flatten (List.map T_Param.enc a.Params))]), (3, .box 26 [.v (.int .i64 b.Kind), .v (.string b.Text), .v (.bool b.Path.Null), .v (.string b.Path.Local), .v (.string b.Path.Domain), .fl .shr 2 (List.flatten (List.map T_Param.enc b.Params))]), (5, .v (.int .i64 s29)), (69, .v (.bool s43))]) ?_ ?_
      ·rintro s43 h
       refine pt_then ?_
       refine ht_cond _ rfl (fun hb47 => ?_) (fun hb47 => ?_)
       ·have h := cond_t hb47 h
        refine ht_seq ?_
        refine zh hn [_, _, _, _, (4, .v (.bool false))] [0,1,2,3] [4] [zq [] 4 4] [(_,_)] (by kernel_rfl) rfl rfl ⟨za rfl rfl rfl,trivial⟩ ?_
        refine pt_then ?_
        refine ht_ret ?_
        refine pt_r_in ?_
        refine pt_r_then ?_
        refine pt_r_then ?_
        refine pt_r_in ?_
        refine pt_r_then ?_
        have h := hr38 _ (ho39 _ (Option.some.inj h).symm).symm
        obtain rfl := Option.some.inj h
        exact pt_ret hio rfl (.tmp _ _ .nil) rfl rfl
       ·have h := cond_f hb47 h
        refine ht_skip ?_
        refine pt_inb ?_
        refine pt_then ?_
        obtain ⟨v21, hv21, h⟩ := bind_some h
        refine zh hn [_, _, _, _, (40, .v (.int .i64 s29)), (41, .v (.int .i64 v21)), (5, .v (.int .i64 v21))] [0,1,2,3] [0,1,6] [zq [2] 4 40, zq [4] 5 41, ⟨[5], [2], [6], [(.slot 5)]⟩] [(_,_),(_,_),(_,_)] (by kernel_rfl) rfl rfl ⟨zm rfl rfl rfl,zp rfl (op_bin _ _ _ _ _ rfl rfl (ibind (f := Value.int .i64) (Option.some.inj hv21))),zp rfl (LOp.drop [_] (op_assign _ _ _ _ rfl rfl)),trivial⟩ ?_
        exact pt_next _ (Option.some.inj h).symm rfl
      ·intro u44 h hl45 hr46
       obtain ⟨v8, hv8, h⟩ := bind_some h
       obtain ⟨v9, hv9, h⟩ := bind_some h
       obtain ⟨v10, hv10, h⟩ := bind_some h
       obtain ⟨v11, hv11, h⟩ := bind_some h
       refine cond_some h (fun hg6_13 h => ?_) (fun hg6_13 h => ?_)
       ·refine ht_anyR (by kernel_rfl) hn (El := (_ :: _ :: _ :: _ :: (42, .ptr 2 5) :: (43, .fl .shr 2 (List.flatten (List.map T_Param.enc a.Params))) :: (44, .v (.int .i64 s29)) :: (45, .eref (.slot 43) (v8 * 2)) :: (46, .eref (.slot 43) (v8 * 2 + 0)) :: (47, .v (.string v9.Key)) :: (48, .ptr 3 5) :: (49, .fl .shr 2 (List.flatten (List.map T_Param.enc b.Params))) :: (50, .v (.int .i64 s29)) :: (51, .eref (.slot 49) (v10 * 2)) :: (52, .eref (.slot 49) (v10 * 2 + 0)) :: (53, .v (.string v11.Key)) :: (54, .v (.bool ((!(v9.Key.toList == v11.Key.toList))))) :: (55, .v (.bool true)) :: (56, .v undef) :: (57, .v undef) :: (58, .v undef) :: (59, .v undef) :: (60, .v undef) :: (61, .v undef) :: (62, .v undef) :: (63, .v undef) :: (64, .v undef) :: (65, .v undef) :: (66, .v undef) :: (67, .v undef) :: (68, .v undef) :: (69, .v (.bool true)) :: [])) (init := [0, 1, 2, 3]) (fin := [0, 1, 2, 31]) (sps := (zq [0] 4 42 :: zq [4,0] 5 43 :: zq [2] 6 44 :: zq [5,6] 7 45 :: zq [7,5] 8 46 :: zq [8,5] 9 47 :: zq [1] 10 48 :: zq [10,1] 11 49 :: zq [2] 12 50 :: zq [11,12] 13 51 :: zq [13,11] 14 52 :: zq [14,11] 15 53 :: zq [9,15] 16 54 :: zq [16] 17 55 :: zq [17] 18 56 :: zq [17] 19 57 :: zq [17] 20 58 :: zq [17] 21 59 :: zq [17] 22 60 :: zq [17] 23 61 :: zq [17] 24 62 :: zq [17] 25 63 :: zq [17] 26 64 :: zq [17] 27 65 :: zq [17] 28 66 :: zq [17] 29 67 :: zq [17] 30 68 :: zq [17] 31 69 :: [])) (es' := [(_, _), (_, _), (_, _), (69, .v (.bool true))]) (by kernel_rfl) rfl rfl ⟨zp rfl (op_fieldAddr _ _ _ _ 2 0 _ Tryz.underlying26 rfl sz24 rfl rfl (by decide)),zp rfl (op_load _ _ _ _ _ _ Tryz.underlying24 rfl rfl rfl (zl rfl) rfl rfl rfl),zm rfl rfl rfl,zp rfl (op_ix _ _ _ _ _ _ _ _ Tryz.underlying24 sz47 (by decide) rfl rfl rfl (ix_ok hv8).1 (flat_lt T_Param.len (ix_ok hv8).2) rfl),zp rfl (op_fieldAddr_e _ _ _ _ _ _ _ Tryz.underlying47 rfl sz9 rfl rfl rfl),zp rfl (op_load_e _ _ _ _ _ _ Tryz.underlying9 rfl rfl rfl (flat_cell T_Param.len hv9 rfl)),zp rfl (op_fieldAddr _ _ _ _ 3 0 _ Tryz.underlying26 rfl sz24 rfl rfl (by decide)),zp rfl (op_load _ _ _ _ _ _ Tryz.underlying24 rfl rfl rfl (zl rfl) rfl rfl rfl),zm rfl rfl rfl,zp rfl (op_ix _ _ _ _ _ _ _ _ Tryz.underlying24 sz47 (by decide) rfl rfl rfl (ix_ok hv10).1 (flat_lt T_Param.len (ix_ok hv10).2) rfl),zp rfl (op_fieldAddr_e _ _ _ _ _ _ _ Tryz.underlying47 rfl sz9 rfl rfl rfl),zp rfl (op_load_e _ _ _ _ _ _ Tryz.underlying9 rfl rfl rfl (flat_cell T_Param.len hv11 rfl)),zo rfl rfl rfl rfl,zm rfl (zb hg6_13) rfl,zs 13 false rfl rfl rfl rfl,zs 13 false rfl rfl rfl rfl,zs 13 false rfl rfl rfl rfl,zs 13 false rfl rfl rfl rfl,zs 13 false rfl rfl rfl rfl,zs 13 false rfl rfl rfl rfl,zs 13 false rfl rfl rfl rfl,zs 13 false rfl rfl rfl rfl,zs 13 false rfl rfl rfl rfl,zs 13 false rfl rfl rfl rfl,zs 13 false rfl rfl rfl rfl,zs 13 false rfl rfl rfl rfl,zs 13 false rfl rfl rfl rfl,zk true rfl rfl rfl,trivial⟩ ?_
        exact hl45 _ (Option.some.inj h).symm
       ·obtain ⟨v12, hv12, h⟩ := bind_some h
        obtain ⟨v13, hv13, h⟩ := bind_some h
        obtain ⟨v14, hv14, h⟩ := bind_some h
        obtain ⟨v15, hv15, h⟩ := bind_some h
        refine ht_anyR (by kernel_rfl) hn (El := (_ :: _ :: _ :: _ :: (42, .ptr 2 5) :: (43, .fl .shr 2 (List.flatten (List.map T_Param.enc a.Params))) :: (44, .v (.int .i64 s29)) :: (45, .eref (.slot 43) (v8 * 2)) :: (46, .eref (.slot 43) (v8 * 2 + 0)) :: (47, .v (.string v9.Key)) :: (48, .ptr 3 5) :: (49, .fl .shr 2 (List.flatten (List.map T_Param.enc b.Params))) :: (50, .v (.int .i64 s29)) :: (51, .eref (.slot 49) (v10 * 2)) :: (52, .eref (.slot 49) (v10 * 2 + 0)) :: (53, .v (.string v11.Key)) :: (54, .v (.bool ((!(v9.Key.toList == v11.Key.toList))))) :: (55, .v (.bool false)) :: (56, .ptr 2 5) :: (57, .fl .shr 2 (List.flatten (List.map T_Param.enc a.Params))) :: (58, .v (.int .i64 s29)) :: (59, .eref (.slot 57) (v12 * 2)) :: (60, .eref (.slot 57) (v12 * 2 + 1)) :: (61, .v (.string v13.Val)) :: (62, .ptr 3 5) :: (63, .fl .shr 2 (List.flatten (List.map T_Param.enc b.Params))) :: (64, .v (.int .i64 s29)) :: (65, .eref (.slot 63) (v14 * 2)) :: (66, .eref (.slot 63) (v14 * 2 + 1)) :: (67, .v (.string v15.Val)) :: (68, .v (.bool ((!(v13.Val.toList == v15.Val.toList))))) :: (69, .v (.bool ((!(v13.Val.toList == v15.Val.toList))))) :: [])) (init := [0, 1, 2, 3]) (fin := [0, 1, 2, 31]) (sps := (zq [0] 4 42 :: zq [4,0] 5 43 :: zq [2] 6 44 :: zq [5,6] 7 45 :: zq [7,5] 8 46 :: zq [8,5] 9 47 :: zq [1] 10 48 :: zq [10,1] 11 49 :: zq [2] 12 50 :: zq [11,12] 13 51 :: zq [13,11] 14 52 :: zq [14,11] 15 53 :: zq [9,15] 16 54 :: zq [16] 17 55 :: zq [17,0] 18 56 :: zq [17,18,0] 19 57 :: zq [17,2] 20 58 :: zq [17,19,20] 21 59 :: zq [17,21,19] 22 60 :: zq [17,22,19] 23 61 :: zq [17,1] 24 62 :: zq [17,24,1] 25 63 :: zq [17,2] 26 64 :: zq [17,25,26] 27 65 :: zq [17,27,25] 28 66 :: zq [17,28,25] 29 67 :: zq [17,23,29] 30 68 :: zq [17,30] 31 69 :: [])) (es' := [(_, _), (_, _), (_, _), (69, .v (.bool ((!(v13.Val.toList == v15.Val.toList)))))]) (by kernel_rfl) rfl rfl ⟨zp rfl (op_fieldAddr _ _ _ _ 2 0 _ Tryz.underlying26 rfl sz24 rfl rfl (by decide)),zp rfl (op_load _ _ _ _ _ _ Tryz.underlying24 rfl rfl rfl (zl rfl) rfl rfl rfl),zm rfl rfl rfl,zp rfl (op_ix _ _ _ _ _ _ _ _ Tryz.underlying24 sz47 (by decide) rfl rfl rfl (ix_ok hv8).1 (flat_lt T_Param.len (ix_ok hv8).2) rfl),zp rfl (op_fieldAddr_e _ _ _ _ _ _ _ Tryz.underlying47 rfl sz9 rfl rfl rfl),zp rfl (op_load_e _ _ _ _ _ _ Tryz.underlying9 rfl rfl rfl (flat_cell T_Param.len hv9 rfl)),zp rfl (op_fieldAddr _ _ _ _ 3 0 _ Tryz.underlying26 rfl sz24 rfl rfl (by decide)),zp rfl (op_load _ _ _ _ _ _ Tryz.underlying24 rfl rfl rfl (zl rfl) rfl rfl rfl),zm rfl rfl rfl,zp rfl (op_ix _ _ _ _ _ _ _ _ Tryz.underlying24 sz47 (by decide) rfl rfl rfl (ix_ok hv10).1 (flat_lt T_Param.len (ix_ok hv10).2) rfl),zp rfl (op_fieldAddr_e _ _ _ _ _ _ _ Tryz.underlying47 rfl sz9 rfl rfl rfl),zp rfl (op_load_e _ _ _ _ _ _ Tryz.underlying9 rfl rfl rfl (flat_cell T_Param.len hv11 rfl)),zo rfl rfl rfl rfl,zm rfl (zb hg6_13) rfl,zr 13 rfl rfl rfl (op_fieldAddr _ _ _ _ 2 0 _ Tryz.underlying26 rfl sz24 rfl rfl (by decide)),zr 13 rfl rfl rfl (op_load _ _ _ _ _ _ Tryz.underlying24 rfl rfl rfl (zl rfl) rfl rfl rfl),zr 13 rfl rfl rfl (op_move _ _ _ _ rfl rfl),zr 13 rfl rfl rfl (op_ix _ _ _ _ _ _ _ _ Tryz.underlying24 sz47 (by decide) rfl rfl rfl (ix_ok hv12).1 (flat_lt T_Param.len (ix_ok hv12).2) rfl),zr 13 rfl rfl rfl (op_fieldAddr_e _ _ _ _ _ _ _ Tryz.underlying47 rfl sz9 rfl rfl rfl),zr 13 rfl rfl rfl (op_load_e _ _ _ _ _ _ Tryz.underlying9 rfl rfl rfl (flat_cell T_Param.len hv13 rfl)),zr 13 rfl rfl rfl (op_fieldAddr _ _ _ _ 3 0 _ Tryz.underlying26 rfl sz24 rfl rfl (by decide)),zr 13 rfl rfl rfl (op_load _ _ _ _ _ _ Tryz.underlying24 rfl rfl rfl (zl rfl) rfl rfl rfl),zr 13 rfl rfl rfl (op_move _ _ _ _ rfl rfl),zr 13 rfl rfl rfl (op_ix _ _ _ _ _ _ _ _ Tryz.underlying24 sz47 (by decide) rfl rfl rfl (ix_ok hv14).1 (flat_lt T_Param.len (ix_ok hv14).2) rfl),zr 13 rfl rfl rfl (op_fieldAddr_e _ _ _ _ _ _ _ Tryz.underlying47 rfl sz9 rfl rfl rfl),zr 13 rfl rfl rfl (op_load_e _ _ _ _ _ _ Tryz.underlying9 rfl rfl rfl (flat_cell T_Param.len hv15 rfl)),zr 13 rfl rfl rfl (op_bin _ _ _ _ _ rfl rfl rfl),zk false rfl rfl rfl,trivial⟩ ?_
        exact hl45 _ (Option.some.inj h).symm
     ·have h := cond_f hb42 h
      refine ht_exit ?_
      refine pt_x_then ?_
      refine pt_x_then ?_
      refine pt_x_in ?_
      refine pt_pick [] (by kernel_rfl) (es' := []) rfl ?_
      exact hl37 _ (ho39 _ (Option.some.inj h).symm).symm
  ·intro u3 h hl4 hr5
   refine cond_some h (fun hg1_5 h => ?_) (fun hg1_5 h => ?_)
   ·refine zh hn (_ :: _ :: (6, .ptr 2 0) :: (7, .v (.int .i64 a.Kind)) :: (8, .ptr 3 0) :: (9, .v (.int .i64 b.Kind)) :: (10, .v (.bool (a.Kind != b.Kind))) :: (11, .v (.bool true)) :: (12, .v undef) :: (13, .v undef) :: (14, .v undef) :: (15, .v undef) :: (16, .v undef) :: (17, .v (.bool true)) :: (18, .v (.bool true)) :: (19, .v undef) :: (20, .v undef) :: (21, .v undef) :: (22, .v undef) :: (23, .v undef) :: (24, .v undef) :: (25, .v (.bool true)) :: (26, .v (.bool true)) :: (27, .v undef) :: (28, .v undef) :: (29, .v undef) :: (30, .v undef) :: (31, .v undef) :: (32, .v undef) :: (33, .v undef) :: (34, .v (.bool true)) :: []) [0,1] [0,1,30] (zq [0] 2 6 :: zq [2,0] 3 7 :: zq [1] 4 8 :: zq [4,1] 5 9 :: zq [3,5] 6 10 :: zq [6] 7 11 :: zq [7] 8 12 :: zq [7] 9 13 :: zq [7] 10 14 :: zq [7] 11 15 :: zq [7] 12 16 :: zq [7] 13 17 :: zq [13] 14 18 :: zq [14] 15 19 :: zq [14] 16 20 :: zq [14] 17 21 :: zq [14] 18 22 :: zq [14] 19 23 :: zq [14] 20 24 :: zq [14] 21 25 :: zq [21] 22 26 :: zq [22] 23 27 :: zq [22] 24 28 :: zq [22] 25 29 :: zq [22] 26 30 :: zq [22] 27 31 :: zq [22] 28 32 :: zq [22] 29 33 :: zq [22] 30 34 :: []) [(_,_),(_,_),(_,_)] (by kernel_rfl) rfl rfl ⟨zp rfl (op_fieldAddr _ _ _ _ 2 0 _ Tryz.underlying26 rfl sz3 rfl rfl (by decide)),zp rfl (op_load _ _ _ _ _ _ Tryz.underlying3 rfl rfl rfl (zl rfl) rfl rfl rfl),zp rfl (op_fieldAddr _ _ _ _ 3 0 _ Tryz.underlying26 rfl sz3 rfl rfl (by decide)),zp rfl (op_load _ _ _ _ _ _ Tryz.underlying3 rfl rfl rfl (zl rfl) rfl rfl rfl),zo rfl rfl rfl rfl,zm rfl (zb hg1_5) rfl,zs 5 false rfl rfl rfl rfl,zs 5 false rfl rfl rfl rfl,zs 5 false rfl rfl rfl rfl,zs 5 false rfl rfl rfl rfl,zs 5 false rfl rfl rfl rfl,zk true rfl rfl rfl,zm rfl rfl rfl,zs 12 false rfl rfl rfl rfl,zs 12 false rfl rfl rfl rfl,zs 12 false rfl rfl rfl rfl,zs 12 false rfl rfl rfl rfl,zs 12 false rfl rfl rfl rfl,zs 12 false rfl rfl rfl rfl,zk true rfl rfl rfl,zm rfl rfl rfl,zs 20 false rfl rfl rfl rfl,zs 20 false rfl rfl rfl rfl,zs 20 false rfl rfl rfl rfl,zs 20 false rfl rfl rfl rfl,zs 20 false rfl rfl rfl rfl,zs 20 false rfl rfl rfl rfl,zs 20 false rfl rfl rfl rfl,zk true rfl rfl rfl,trivial⟩ ?_
    exact hl4 _ (Option.some.inj h).symm
   ·refine cond_some h (fun hg1_12 h => ?_) (fun hg1_12 h => ?_)
    ·refine zh hn (_ :: _ :: (6, .ptr 2 0) :: (7, .v (.int .i64 a.Kind)) :: (8, .ptr 3 0) :: (9, .v (.int .i64 b.Kind)) :: (10, .v (.bool (a.Kind != b.Kind))) :: (11, .v (.bool false)) :: (12, .ptr 2 1) :: (13, .v (.string a.Text)) :: (14, .ptr 3 1) :: (15, .v (.string b.Text)) :: (16, .v (.bool ((!(a.Text.toList == b.Text.toList))))) :: (17, .v (.bool ((!(a.Text.toList == b.Text.toList))))) :: (18, .v (.bool true)) :: (19, .v undef) :: (20, .v undef) :: (21, .v undef) :: (22, .v undef) :: (23, .v undef) :: (24, .v undef) :: (25, .v (.bool true)) :: (26, .v (.bool true)) :: (27, .v undef) :: (28, .v undef) :: (29, .v undef) :: (30, .v undef) :: (31, .v undef) :: (32, .v undef) :: (33, .v undef) :: (34, .v (.bool true)) :: []) [0,1] [0,1,30] (zq [0] 2 6 :: zq [2,0] 3 7 :: zq [1] 4 8 :: zq [4,1] 5 9 :: zq [3,5] 6 10 :: zq [6] 7 11 :: zq [7,0] 8 12 :: zq [7,8,0] 9 13 :: zq [7,1] 10 14 :: zq [7,10,1] 11 15 :: zq [7,9,11] 12 16 :: zq [7,12] 13 17 :: zq [13] 14 18 :: zq [14] 15 19 :: zq [14] 16 20 :: zq [14] 17 21 :: zq [14] 18 22 :: zq [14] 19 23 :: zq [14] 20 24 :: zq [14] 21 25 :: zq [21] 22 26 :: zq [22] 23 27 :: zq [22] 24 28 :: zq [22] 25 29 :: zq [22] 26 30 :: zq [22] 27 31 :: zq [22] 28 32 :: zq [22] 29 33 :: zq [22] 30 34 :: []) [(_,_),(_,_),(_,_)] (by kernel_rfl) rfl rfl ⟨zp rfl (op_fieldAddr _ _ _ _ 2 0 _ Tryz.underlying26 rfl sz3 rfl rfl (by decide)),zp rfl (op_load _ _ _ _ _ _ Tryz.underlying3 rfl rfl rfl (zl rfl) rfl rfl rfl),zp rfl (op_fieldAddr _ _ _ _ 3 0 _ Tryz.underlying26 rfl sz3 rfl rfl (by decide)),zp rfl (op_load _ _ _ _ _ _ Tryz.underlying3 rfl rfl rfl (zl rfl) rfl rfl rfl),zo rfl rfl rfl rfl,zm rfl (zb hg1_5) rfl,zr 5 rfl rfl rfl (op_fieldAddr _ _ _ _ 2 0 _ Tryz.underlying26 rfl sz9 rfl rfl (by decide)),zr 5 rfl rfl rfl (op_load _ _ _ _ _ _ Tryz.underlying9 rfl rfl rfl (zl rfl) rfl rfl rfl),zr 5 rfl rfl rfl (op_fieldAddr _ _ _ _ 3 0 _ Tryz.underlying26 rfl sz9 rfl rfl (by decide)),zr 5 rfl rfl rfl (op_load _ _ _ _ _ _ Tryz.underlying9 rfl rfl rfl (zl rfl) rfl rfl rfl),zr 5 rfl rfl rfl (op_bin _ _ _ _ _ rfl rfl rfl),zk false rfl rfl rfl,zm rfl (zb hg1_12) rfl,zs 12 false rfl rfl rfl rfl,zs 12 false rfl rfl rfl rfl,zs 12 false rfl rfl rfl rfl,zs 12 false rfl rfl rfl rfl,zs 12 false rfl rfl rfl rfl,zs 12 false rfl rfl rfl rfl,zk true rfl rfl rfl,zm rfl rfl rfl,zs 20 false rfl rfl rfl rfl,zs 20 false rfl rfl rfl rfl,zs 20 false rfl rfl rfl rfl,zs 20 false rfl rfl rfl rfl,zs 20 false rfl rfl rfl rfl,zs 20 false rfl rfl rfl rfl,zs 20 false rfl rfl rfl rfl,zk true rfl rfl rfl,trivial⟩ ?_
     exact hl4 _ (Option.some.inj h).symm
    ·obtain ⟨v1, hv1, h⟩ := bind_some h
     refine cond_some h (fun hg1_20 h => ?_) (fun hg1_20 h => ?_)
     ·refine zh hn (_ :: _ :: (6, .ptr 2 0) :: (7, .v (.int .i64 a.Kind)) :: (8, .ptr 3 0) :: (9, .v (.int .i64 b.Kind)) :: (10, .v (.bool (a.Kind != b.Kind))) :: (11, .v (.bool false)) :: (12, .ptr 2 1) :: (13, .v (.string a.Text)) :: (14, .ptr 3 1) :: (15, .v (.string b.Text)) :: (16, .v (.bool ((!(a.Text.toList == b.Text.toList))))) :: (17, .v (.bool ((!(a.Text.toList == b.Text.toList))))) :: (18, .v (.bool false)) :: (19, .ptr 2 2) :: (20, .agg [.v (.bool a.Path.Null), .v (.string a.Path.Local), .v (.string a.Path.Domain)]) :: (21, .ptr 3 2) :: (22, .agg [.v (.bool b.Path.Null), .v (.string b.Path.Local), .v (.string b.Path.Domain)]) :: (23, .v (.bool v1)) :: (24, .v (.bool (!v1))) :: (25, .v (.bool (!v1))) :: (26, .v (.bool true)) :: (27, .v undef) :: (28, .v undef) :: (29, .v undef) :: (30, .v undef) :: (31, .v undef) :: (32, .v undef) :: (33, .v undef) :: (34, .v (.bool true)) :: []) [0,1] [0,1,30] (zq [0] 2 6 :: zq [2,0] 3 7 :: zq [1] 4 8 :: zq [4,1] 5 9 :: zq [3,5] 6 10 :: zq [6] 7 11 :: zq [7,0] 8 12 :: zq [7,8,0] 9 13 :: zq [7,1] 10 14 :: zq [7,10,1] 11 15 :: zq [7,9,11] 12 16 :: zq [7,12] 13 17 :: zq [13] 14 18 :: zq [14,0] 15 19 :: zq [14,15,0] 16 20 :: zq [14,1] 17 21 :: zq [14,17,1] 18 22 :: zq [14,16,18] 19 23 :: zq [14,19] 20 24 :: zq [14,20] 21 25 :: zq [21] 22 26 :: zq [22] 23 27 :: zq [22] 24 28 :: zq [22] 25 29 :: zq [22] 26 30 :: zq [22] 27 31 :: zq [22] 28 32 :: zq [22] 29 33 :: zq [22] 30 34 :: []) [(_,_),(_,_),(_,_)] (by kernel_rfl) rfl rfl ⟨zp rfl (op_fieldAddr _ _ _ _ 2 0 _ Tryz.underlying26 rfl sz3 rfl rfl (by decide)),zp rfl (op_load _ _ _ _ _ _ Tryz.underlying3 rfl rfl rfl (zl rfl) rfl rfl rfl),zp rfl (op_fieldAddr _ _ _ _ 3 0 _ Tryz.underlying26 rfl sz3 rfl rfl (by decide)),zp rfl (op_load _ _ _ _ _ _ Tryz.underlying3 rfl rfl rfl (zl rfl) rfl rfl rfl),zo rfl rfl rfl rfl,zm rfl (zb hg1_5) rfl,zr 5 rfl rfl rfl (op_fieldAddr _ _ _ _ 2 0 _ Tryz.underlying26 rfl sz9 rfl rfl (by decide)),zr 5 rfl rfl rfl (op_load _ _ _ _ _ _ Tryz.underlying9 rfl rfl rfl (zl rfl) rfl rfl rfl),zr 5 rfl rfl rfl (op_fieldAddr _ _ _ _ 3 0 _ Tryz.underlying26 rfl sz9 rfl rfl (by decide)),zr 5 rfl rfl rfl (op_load _ _ _ _ _ _ Tryz.underlying9 rfl rfl rfl (zl rfl) rfl rfl rfl),zr 5 rfl rfl rfl (op_bin _ _ _ _ _ rfl rfl rfl),zk false rfl rfl rfl,zm rfl (zb hg1_12) rfl,zr 12 rfl rfl rfl (op_fieldAddr _ _ _ _ 2 0 _ Tryz.underlying26 rfl sz23 rfl rfl (by decide)),zr 12 rfl rfl rfl (op_loadA _ _ _ _ _ _ _ Tryz.underlying23 rfl sz23 rfl rfl (zl rfl) rfl rfl),zr 12 rfl rfl rfl (op_fieldAddr _ _ _ _ 3 0 _ Tryz.underlying26 rfl sz23 rfl rfl (by decide)),zr 12 rfl rfl rfl (op_loadA _ _ _ _ _ _ _ Tryz.underlying23 rfl sz23 rfl rfl (zl rfl) rfl rfl),zr 12 rfl rfl rfl (op_call _ _ 17 _ _ rfl Tryz.call17 rfl (ok_wherrykeep_Path (T_Path.mk a.Path.Null a.Path.Local a.Path.Domain) (T_Path.mk b.Path.Null b.Path.Local b.Path.Domain) _ hv1) rfl rfl),zr 12 rfl rfl rfl (op_un _ _ _ _ rfl rfl),zk false rfl rfl rfl,zm rfl (zb hg1_20) rfl,zs 20 false rfl rfl rfl rfl,zs 20 false rfl rfl rfl rfl,zs 20 false rfl rfl rfl rfl,zs 20 false rfl rfl rfl rfl,zs 20 false rfl rfl rfl rfl,zs 20 false rfl rfl rfl rfl,zs 20 false rfl rfl rfl rfl,zk true rfl rfl rfl,trivial⟩ ?_
      exact hl4 _ (Option.some.inj h).symm
     ·refine zh hn (_ :: _ :: (6, .ptr 2 0) :: (7, .v (.int .i64 a.Kind)) :: (8, .ptr 3 0) :: (9, .v (.int .i64 b.Kind)) :: (10, .v (.bool (a.Kind != b.Kind))) :: (11, .v (.bool false)) :: (12, .ptr 2 1) :: (13, .v (.string a.Text)) :: (14, .ptr 3 1) :: (15, .v (.string b.Text)) :: (16, .v (.bool ((!(a.Text.toList == b.Text.toList))))) :: (17, .v (.bool ((!(a.Text.toList == b.Text.toList))))) :: (18, .v (.bool false)) :: (19, .ptr 2 2) :: (20, .agg [.v (.bool a.Path.Null), .v (.string a.Path.Local), .v (.string a.Path.Domain)]) :: (21, .ptr 3 2) :: (22, .agg [.v (.bool b.Path.Null), .v (.string b.Path.Local), .v (.string b.Path.Domain)]) :: (23, .v (.bool v1)) :: (24, .v (.bool (!v1))) :: (25, .v (.bool (!v1))) :: (26, .v (.bool false)) :: (27, .ptr 2 5) :: (28, .fl .shr 2 (List.flatten (List.map T_Param.enc a.Params))) :: (29, .v (.int .i64 (a.Params.length : Int))) :: (30, .ptr 3 5) :: (31, .fl .shr 2 (List.flatten (List.map T_Param.enc b.Params))) :: (32, .v (.int .i64 (b.Params.length : Int))) :: (33, .v (.bool (((a.Params.length : Int) != (b.Params.length : Int))))) :: (34, .v (.bool (((a.Params.length : Int) != (b.Params.length : Int))))) :: []) [0,1] [0,1,30] (zq [0] 2 6 :: zq [2,0] 3 7 :: zq [1] 4 8 :: zq [4,1] 5 9 :: zq [3,5] 6 10 :: zq [6] 7 11 :: zq [7,0] 8 12 :: zq [7,8,0] 9 13 :: zq [7,1] 10 14 :: zq [7,10,1] 11 15 :: zq [7,9,11] 12 16 :: zq [7,12] 13 17 :: zq [13] 14 18 :: zq [14,0] 15 19 :: zq [14,15,0] 16 20 :: zq [14,1] 17 21 :: zq [14,17,1] 18 22 :: zq [14,16,18] 19 23 :: zq [14,19] 20 24 :: zq [14,20] 21 25 :: zq [21] 22 26 :: zq [22,0] 23 27 :: zq [22,23,0] 24 28 :: zq [22,24] 25 29 :: zq [22,1] 26 30 :: zq [22,26,1] 27 31 :: zq [22,27] 28 32 :: zq [22,25,28] 29 33 :: zq [22,29] 30 34 :: []) [(_,_),(_,_),(_,_)] (by kernel_rfl) rfl rfl ⟨zp rfl (op_fieldAddr _ _ _ _ 2 0 _ Tryz.underlying26 rfl sz3 rfl rfl (by decide)),zp rfl (op_load _ _ _ _ _ _ Tryz.underlying3 rfl rfl rfl (zl rfl) rfl rfl rfl),zp rfl (op_fieldAddr _ _ _ _ 3 0 _ Tryz.underlying26 rfl sz3 rfl rfl (by decide)),zp rfl (op_load _ _ _ _ _ _ Tryz.underlying3 rfl rfl rfl (zl rfl) rfl rfl rfl),zo rfl rfl rfl rfl,zm rfl (zb hg1_5) rfl,zr 5 rfl rfl rfl (op_fieldAddr _ _ _ _ 2 0 _ Tryz.underlying26 rfl sz9 rfl rfl (by decide)),zr 5 rfl rfl rfl (op_load _ _ _ _ _ _ Tryz.underlying9 rfl rfl rfl (zl rfl) rfl rfl rfl),zr 5 rfl rfl rfl (op_fieldAddr _ _ _ _ 3 0 _ Tryz.underlying26 rfl sz9 rfl rfl (by decide)),zr 5 rfl rfl rfl (op_load _ _ _ _ _ _ Tryz.underlying9 rfl rfl rfl (zl rfl) rfl rfl rfl),zr 5 rfl rfl rfl (op_bin _ _ _ _ _ rfl rfl rfl),zk false rfl rfl rfl,zm rfl (zb hg1_12) rfl,zr 12 rfl rfl rfl (op_fieldAddr _ _ _ _ 2 0 _ Tryz.underlying26 rfl sz23 rfl rfl (by decide)),zr 12 rfl rfl rfl (op_loadA _ _ _ _ _ _ _ Tryz.underlying23 rfl sz23 rfl rfl (zl rfl) rfl rfl),zr 12 rfl rfl rfl (op_fieldAddr _ _ _ _ 3 0 _ Tryz.underlying26 rfl sz23 rfl rfl (by decide)),zr 12 rfl rfl rfl (op_loadA _ _ _ _ _ _ _ Tryz.underlying23 rfl sz23 rfl rfl (zl rfl) rfl rfl),zr 12 rfl rfl rfl (op_call _ _ 17 _ _ rfl Tryz.call17 rfl (ok_wherrykeep_Path (T_Path.mk a.Path.Null a.Path.Local a.Path.Domain) (T_Path.mk b.Path.Null b.Path.Local b.Path.Domain) _ hv1) rfl rfl),zr 12 rfl rfl rfl (op_un _ _ _ _ rfl rfl),zk false rfl rfl rfl,zm rfl (zb hg1_20) rfl,zr 20 rfl rfl rfl (op_fieldAddr _ _ _ _ 2 0 _ Tryz.underlying26 rfl sz24 rfl rfl (by decide)),zr 20 rfl rfl rfl (op_load _ _ _ _ _ _ Tryz.underlying24 rfl rfl rfl (zl rfl) rfl rfl rfl),zr 20 rfl rfl rfl (op_len_fl _ _ _ Tryz.underlying24 rfl (by decide) (flat_len T_Param.len _)),zr 20 rfl rfl rfl (op_fieldAddr _ _ _ _ 3 0 _ Tryz.underlying26 rfl sz24 rfl rfl (by decide)),zr 20 rfl rfl rfl (op_load _ _ _ _ _ _ Tryz.underlying24 rfl rfl rfl (zl rfl) rfl rfl rfl),zr 20 rfl rfl rfl (op_len_fl _ _ _ Tryz.underlying24 rfl (by decide) (flat_len T_Param.len _)),zr 20 rfl rfl rfl (op_bin _ _ _ _ _ rfl rfl rfl),zk false rfl rfl rfl,trivial⟩ ?_
      exact hl4 _ (Option.some.inj h).symm
set_option maxHeartbeats 1000000 in
theorem ok_wherrylaw12_heavy (c : T_Cmd) (r : Bool) (h : Sh.wherrylaw12_heavy c = some r) : FnOK Tryz.prog 5 [.agg [.v (.int .i64 c.Kind), .v (.string c.Text), .v (.bool c.Path.Null), .v (.string c.Path.Local), .v (.string c.Path.Domain), .fl .shr 2 (List.flatten (List.map T_Param.enc c.Params))]] (.v (.bool r)) := by
  unfold Sh.wherrylaw12_heavy at h
  refine fn_ok Tryz.func5 rfl (zl rfl) rfl rfl fun g0 hn hio => ?_
  refine ht_seq ?_
  refine zh hn [_, (1, .box 26 [.v (.int .i64 c.Kind), .v (.string c.Text), .v (.bool c.Path.Null), .v (.string c.Path.Local), .v (.string c.Path.Domain), .fl .shr 2 (List.flatten (List.map T_Param.enc c.Params))]), (2, .v (.bool false))] [0] [1] [zq [0] 1 1, zq [] 2 2] [(_,_)] (by kernel_rfl) rfl rfl ⟨zp rfl (op_box _ _ _ _ rfl rfl rfl),za rfl rfl rfl,trivial⟩ ?_
  refine pt_then ?_
  refine ht_seq ?_
  obtain ⟨v1, hv1, h⟩ := bind_some h
  obtain ⟨v2, hv2, h⟩ := bind_some h
  refine zh hn (_ :: (5, .ptr 1 1) :: (6, .v (.string c.Text)) :: (7, .v (.int .i64 (c.Text.size : Int))) :: (8, .ptr 1 2) :: (9, .ptr 1 3) :: (10, .v (.string c.Path.Local)) :: (11, .v (.int .i64 (c.Path.Local.size : Int))) :: (12, .v (.int .i64 v1)) :: (13, .ptr 1 2) :: (14, .ptr 1 4) :: (15, .v (.string c.Path.Domain)) :: (16, .v (.int .i64 (c.Path.Domain.size : Int))) :: (17, .v (.int .i64 v2)) :: (3, .v (.int .i64 v2)) :: []) [0] [0,14] [zq [0] 1 5, zq [1,0] 2 6, zq [2] 3 7, zq [0] 4 8, zq [4,0] 5 9, zq [5,0] 6 10, zq [6] 7 11, zq [3,7] 8 12, zq [0] 9 13, zq [9,0] 10 14, zq [10,0] 11 15, zq [11] 12 16, zq [8,12] 13 17, zq [13] 14 3] [(_,_),(_,_)] (by kernel_rfl) rfl rfl ⟨zp rfl (op_fieldAddr _ _ _ _ 1 0 _ Tryz.underlying26 rfl sz9 rfl rfl (by decide)),zp rfl (op_load _ _ _ _ _ _ Tryz.underlying9 rfl rfl rfl (zl rfl) rfl rfl rfl),zp rfl (op_len_str _ _ _ Tryz.underlying9 rfl),zp rfl (op_fieldAddr _ _ _ _ 1 0 _ Tryz.underlying26 rfl sz23 rfl rfl (by decide)),zp rfl (op_fieldAddr _ _ _ _ 1 2 _ Tryz.underlying23 rfl sz9 rfl rfl (by decide)),zp rfl (op_load _ _ _ _ _ _ Tryz.underlying9 rfl rfl rfl (zl rfl) rfl rfl rfl),zp rfl (op_len_str _ _ _ Tryz.underlying9 rfl),zp rfl (op_bin _ _ _ _ _ rfl rfl (ibind (f := Value.int .i64) (Option.some.inj hv1))),zp rfl (op_fieldAddr _ _ _ _ 1 0 _ Tryz.underlying26 rfl sz23 rfl rfl (by decide)),zp rfl (op_fieldAddr _ _ _ _ 1 2 _ Tryz.underlying23 rfl sz9 rfl rfl (by decide)),zp rfl (op_load _ _ _ _ _ _ Tryz.underlying9 rfl rfl rfl (zl rfl) rfl rfl rfl),zp rfl (op_len_str _ _ _ Tryz.underlying9 rfl),zp rfl (op_bin _ _ _ _ _ rfl rfl (ibind (f := Value.int .i64) (Option.some.inj hv2))),za rfl rfl rfl,trivial⟩ ?_
  refine pt_then ?_
  refine ht_seq ?_
  refine ht_seq ?_
  refine zh hn [_, _, (4, .v (.int .i64 0))] [0,1] [0,1,2] [zq [] 2 4] [(_,_),(_,_),(_,_)] (by kernel_rfl) rfl rfl ⟨za rfl rfl rfl,trivial⟩ ?_
  refine pt_then ?_
  refine ht_loopS h (fun ((s14, s15) : Int × Int) => [(1, .box 26 [.v (.int .i64 c.Kind), .v (.string c.Text), .v (.bool c.Path.Null), .v (.string c.Path.Local), .v (.string c.Path.Domain), .fl .shr 2 (List.flatten (List.map T_Param.enc c.Params))]), (3, .v (.int .i64 s14)), (4, .v (.int .i64 s15))]) (fun (s17 : Int) => [(1, .box 26 [.v (.int .i64 c.Kind), .v (.string c.Text), .v (.bool c.Path.Null), .v (.string c.Path.Local), .v (.string c.Path.Domain), .fl .shr 2 (List.flatten (List.map T_Param.enc c.Params))]), (3, .v (.int .i64 s17))]) ?_ ?_
  ·rintro s17 h
   refine pt_then ?_
   refine ht_seq ?_
   refine ht_joinS h (fun (s25 : Bool) => [(2, .v (.bool s25))]) ?_ ?_
   ·rintro s25 h
    refine pt_then ?_
    refine ht_ret ?_
    obtain rfl := Option.some.inj h
    exact pt_ret hio rfl (.tmp _ _ .nil) rfl rfl
   ·intro u26 h hl27 hr28
    refine cond_some h (fun hg6_2 h => ?_) (fun hg6_2 h => ?_)
    ·refine zh hn [_, _, (42, .v (.int .i64 s17)), (43, .v (.bool ((decide (3000 < s17))))), (44, .v (.bool true)), (45, .v undef), (46, .v undef), (47, .v undef), (48, .v undef), (49, .v (.bool true)), (2, .v (.bool true))] [0,1] [10] [zq [1] 2 42, zq [2] 3 43, zq [3] 4 44, zq [4] 5 45, zq [4] 6 46, zq [4] 7 47, zq [4] 8 48, zq [4] 9 49, zq [9] 10 2] [(_,_)] (by kernel_rfl) rfl rfl ⟨zm rfl rfl rfl,zo rfl rfl rfl rfl,zm rfl (zb hg6_2) rfl,zs 2 false rfl rfl rfl rfl,zs 2 false rfl rfl rfl rfl,zs 2 false rfl rfl rfl rfl,zs 2 false rfl rfl rfl rfl,zk true rfl rfl rfl,za rfl rfl rfl,trivial⟩ ?_
     exact hl27 _ (Option.some.inj h).symm
    ·refine zh hn [_, _, (42, .v (.int .i64 s17)), (43, .v (.bool ((decide (3000 < s17))))), (44, .v (.bool false)), (45, .ptr 1 5), (46, .fl .shr 2 (List.flatten (List.map T_Param.enc c.Params))), (47, .v (.int .i64 (c.Params.length : Int))), (48, .v (.bool ((decide (20 < (c.Params.length : Int)))))), (49, .v (.bool ((decide (20 < (c.Params.length : Int)))))), (2, .v (.bool ((decide (20 < (c.Params.length : Int))))))] [0,1] [10] [zq [1] 2 42, zq [2] 3 43, zq [3] 4 44, zq [4,0] 5 45, zq [4,5,0] 6 46, zq [4,6] 7 47, zq [4,7] 8 48, zq [4,8] 9 49, zq [9] 10 2] [(_,_)] (by kernel_rfl) rfl rfl ⟨zm rfl rfl rfl,zo rfl rfl rfl rfl,zm rfl (zb hg6_2) rfl,zr 2 rfl rfl rfl (op_fieldAddr _ _ _ _ 1 0 _ Tryz.underlying26 rfl sz24 rfl rfl (by decide)),zr 2 rfl rfl rfl (op_load _ _ _ _ _ _ Tryz.underlying24 rfl rfl rfl (zl rfl) rfl rfl rfl),zr 2 rfl rfl rfl (op_len_fl _ _ _ Tryz.underlying24 rfl (by decide) (flat_len T_Param.len _)),zr 2 rfl rfl rfl (op_bin _ _ _ _ _ rfl rfl rfl),zk false rfl rfl rfl,za rfl rfl rfl,trivial⟩ ?_
     exact hl27 _ (Option.some.inj h).symm
  ·rintro u18 hl19 hr20 ⟨s14, s15⟩ rr23 h ho21
   refine ht_seq ?_
   refine ht_seq ?_
   refine zh hn [_, _, _, (18, .v (.int .i64 s15)), (19, .ptr 1 5), (20, .fl .shr 2 (List.flatten (List.map T_Param.enc c.Params))), (21, .v (.int .i64 (c.Params.length : Int))), (22, .v (.bool ((decide (s15 < (c.Params.length : Int))))))] [0,1,2] [0,1,2,7] [zq [2] 3 18, zq [0] 4 19, zq [4,0] 5 20, zq [5] 6 21, zq [3,6] 7 22] [(_,_),(_,_),(_,_),(_,_)] (by kernel_rfl) rfl rfl ⟨zm rfl rfl rfl,zp rfl (op_fieldAddr _ _ _ _ 1 0 _ Tryz.underlying26 rfl sz24 rfl rfl (by decide)),zp rfl (op_load _ _ _ _ _ _ Tryz.underlying24 rfl rfl rfl (zl rfl) rfl rfl rfl),zp rfl (op_len_fl _ _ _ Tryz.underlying24 rfl (by decide) (flat_len T_Param.len _)),zo rfl rfl rfl rfl,trivial⟩ ?_
   refine pt_then ?_
   refine ht_cond _ rfl (fun hb24 => ?_) (fun hb24 => ?_)
   ·have h := cond_t hb24 h
    refine ht_skip ?_
    refine pt_then ?_
    refine ht_seq ?_
    refine ht_block ?_
    obtain ⟨v4, hv4, h⟩ := bind_some h
    obtain ⟨v5, hv5, h⟩ := bind_some h
    obtain ⟨v6, hv6, h⟩ := bind_some h
    obtain ⟨v7, hv7, h⟩ := bind_some h
    obtain ⟨v8, hv8, h⟩ := bind_some h
    obtain ⟨v9, hv9, h⟩ := bind_some h
    refine ht_anyR (by kernel_rfl) hn (El := (_ :: _ :: _ :: _ :: (25, .v (.int .i64 s14)) :: (26, .ptr 1 5) :: (27, .fl .shr 2 (List.flatten (List.map T_Param.enc c.Params))) :: (28, .v (.int .i64 s15)) :: (29, .eref (.slot 27) (v4 * 2)) :: (30, .eref (.slot 27) (v4 * 2 + 0)) :: (31, .v (.string v5.Key)) :: (32, .v (.int .i64 (v5.Key.size : Int))) :: (33, .v (.int .i64 v6)) :: (34, .ptr 1 5) :: (35, .fl .shr 2 (List.flatten (List.map T_Param.enc c.Params))) :: (36, .v (.int .i64 s15)) :: (37, .eref (.slot 35) (v7 * 2)) :: (38, .eref (.slot 35) (v7 * 2 + 1)) :: (39, .v (.string v8.Val)) :: (40, .v (.int .i64 (v8.Val.size : Int))) :: (41, .v (.int .i64 v9)) :: (3, .v (.int .i64 v9)) :: [])) (init := [0, 1, 2, 3]) (fin := [0, 2, 21]) (sps := (zq [1] 4 25 :: zq [0] 5 26 :: zq [5,0] 6 27 :: zq [2] 7 28 :: zq [6,7] 8 29 :: zq [8,6] 9 30 :: zq [9,6] 10 31 :: zq [10] 11 32 :: zq [4,11] 12 33 :: zq [0] 13 34 :: zq [13,0] 14 35 :: zq [2] 15 36 :: zq [14,15] 16 37 :: zq [16,14] 17 38 :: zq [17,14] 18 39 :: zq [18] 19 40 :: zq [12,19] 20 41 :: ⟨[20], [1], [21], [(.slot 3)]⟩ :: [])) (es' := [(_, _), (_, _), (3, .v (.int .i64 v9))]) (by kernel_rfl) rfl rfl ⟨zm rfl rfl rfl,zp rfl (op_fieldAddr _ _ _ _ 1 0 _ Tryz.underlying26 rfl sz24 rfl rfl (by decide)),zp rfl (op_load _ _ _ _ _ _ Tryz.underlying24 rfl rfl rfl (zl rfl) rfl rfl rfl),zm rfl rfl rfl,zp rfl (op_ix _ _ _ _ _ _ _ _ Tryz.underlying24 sz47 (by decide) rfl rfl rfl (ix_ok hv4).1 (flat_lt T_Param.len (ix_ok hv4).2) rfl),zp rfl (op_fieldAddr_e _ _ _ _ _ _ _ Tryz.underlying47 rfl sz9 rfl rfl rfl),zp rfl (op_load_e _ _ _ _ _ _ Tryz.underlying9 rfl rfl rfl (flat_cell T_Param.len hv5 rfl)),zp rfl (op_len_str _ _ _ Tryz.underlying9 rfl),zp rfl (op_bin _ _ _ _ _ rfl rfl (ibind (f := Value.int .i64) (Option.some.inj hv6))),zp rfl (op_fieldAddr _ _ _ _ 1 0 _ Tryz.underlying26 rfl sz24 rfl rfl (by decide)),zp rfl (op_load _ _ _ _ _ _ Tryz.underlying24 rfl rfl rfl (zl rfl) rfl rfl rfl),zm rfl rfl rfl,zp rfl (op_ix _ _ _ _ _ _ _ _ Tryz.underlying24 sz47 (by decide) rfl rfl rfl (ix_ok hv7).1 (flat_lt T_Param.len (ix_ok hv7).2) rfl),zp rfl (op_fieldAddr_e _ _ _ _ _ _ _ Tryz.underlying47 rfl sz9 rfl rfl rfl),zp rfl (op_load_e _ _ _ _ _ _ Tryz.underlying9 rfl rfl rfl (flat_cell T_Param.len hv8 rfl)),zp rfl (op_len_str _ _ _ Tryz.underlying9 rfl),zp rfl (op_bin _ _ _ _ _ rfl rfl (ibind (f := Value.int .i64) (Option.some.inj hv9))),zp rfl (LOp.drop [_] (op_assign _ _ _ _ rfl rfl)),trivial⟩ ?_
    refine pt_inb ?_
    refine pt_then ?_
    obtain ⟨v10, hv10, h⟩ := bind_some h
    refine zh hn [_, _, _, (23, .v (.int .i64 s15)), (24, .v (.int .i64 v10)), (4, .v (.int .i64 v10))] [0,1,2] [0,2,5] [zq [1] 3 23, zq [3] 4 24, ⟨[4], [1], [5], [(.slot 4)]⟩] [(_,_),(_,_),(_,_)] (by kernel_rfl) rfl rfl ⟨zm rfl rfl rfl,zp rfl (op_bin _ _ _ _ _ rfl rfl (ibind (f := Value.int .i64) (Option.some.inj hv10))),zp rfl (LOp.drop [_] (op_assign _ _ _ _ rfl rfl)),trivial⟩ ?_
    exact pt_next _ (Option.some.inj h).symm rfl
   ·have h := cond_f hb24 h
    refine ht_exit ?_
    refine pt_x_then ?_
    refine pt_x_then ?_
    refine pt_x_in ?_
    refine pt_pick [0, 1] (by kernel_rfl) (es' := [(_, _), (_, _)]) rfl ?_
    exact hl19 _ (ho21 _ (Option.some.inj h).symm).symm
set_option maxHeartbeats 1000000 in
theorem ok_wherryref11_keep (p : T_Path) (ok : Bool) (r : (T_Path × Bool)) (h : Sh.wherryref11_keep p ok = some r) : FnOK Tryz.prog 56 [.agg [.v (.bool p.Null), .v (.string p.Local), .v (.string p.Domain)], .v (.bool ok)] (.tup [.agg [.v (.bool r.1.Null), .v (.string r.1.Local), .v (.string r.1.Domain)], .v (.bool r.2)]) := by
  unfold Sh.wherryref11_keep at h
  refine fn_ok Tryz.func56 rfl (zl rfl) rfl rfl fun g0 hn hio => ?_
  refine ht_seq ?_
  refine zh hn [_, _, (2, .box 23 [.v (.bool p.Null), .v (.string p.Local), .v (.string p.Domain)]), (4, .box 23 [.v (.bool false), .v (.string (⟨#[]⟩ : ByteArray)), .v (.string (⟨#[]⟩ : ByteArray))]), (5, .v (.bool false))] [0,1] [1,2,3] [zq [0] 2 2, zq [] 3 4, zq [] 4 5] [(_,_),(_,_),(_,_)] (by kernel_rfl) rfl rfl ⟨zp rfl (op_box _ _ _ _ rfl rfl rfl),zp rfl (op_alloc _ _ zr23),za rfl rfl rfl,trivial⟩ ?_
  refine pt_then ?_
  refine ht_seq ?_
  refine ht_seq ?_
  refine zh hn [_, _, _, (6, .v (.bool ok)), (7, .v (.bool (!ok)))] [0,1,2] [1,2,4] [zq [0] 3 6, zq [3] 4 7] [(_,_),(_,_),(_,_)] (by kernel_rfl) rfl rfl ⟨zm rfl rfl rfl,zp rfl (op_un _ _ _ _ rfl rfl),trivial⟩ ?_
  refine pt_then ?_
  refine ht_cond _ rfl (fun hb1 => ?_) (fun hb1 => ?_)
  ·have h := cond_t hb1 h
   refine ht_seq ?_
   refine zh hn [_, _, _, (8, .agg [.v (.bool false), .v (.string (⟨#[]⟩ : ByteArray)), .v (.string (⟨#[]⟩ : ByteArray))]), (4, .box 23 [.v (.bool false), .v (.string (⟨#[]⟩ : ByteArray)), .v (.string (⟨#[]⟩ : ByteArray))]), (5, .v (.bool false))] [0,1,2] [4,5] [zq [] 3 8, ⟨[], [3, 1], [4], [.cell 4 0, .cell 4 1, .cell 4 2]⟩, zq [] 5 5] [(_,_),(_,_)] (by kernel_rfl) rfl rfl ⟨zp rfl (op_build _ _ _ _ [1, 1, 1] _ _ Tryz.underlying23 zr23 (fs23 _ Tryz.underlying23) Src.nil rfl rfl rfl),zp rfl (op_store_self _ _ _ 8 4 3 sz23 rfl rfl rfl rfl rfl (.eq _ (.eq _ (.eq _ (.nil _)))) rfl),za rfl rfl rfl,trivial⟩ ?_
   refine pt_then ?_
   refine ht_ret ?_
   refine pt_r_then ?_
   obtain rfl := Option.some.inj h
   exact pt_ret hio rfl (.cellA _ _ _ _ Tryz.underlying23 rfl sz23 (.tmp _ _ .nil)) rfl rfl
  ·have h := cond_f hb1 h
   refine ht_skip ?_
   refine pt_then ?_
   refine ht_seq ?_
   refine zh hn [_, _, _, (9, .agg [.v (.bool p.Null), .v (.string p.Local), .v (.string p.Domain)]), (4, .box 23 [.v (.bool p.Null), .v (.string p.Local), .v (.string p.Domain)]), (5, .v (.bool true))] [0,1,2] [4,5] [zq [0] 3 9, ⟨[3], [1], [4], [.cell 4 0, .cell 4 1, .cell 4 2]⟩, zq [] 5 5] [(_,_),(_,_)] (by kernel_rfl) rfl rfl ⟨zp rfl (op_loadA _ _ _ _ _ _ _ Tryz.underlying23 rfl sz23 rfl rfl (zl rfl) rfl rfl),zp rfl (op_store _ _ _ _ _ _ _ _ sz23 rfl rfl rfl rfl (zl rfl) rfl rfl),za rfl rfl rfl,trivial⟩ ?_
   refine pt_then ?_
   refine ht_ret ?_
   obtain rfl := Option.some.inj h
   exact pt_ret hio rfl (.cellA _ _ _ _ Tryz.underlying23 rfl sz23 (.tmp _ _ .nil)) rfl rfl
set_option maxHeartbeats 1000000 in
theorem ok_wherryref11_Parse (s : ByteArray) (r : (T_Path × Bool)) (h : Sh.wherryref11_Parse s = some r) : FnOK Tryz.prog 42 [.v (.string s)] (.tup [.agg [.v (.bool r.1.Null), .v (.string r.1.Local), .v (.string r.1.Domain)], .v (.bool r.2)]) := by
  unfold Sh.wherryref11_Parse at h
  refine fn_ok Tryz.func42 rfl (zl rfl) rfl rfl fun g0 hn hio => ?_
  refine ht_seq ?_
  refine zh hn [_, (2, .box 23 [.v (.bool false), .v (.string (⟨#[]⟩ : ByteArray)), .v (.string (⟨#[]⟩ : ByteArray))]), (3, .v (.bool false))] [0] [0,1] [zq [] 1 2, zq [] 2 3] [(_,_),(_,_)] (by kernel_rfl) rfl rfl ⟨zp rfl (op_alloc _ _ zr23),za rfl rfl rfl,trivial⟩ ?_
  refine pt_then ?_
  refine ht_seq ?_
  refine ht_seq ?_
  refine zh hn [_, _, (6, .v (.string s)), (7, .v (.bool ((s.toList == (⟨#[60, 62]⟩ : ByteArray).toList))))] [0,1] [0,1,3] [zq [0] 2 6, zq [2] 3 7] [(_,_),(_,_),(_,_)] (by kernel_rfl) rfl rfl ⟨zm rfl rfl rfl,zo rfl rfl rfl rfl,trivial⟩ ?_
  refine pt_then ?_
  refine ht_cond _ rfl (fun hb1 => ?_) (fun hb1 => ?_)
  ·have h := cond_t hb1 h
   refine ht_seq ?_
   refine zh hn [_, _, _, (8, .agg [.v (.bool true), .v (.string (⟨#[]⟩ : ByteArray)), .v (.string (⟨#[]⟩ : ByteArray))]), (2, .box 23 [.v (.bool true), .v (.string (⟨#[]⟩ : ByteArray)), .v (.string (⟨#[]⟩ : ByteArray))]), (3, .v (.bool true))] [0,1,2] [4,5] [zq [] 3 8, ⟨[3], [1], [4], [.cell 2 0, .cell 2 1, .cell 2 2]⟩, zq [] 5 3] [(_,_),(_,_)] (by kernel_rfl) rfl rfl ⟨zp rfl (op_build _ _ _ _ [1, 1, 1] _ _ Tryz.underlying23 zr23 (fs23 _ Tryz.underlying23) (.copy _ Src.nil) rfl rfl rfl),zp rfl (op_store _ _ _ _ _ _ _ _ sz23 rfl rfl rfl rfl (zl rfl) rfl rfl),za rfl rfl rfl,trivial⟩ ?_
   refine pt_then ?_
   refine ht_ret ?_
   refine pt_r_then ?_
   obtain rfl := Option.some.inj h
   exact pt_ret hio rfl (.cellA _ _ _ _ Tryz.underlying23 rfl sz23 (.tmp _ _ .nil)) rfl rfl
  ·have h := cond_f hb1 h
   refine ht_skip ?_
   refine pt_then ?_
   refine ht_seq ?_
   refine ht_seq ?_
   refine ht_joinS h (fun (s5 : Bool) => [(0, .v (.string s)), (2, .box 23 [.v (.bool false), .v (.string (⟨#[]⟩ : ByteArray)), .v (.string (⟨#[]⟩ : ByteArray))]), (24, .v (.bool s5))]) ?_ ?_
   ·rintro s5 h
    refine pt_then ?_
    refine ht_cond _ rfl (fun hb9 => ?_) (fun hb9 => ?_)
    ·have h := cond_t hb9 h
     refine ht_seq ?_
     refine zh hn [_, _, _, (25, .agg [.v (.bool false), .v (.string (⟨#[]⟩ : ByteArray)), .v (.string (⟨#[]⟩ : ByteArray))]), (2, .box 23 [.v (.bool false), .v (.string (⟨#[]⟩ : ByteArray)), .v (.string (⟨#[]⟩ : ByteArray))]), (3, .v (.bool false))] [0,1,2] [4,5] [zq [] 3 25, ⟨[], [3, 1], [4], [.cell 2 0, .cell 2 1, .cell 2 2]⟩, zq [] 5 3] [(_,_),(_,_)] (by kernel_rfl) rfl rfl ⟨zp rfl (op_build _ _ _ _ [1, 1, 1] _ _ Tryz.underlying23 zr23 (fs23 _ Tryz.underlying23) Src.nil rfl rfl rfl),zp rfl (op_store_self _ _ _ 25 2 3 sz23 rfl rfl rfl rfl rfl (.eq _ (.eq _ (.eq _ (.nil _)))) rfl),za rfl rfl rfl,trivial⟩ ?_
     refine pt_then ?_
     refine ht_ret ?_
     refine pt_r_then ?_
     obtain rfl := Option.some.inj h
     exact pt_ret hio rfl (.cellA _ _ _ _ Tryz.underlying23 rfl sz23 (.tmp _ _ .nil)) rfl rfl
    ·have h := cond_f hb9 h
     refine ht_skip ?_
     refine pt_then ?_
     refine ht_seq ?_
     obtain ⟨v10, hv10, h⟩ := bind_some h
     obtain ⟨v11, hv11, h⟩ := bind_some h
     refine zh hn [_, _, _, (26, .v (.string s)), (27, .v (.string s)), (28, .v (.int .i64 (s.size : Int))), (29, .v (.int .i64 v10)), (30, .v (.string v11)), (0, .v (.string v11))] [0,1,2] [1,8] [zq [0] 3 26, zq [0] 4 27, zq [4] 5 28, zq [5] 6 29, zq [3,6] 7 30, ⟨[7], [0], [8], [(.slot 0)]⟩] [(_,_),(_,_)] (by kernel_rfl) rfl rfl ⟨zm rfl rfl rfl,zm rfl rfl rfl,zp rfl (op_len_str _ _ _ Tryz.underlying9 rfl),zp rfl (op_bin _ _ _ _ _ rfl rfl (ibind (f := Value.int .i64) (Option.some.inj hv10))),zp rfl (op_substr _ _ _ 1 v10 _ Tryz.underlying9 rfl ⟨_, rfl⟩ ⟨_, rfl⟩ hv11),zp rfl (LOp.drop [_] (op_assign _ _ _ _ rfl rfl)),trivial⟩ ?_
     refine pt_then ?_
     refine ht_seq ?_
     refine ht_seq ?_
     refine zh hn [_, _, (4, .v (.int .i64 0))] [0,1] [0,1,2] [zq [] 2 4] [(_,_),(_,_),(_,_)] (by kernel_rfl) rfl rfl ⟨za rfl rfl rfl,trivial⟩ ?_
     refine pt_then ?_
     refine ht_loopS h (fun (s24 : Int) => [(2, .box 23 [.v (.bool false), .v (.string (⟨#[]⟩ : ByteArray)), .v (.string (⟨#[]⟩ : ByteArray))]), (0, .v (.string v11)), (4, .v (.int .i64 s24))]) (fun (() : Unit) => [(2, .box 23 [.v (.bool false), .v (.string (⟨#[]⟩ : ByteArray)), .v (.string (⟨#[]⟩ : ByteArray))])]) ?_ ?_
     ·rintro ⟨⟩ h
      refine pt_then ?_
      refine ht_seq ?_
      refine zh hn [_, (55, .agg [.v (.bool false), .v (.string (⟨#[]⟩ : ByteArray)), .v (.string (⟨#[]⟩ : ByteArray))]), (2, .box 23 [.v (.bool false), .v (.string (⟨#[]⟩ : ByteArray)), .v (.string (⟨#[]⟩ : ByteArray))]), (3, .v (.bool false))] [0] [2,3] [zq [] 1 55, ⟨[], [1, 0], [2], [.cell 2 0, .cell 2 1, .cell 2 2]⟩, zq [] 3 3] [(_,_),(_,_)] (by kernel_rfl) rfl rfl ⟨zp rfl (op_build _ _ _ _ [1, 1, 1] _ _ Tryz.underlying23 zr23 (fs23 _ Tryz.underlying23) Src.nil rfl rfl rfl),zp rfl (op_store_self _ _ _ 55 2 3 sz23 rfl rfl rfl rfl rfl (.eq _ (.eq _ (.eq _ (.nil _)))) rfl),za rfl rfl rfl,trivial⟩ ?_
      refine pt_then ?_
      refine ht_ret ?_
      obtain rfl := Option.some.inj h
      exact pt_ret hio rfl (.cellA _ _ _ _ Tryz.underlying23 rfl sz23 (.tmp _ _ .nil)) rfl rfl
     ·rintro u27 hl28 hr29 s24 rr32 h ho30
      refine ht_seq ?_
      refine ht_seq ?_
      refine zh hn [_, _, _, (31, .v (.int .i64 s24)), (32, .v (.string v11)), (33, .v (.int .i64 (v11.size : Int))), (34, .v (.bool ((decide (s24 < (v11.size : Int))))))] [0,1,2] [0,1,2,6] [zq [2] 3 31, zq [1] 4 32, zq [4] 5 33, zq [3,5] 6 34] [(_,_),(_,_),(_,_),(_,_)] (by kernel_rfl) rfl rfl ⟨zm rfl rfl rfl,zm rfl rfl rfl,zp rfl (op_len_str _ _ _ Tryz.underlying9 rfl),zo rfl rfl rfl rfl,trivial⟩ ?_
      refine pt_then ?_
      refine ht_cond _ rfl (fun hb33 => ?_) (fun hb33 => ?_)
      ·have h := cond_t hb33 h
       refine ht_skip ?_
       refine pt_then ?_
       refine ht_seq ?_
       refine ht_block ?_
       refine ht_seq ?_
       obtain ⟨v13, hv13, h⟩ := bind_some h
       refine zh hn [_, _, _, _, (37, .v (.string v11)), (38, .v (.int .i64 s24)), (39, .v (.int .u8 v13)), (40, .v (.bool (v13 == 64)))] [0,1,2,3] [0,1,2,7] [zq [1] 4 37, zq [2] 5 38, zq [4,5] 6 39, zq [6] 7 40] [(_,_),(_,_),(_,_),(_,_)] (by kernel_rfl) rfl rfl ⟨zm rfl rfl rfl,zm rfl rfl rfl,zp rfl (op_chr _ _ _ s24 _ Tryz.underlying9 rfl rfl hv13),zo rfl rfl rfl rfl,trivial⟩ ?_
       refine pt_then ?_
       refine ht_cond _ rfl (fun hb34 => ?_) (fun hb34 => ?_)
       ·have h := cond_t hb34 h
        refine ht_seq ?_
        obtain ⟨v15, hv15, h⟩ := bind_some h
        obtain ⟨v16, hv16, h⟩ := bind_some h
        obtain ⟨v17, hv17, h⟩ := bind_some h
        refine ht_anyR (by kernel_rfl) hn (El := [_, _, _, _, (41, .v (.string v11)), (42, .v (.int .i64 s24)), (43, .v (.string v15)), (44, .v (.string v11)), (45, .v (.int .i64 s24)), (46, .v (.int .i64 v16)), (47, .v (.string v17)), (48, .agg [.v (.bool false), .v (.string v15), .v (.string v17)]), (5, .box 23 [.v (.bool false), .v (.string (⟨#[]⟩ : ByteArray)), .v (.string (⟨#[]⟩ : ByteArray))]), (5, .box 23 [.v (.bool false), .v (.string v15), .v (.string v17)])]) (init := [0, 1, 2, 3]) (fin := [0, 13]) (sps := [zq [1] 4 41, zq [2] 5 42, zq [4,5] 6 43, zq [1] 7 44, zq [2] 8 45, zq [8] 9 46, zq [7,9] 10 47, zq [6,10] 11 48, zq [] 12 5, ⟨[11], [12], [13], [.cell 5 0, .cell 5 1, .cell 5 2]⟩]) (es' := [(_, _), (5, .box 23 [.v (.bool false), .v (.string v15), .v (.string v17)])]) (by kernel_rfl) rfl rfl ⟨zm rfl rfl rfl,zm rfl rfl rfl,zp rfl (op_substr _ _ _ 0 s24 _ Tryz.underlying9 rfl rfl ⟨_, rfl⟩ hv15),zm rfl rfl rfl,zm rfl rfl rfl,zp rfl (op_bin _ _ _ _ _ rfl rfl (ibind (f := Value.int .i64) (Option.some.inj hv16))),zp rfl (op_substr _ _ _ v16 (v11.size : Int) _ Tryz.underlying9 rfl ⟨_, rfl⟩ rfl hv17),zp rfl (op_build _ _ _ _ [1, 1, 1] _ _ Tryz.underlying23 zr23 (fs23 _ Tryz.underlying23) (.copy _ (.copy _ Src.nil)) rfl rfl rfl),zp rfl (op_alloc _ _ zr23),zp rfl (op_store _ _ _ _ _ _ _ _ sz23 rfl rfl rfl rfl (zl rfl) rfl rfl),trivial⟩ ?_
        refine pt_then ?_
        refine ht_seq ?_
        obtain ⟨v18, hv18, h⟩ := bind_some h
        obtain ⟨v19, hv19, h⟩ := bind_some h
        refine ht_anyR (by kernel_rfl) hn (El := [_, _, (49, .agg [.v (.bool false), .v (.string v15), .v (.string v17)]), (50, .agg [.v (.bool false), .v (.string v15), .v (.string v17)]), (51, .v (.bool v18)), (52, .tup [.agg [.v (.bool v19.1.Null), .v (.string v19.1.Local), .v (.string v19.1.Domain)], .v (.bool v19.2)]), (53, .agg [.v (.bool v19.1.Null), .v (.string v19.1.Local), .v (.string v19.1.Domain)]), (54, .v (.bool v19.2)), (2, .box 23 [.v (.bool v19.1.Null), .v (.string v19.1.Local), .v (.string v19.1.Domain)]), (3, .v (.bool v19.2))]) (init := [0, 1]) (fin := [8, 9]) (sps := [zq [1] 2 49, zq [1] 3 50, zq [3] 4 51, zq [2,4] 5 52, zq [5] 6 53, zq [5] 7 54, ⟨[6], [0], [8], [.cell 2 0, .cell 2 1, .cell 2 2]⟩, zq [7] 9 3]) (es' := [(2, .box 23 [.v (.bool v19.1.Null), .v (.string v19.1.Local), .v (.string v19.1.Domain)]), (3, .v (.bool v19.2))]) (by kernel_rfl) rfl rfl ⟨zp rfl (op_loadA _ _ _ _ _ _ _ Tryz.underlying23 rfl sz23 rfl rfl (zl rfl) rfl rfl),zp rfl (op_loadA _ _ _ _ _ _ _ Tryz.underlying23 rfl sz23 rfl rfl (zl rfl) rfl rfl),zp rfl (op_call _ _ 14 _ _ rfl Tryz.call14 rfl (ok_wherryref11_Path (T_Path.mk false v15 v17) _ hv18) rfl rfl),zp rfl (op_call _ _ 56 _ _ rfl Tryz.call56 rfl (ok_wherryref11_keep (T_Path.mk false v15 v17) v18 _ hv19) rfl rfl),zp rfl (op_extract_no _ _ _ _ _ _ rfl rfl (zl rfl) rfl rfl),zp rfl (op_extract _ _ _ _ _ rfl rfl (zl rfl) rfl rfl),zp rfl (op_store _ _ _ _ _ _ _ _ sz23 rfl rfl rfl rfl (zl rfl) rfl rfl),za rfl rfl rfl,trivial⟩ ?_
        refine pt_then ?_
        refine ht_ret ?_
        refine pt_r_in ?_
        refine pt_r_then ?_
        refine pt_r_then ?_
        refine pt_r_in ?_
        refine pt_r_then ?_
        have h := hr29 _ (ho30 _ (Option.some.inj h).symm).symm
        obtain rfl := Option.some.inj h
        exact pt_ret hio rfl (.cellA _ _ _ _ Tryz.underlying23 rfl sz23 (.tmp _ _ .nil)) rfl rfl
       ·have h := cond_f hb34 h
        refine ht_skip ?_
        refine pt_inb ?_
        refine pt_then ?_
        obtain ⟨v20, hv20, h⟩ := bind_some h
        refine zh hn [_, _, _, _, (35, .v (.int .i64 s24)), (36, .v (.int .i64 v20)), (4, .v (.int .i64 v20))] [0,1,2,3] [0,1,6] [zq [2] 4 35, zq [4] 5 36, ⟨[5], [2], [6], [(.slot 4)]⟩] [(_,_),(_,_),(_,_)] (by kernel_rfl) rfl rfl ⟨zm rfl rfl rfl,zp rfl (op_bin _ _ _ _ _ rfl rfl (ibind (f := Value.int .i64) (Option.some.inj hv20))),zp rfl (LOp.drop [_] (op_assign _ _ _ _ rfl rfl)),trivial⟩ ?_
        exact pt_next _ (Option.some.inj h).symm rfl
      ·have h := cond_f hb33 h
       refine ht_exit ?_
       refine pt_x_then ?_
       refine pt_x_then ?_
       refine pt_x_in ?_
       refine pt_pick [0] (by kernel_rfl) (es' := [(_, _)]) rfl ?_
       exact hl28 _ (ho30 _ (Option.some.inj h).symm).symm
   ·intro u6 h hl7 hr8
    refine cond_some h (fun hg3_3 h => ?_) (fun hg3_3 h => ?_)
    ·refine zh hn (_ :: _ :: _ :: (9, .v (.string s)) :: (10, .v (.int .i64 (s.size : Int))) :: (11, .v (.bool ((decide ((s.size : Int) < 2))))) :: (12, .v (.bool true)) :: (13, .v undef) :: (14, .v undef) :: (15, .v undef) :: (16, .v (.bool true)) :: (17, .v (.bool true)) :: (18, .v undef) :: (19, .v undef) :: (20, .v undef) :: (21, .v undef) :: (22, .v undef) :: (23, .v undef) :: (24, .v (.bool true)) :: []) [0,1,2] [0,1,18] (zq [0] 3 9 :: zq [3] 4 10 :: zq [4] 5 11 :: zq [5] 6 12 :: zq [6] 7 13 :: zq [6] 8 14 :: zq [6] 9 15 :: zq [6] 10 16 :: zq [10] 11 17 :: zq [11] 12 18 :: zq [11] 13 19 :: zq [11] 14 20 :: zq [11] 15 21 :: zq [11] 16 22 :: zq [11] 17 23 :: zq [11] 18 24 :: []) [(_,_),(_,_),(_,_)] (by kernel_rfl) rfl rfl ⟨zm rfl rfl rfl,zp rfl (op_len_str _ _ _ Tryz.underlying9 rfl),zo rfl rfl rfl rfl,zm rfl (zb hg3_3) rfl,zs 3 false rfl rfl rfl rfl,zs 3 false rfl rfl rfl rfl,zs 3 false rfl rfl rfl rfl,zk true rfl rfl rfl,zm rfl rfl rfl,zs 8 false rfl rfl rfl rfl,zs 8 false rfl rfl rfl rfl,zs 8 false rfl rfl rfl rfl,zs 8 false rfl rfl rfl rfl,zs 8 false rfl rfl rfl rfl,zs 8 false rfl rfl rfl rfl,zk true rfl rfl rfl,trivial⟩ ?_
     exact hl7 _ (Option.some.inj h).symm
    ·obtain ⟨v2, hv2, h⟩ := bind_some h
     refine cond_some h (fun hg3_8 h => ?_) (fun hg3_8 h => ?_)
     ·refine zh hn (_ :: _ :: _ :: (9, .v (.string s)) :: (10, .v (.int .i64 (s.size : Int))) :: (11, .v (.bool ((decide ((s.size : Int) < 2))))) :: (12, .v (.bool false)) :: (13, .v (.string s)) :: (14, .v (.int .u8 v2)) :: (15, .v (.bool (v2 != 60))) :: (16, .v (.bool (v2 != 60))) :: (17, .v (.bool true)) :: (18, .v undef) :: (19, .v undef) :: (20, .v undef) :: (21, .v undef) :: (22, .v undef) :: (23, .v undef) :: (24, .v (.bool true)) :: []) [0,1,2] [0,1,18] (zq [0] 3 9 :: zq [3] 4 10 :: zq [4] 5 11 :: zq [5] 6 12 :: zq [6,0] 7 13 :: zq [6,7] 8 14 :: zq [6,8] 9 15 :: zq [6,9] 10 16 :: zq [10] 11 17 :: zq [11] 12 18 :: zq [11] 13 19 :: zq [11] 14 20 :: zq [11] 15 21 :: zq [11] 16 22 :: zq [11] 17 23 :: zq [11] 18 24 :: []) [(_,_),(_,_),(_,_)] (by kernel_rfl) rfl rfl ⟨zm rfl rfl rfl,zp rfl (op_len_str _ _ _ Tryz.underlying9 rfl),zo rfl rfl rfl rfl,zm rfl (zb hg3_3) rfl,zr 3 rfl rfl rfl (op_move _ _ _ _ rfl rfl),zr 3 rfl rfl rfl (op_chr _ _ _ 0 _ Tryz.underlying9 rfl rfl hv2),zr 3 rfl rfl rfl (op_bin _ _ _ _ _ rfl rfl rfl),zk false rfl rfl rfl,zm rfl (zb hg3_8) rfl,zs 8 false rfl rfl rfl rfl,zs 8 false rfl rfl rfl rfl,zs 8 false rfl rfl rfl rfl,zs 8 false rfl rfl rfl rfl,zs 8 false rfl rfl rfl rfl,zs 8 false rfl rfl rfl rfl,zk true rfl rfl rfl,trivial⟩ ?_
      exact hl7 _ (Option.some.inj h).symm
     ·obtain ⟨v3, hv3, h⟩ := bind_some h
      obtain ⟨v4, hv4, h⟩ := bind_some h
      refine zh hn (_ :: _ :: _ :: (9, .v (.string s)) :: (10, .v (.int .i64 (s.size : Int))) :: (11, .v (.bool ((decide ((s.size : Int) < 2))))) :: (12, .v (.bool false)) :: (13, .v (.string s)) :: (14, .v (.int .u8 v2)) :: (15, .v (.bool (v2 != 60))) :: (16, .v (.bool (v2 != 60))) :: (17, .v (.bool false)) :: (18, .v (.string s)) :: (19, .v (.string s)) :: (20, .v (.int .i64 (s.size : Int))) :: (21, .v (.int .i64 v3)) :: (22, .v (.int .u8 v4)) :: (23, .v (.bool (v4 != 62))) :: (24, .v (.bool (v4 != 62))) :: []) [0,1,2] [0,1,18] (zq [0] 3 9 :: zq [3] 4 10 :: zq [4] 5 11 :: zq [5] 6 12 :: zq [6,0] 7 13 :: zq [6,7] 8 14 :: zq [6,8] 9 15 :: zq [6,9] 10 16 :: zq [10] 11 17 :: zq [11,0] 12 18 :: zq [11,0] 13 19 :: zq [11,13] 14 20 :: zq [11,14] 15 21 :: zq [11,12,15] 16 22 :: zq [11,16] 17 23 :: zq [11,17] 18 24 :: []) [(_,_),(_,_),(_,_)] (by kernel_rfl) rfl rfl ⟨zm rfl rfl rfl,zp rfl (op_len_str _ _ _ Tryz.underlying9 rfl),zo rfl rfl rfl rfl,zm rfl (zb hg3_3) rfl,zr 3 rfl rfl rfl (op_move _ _ _ _ rfl rfl),zr 3 rfl rfl rfl (op_chr _ _ _ 0 _ Tryz.underlying9 rfl rfl hv2),zr 3 rfl rfl rfl (op_bin _ _ _ _ _ rfl rfl rfl),zk false rfl rfl rfl,zm rfl (zb hg3_8) rfl,zr 8 rfl rfl rfl (op_move _ _ _ _ rfl rfl),zr 8 rfl rfl rfl (op_move _ _ _ _ rfl rfl),zr 8 rfl rfl rfl (op_len_str _ _ _ Tryz.underlying9 rfl),zr 8 rfl rfl rfl (op_bin _ _ _ _ _ rfl rfl (ibind (f := Value.int .i64) (Option.some.inj hv3))),zr 8 rfl rfl rfl (op_chr _ _ _ v3 _ Tryz.underlying9 rfl rfl hv4),zr 8 rfl rfl rfl (op_bin _ _ _ _ _ rfl rfl rfl),zk false rfl rfl rfl,trivial⟩ ?_
      exact hl7 _ (Option.some.inj h).symm
set_option maxHeartbeats 1000000 in
theorem ok_wherryref11_Fold (s : ByteArray) (r : ByteArray) (h : Sh.wherryref11_Fold s = some r) : FnOK Tryz.prog 27 [.v (.string s)] (.v (.string r)) := by
  unfold Sh.wherryref11_Fold at h
  refine fn_ok Tryz.func27 rfl (zl rfl) rfl rfl fun g0 hn hio => ?_
  refine ht_seq ?_
  refine zh hn [_, (2, .v (.string (⟨#[]⟩ : ByteArray)))] [0] [0] [zq [] 1 2] [(_,_)] (by kernel_rfl) rfl rfl ⟨za rfl rfl rfl,trivial⟩ ?_
  refine pt_then ?_
  refine ht_seq ?_
  refine zh hn [_, (3, .v (.slice none 0 0))] [0] [0,1] [zq [] 1 3] [(_,_),(_,_)] (by kernel_rfl) rfl rfl ⟨za rfl rfl rfl,trivial⟩ ?_
  refine pt_then ?_
  refine ht_seq ?_
  refine ht_seq ?_
  refine zh hn [_, _, (4, .v (.int .i64 0))] [0,1] [0,1,2] [zq [] 2 4] [(_,_),(_,_),(_,_)] (by kernel_rfl) rfl rfl ⟨za rfl rfl rfl,trivial⟩ ?_
  refine pt_then ?_
  refine ht_sub (fs := [(0, .v (.string s)), (3, .fl (.own 5) 1 (List.map (Value.int .u8) [])), (4, .v (.int .i64 0))]) (.same _ (.sub _ (sub_nil 5 1) rfl (.same _ .nil))) ?_
  refine ht_loopS h (fun ((s37, s38) : (List Int) × Int) => [(0, .v (.string s)), (3, .fl (.own 5) 1 (List.map (Value.int .u8) s37)), (4, .v (.int .i64 s38))]) (fun (s54 : (List Int)) => [(3, .fl (.own 5) 1 (List.map (Value.int .u8) s54))]) ?_ ?_
  ·rintro s54 h
   refine pt_then ?_
   refine ht_seq ?_
   obtain ⟨v76, hv76, h⟩ := bind_some h
   refine zh hn [_, (27, .fl (.own 5) 1 (List.map (Value.int .u8) s54)), (28, .v (.string v76)), (2, .v (.string v76))] [0] [3] [⟨[], [0], [1], [(.slot 27)]⟩, zq [1] 2 28, zq [2] 3 2] [(_,_)] (by kernel_rfl) rfl rfl ⟨zp rfl (op_move_take _ _ _ _ rfl),zp rfl ((Option.some.inj hv76) ▸ op_bytes_str _ _ _ s54 Tryz.underlying67 Tryz.underlying9 Tryz.underlying5 rfl),za rfl rfl rfl,trivial⟩ ?_
   refine pt_then ?_
   refine ht_ret ?_
   obtain rfl := Option.some.inj h
   exact pt_ret hio rfl (.tmp _ _ .nil) rfl rfl
  ·rintro u55 hl56 hr57 ⟨s37, s38⟩ rr60 h ho58
   refine ht_seq ?_
   refine ht_seq ?_
   refine zh hn [_, _, _, (6, .v (.int .i64 s38)), (7, .v (.string s)), (8, .v (.int .i64 (s.size : Int))), (9, .v (.bool ((decide (s38 < (s.size : Int))))))] [0,1,2] [0,1,2,6] [zq [2] 3 6, zq [0] 4 7, zq [4] 5 8, zq [3,5] 6 9] [(_,_),(_,_),(_,_),(_,_)] (by kernel_rfl) rfl rfl ⟨zm rfl rfl rfl,zm rfl rfl rfl,zp rfl (op_len_str _ _ _ Tryz.underlying9 rfl),zo rfl rfl rfl rfl,trivial⟩ ?_
   refine pt_then ?_
   refine ht_cond _ rfl (fun hb61 => ?_) (fun hb61 => ?_)
   ·have h := cond_t hb61 h
    refine ht_skip ?_
    refine pt_then ?_
    refine ht_seq ?_
    refine ht_block ?_
    refine ht_seq ?_
    obtain ⟨v2, hv2, h⟩ := bind_some h
    refine zh hn [_, _, _, _, (12, .v (.string s)), (13, .v (.int .i64 s38)), (14, .v (.int .u8 v2)), (5, .v (.int .u8 v2))] [0,1,2,3] [0,1,2,7] [zq [0] 4 12, zq [2] 5 13, zq [4,5] 6 14, zq [6] 7 5] [(_,_),(_,_),(_,_),(_,_)] (by kernel_rfl) rfl rfl ⟨zm rfl rfl rfl,zm rfl rfl rfl,zp rfl (op_chr _ _ _ s38 _ Tryz.underlying9 rfl rfl hv2),za rfl rfl rfl,trivial⟩ ?_
    refine pt_then ?_
    refine ht_seq ?_
    refine ht_joinS h (fun (s67 : Int) => [(0, .v (.string s)), (3, .fl (.own 5) 1 (List.map (Value.int .u8) s37)), (4, .v (.int .i64 s38)), (5, .v (.int .u8 s67))]) ?_ ?_
    ·rintro s67 h
     refine pt_then ?_
     obtain ⟨v18, hv18, h⟩ := bind_some h
     refine zh hn [_, _, _, _, (23, .fl (.own 5) 1 (List.map (Value.int .u8) s37)), (24, .v (.int .u8 s67)), (25, .fl (.own 5) 1 (List.map (Value.int .u8) [s67])), (26, .fl (.own 5) 1 (List.map (Value.int .u8) v18)), (23, .any), (3, .fl (.own 5) 1 (List.map (Value.int .u8) v18))] [0,1,2,3] [0,2,9] [⟨[], [1], [4], [(.slot 23)]⟩, zq [3] 5 24, zq [5] 6 25, ⟨[6], [4], [8, 7], [(.slot 26)]⟩, ⟨[], [7], [9], [(.slot 3)]⟩] [(_,_),(_,_),(_,_)] (by kernel_rfl) rfl rfl ⟨zp rfl (op_move_take _ _ _ _ rfl),zm rfl rfl rfl,zp rfl (op_buildSlice _ _ 1 (.int .u8 0) (List.map (Value.int .u8) [s67]) [(0, .int .u8 s67)] Tryz.underlying67 sz5 zr5 (fun _ V w o a hv hes => by have e0 := rd_v hv hes (x := .tmp 24) rfl; simp only [List.map_toArray, List.map_cons, List.map_nil, e0]; try rfl) (litfill (by simp [Instr.fill, Value.cells]; rfl) (by simp [List.range, List.range.loop] <;> rfl)) (by simp [Value.oneCell']) rfl (by decide) (by decide) (by decide)),zp rfl (op_app _ _ _ _ _ el67 rfl rfl (map_len _) (map_len _) hv18 ((List.map_append).symm.trans (congrArg (List.map _) (app_eq hv18)))),zp rfl (op_assign_take _ _ _ _ rfl),trivial⟩ ?_
     refine pt_inb ?_
     refine pt_then ?_
     obtain ⟨v19, hv19, h⟩ := bind_some h
     refine zh hn [_, _, _, (10, .v (.int .i64 s38)), (11, .v (.int .i64 v19)), (4, .v (.int .i64 v19))] [0,1,2] [0,2,5] [zq [1] 3 10, zq [3] 4 11, ⟨[4], [1], [5], [(.slot 4)]⟩] [(_,_),(_,_),(_,_)] (by kernel_rfl) rfl rfl ⟨zm rfl rfl rfl,zp rfl (op_bin _ _ _ _ _ rfl rfl (ibind (f := Value.int .i64) (Option.some.inj hv19))),zp rfl (LOp.drop [_] (op_assign _ _ _ _ rfl rfl)),trivial⟩ ?_
     exact pt_next _ (Option.some.inj h).symm rfl
    ·intro u68 h hl69 hr70
     refine ht_seq ?_
     refine ht_joinS h (fun (s71 : Bool) => [(0, .v (.string s)), (3, .fl (.own 5) 1 (List.map (Value.int .u8) s37)), (4, .v (.int .i64 s38)), (5, .v (.int .u8 v2)), (20, .v (.bool s71))]) ?_ ?_
     ·rintro s71 h
      refine pt_then ?_
      refine ht_cond _ rfl (fun hb75 => ?_) (fun hb75 => ?_)
      ·have h := cond_t hb75 h
       obtain ⟨v8, hv8, h⟩ := bind_some h
       refine zh hn [_, _, _, _, _, (21, .v (.int .u8 v2)), (22, .v (.int .u8 v8)), (5, .v (.int .u8 v8))] [0,1,2,3,4] [0,1,2,7] [zq [3] 5 21, zq [5] 6 22, ⟨[6], [3], [7], [(.slot 5)]⟩] [(_,_),(_,_),(_,_),(_,_)] (by kernel_rfl) rfl rfl ⟨zm rfl rfl rfl,zp rfl (op_bin _ _ _ _ _ rfl rfl (ibind (f := Value.int .u8) (Option.some.inj hv8))),zp rfl (LOp.drop [_] (op_assign _ _ _ _ rfl rfl)),trivial⟩ ?_
       exact hl69 _ (Option.some.inj h).symm
      ·have h := cond_f hb75 h
       refine ht_skip ?_
       refine pt_pick [0, 1, 2, 3] (by kernel_rfl) (es' := [(_, _), (_, _), (_, _), (_, _)]) rfl ?_
       exact hl69 _ (Option.some.inj h).symm
     ·intro u72 h hl73 hr74
      refine cond_some h (fun hg6_2 h => ?_) (fun hg6_2 h => ?_)
      ·refine zh hn [_, _, _, _, (15, .v (.int .u8 v2)), (16, .v (.bool ((decide (65 ≤ v2))))), (17, .v (.bool true)), (18, .v (.int .u8 v2)), (19, .v (.bool ((decide (v2 ≤ 90))))), (20, .v (.bool ((decide (v2 ≤ 90)))))] [0,1,2,3] [0,1,2,3,9] [zq [3] 4 15, zq [4] 5 16, zq [5] 6 17, zq [6,3] 7 18, zq [6,7] 8 19, zq [6,8] 9 20] [(_,_),(_,_),(_,_),(_,_),(_,_)] (by kernel_rfl) rfl rfl ⟨zm rfl rfl rfl,zo rfl rfl rfl rfl,zm rfl (zb hg6_2) rfl,zr 2 rfl rfl rfl (op_move _ _ _ _ rfl rfl),zr 2 rfl rfl rfl (op_bin _ _ _ _ _ rfl rfl rfl),zk true rfl rfl rfl,trivial⟩ ?_
       exact hl73 _ (Option.some.inj h).symm
      ·refine zh hn [_, _, _, _, (15, .v (.int .u8 v2)), (16, .v (.bool ((decide (65 ≤ v2))))), (17, .v (.bool false)), (18, .v undef), (19, .v undef), (20, .v (.bool false))] [0,1,2,3] [0,1,2,3,9] [zq [3] 4 15, zq [4] 5 16, zq [5] 6 17, zq [6] 7 18, zq [6] 8 19, zq [6] 9 20] [(_,_),(_,_),(_,_),(_,_),(_,_)] (by kernel_rfl) rfl rfl ⟨zm rfl rfl rfl,zo rfl rfl rfl rfl,zm rfl (zb hg6_2) rfl,zs 2 true rfl rfl rfl rfl,zs 2 true rfl rfl rfl rfl,zk false rfl rfl rfl,trivial⟩ ?_
       exact hl73 _ (Option.some.inj h).symm
   ·have h := cond_f hb61 h
    refine ht_exit ?_
    refine pt_x_then ?_
    refine pt_x_then ?_
    refine pt_x_in ?_
    refine pt_pick [1] (by kernel_rfl) (es' := [(_, _)]) rfl ?_
    exact hl56 _ (ho58 _ (Option.some.inj h).symm).symm
end Go.Proofs.YthfmdofkkkpbkaaGreatDoor
