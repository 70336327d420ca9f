/-
  The model's runs are what is told in Lean.
-/
import Derived.Test.YtabnbhknefibaaaDoorProg
import Derived.KernelRfl
import Derived.Test.YtabnbhknefibaaaDoorShelf
import Derived.Test.YtabnbhknefibaaaDoorIdx
import Derived.Test.YtabnbhknefibaaaDoorOkc1
set_option linter.unusedVariables false
set_option linter.unusedSimpArgs false
set_option maxHeartbeats 1000000
namespace Go.Proofs.YtabnbhknefibaaaDoor
open Go.Abs Go.Abs.Sh Tryd
theorem ok_wherrykeep_Fields (a : (List T_Field)) (b : (List T_Field)) (r : Bool) (h : Sh.wherrykeep_Fields a b = some r) : FnOK Tryd.prog 20 [.fl .shr 2 (List.flatten (List.map T_Field.enc a)), .fl .shr 2 (List.flatten (List.map T_Field.enc b))] (.v (.bool r)) := by
  unfold Sh.wherrykeep_Fields at h
  refine fn_ok func20 rfl (zl rfl) rfl rfl fun g0 hn hio => ?_
  refine zgg hn [_,_,(4,vb false)] [0,1] [0,1] [zq [] 2 4] [(_,_),(_,_)] rfl ⟨z2 rfl,zz⟩ ?_
  refine ht_seq ?_
  refine zgg hn [_,_,(6,.fl .shr 2 (List.flatten (List.map T_Field.enc a))),(7,vi (a.length : Int)),(8,.fl .shr 2 (List.flatten (List.map T_Field.enc b))),(9,vi (b.length : Int)),(10,vb ((a.length : Int) != (b.length : Int)))] [0,1] [0,1,6] [zq [0] 2 6,zq [2] 3 7,zq [1] 4 8,zq [4] 5 9,zq [3,5] 6 10] [(_,_),(_,_),(_,_)] rfl ⟨z1 rfl,zp rfl (op_len_fl _ _ _ underlying24 rfl (by decide) (flat_len T_Field.len _)),z1 rfl,zp rfl (op_len_fl _ _ _ underlying24 rfl (by decide) (flat_len T_Field.len _)),z4 rfl rfl,zz⟩ ?_
  refine ht_cond _ rfl (fun hb1 => ?_) (fun hb1 => ?_)
  ·have h := cond_t hb1 h
   refine zgg hn [_,_,_,(4,vb false)] [0,1,2] [3] [zq [] 3 4] [(_,_)] rfl ⟨z2 rfl,zz⟩ ?_
   refine ht_ret ?_
   refine pt_r_then ?_
   obtain rfl := Option.some.inj h
   exact pt_ret hio rfl (.tmp _ _ .nil) rfl rfl
  ·have h := cond_f hb1 h
   refine ht_skip ?_
   refine pt_then (ht_seq ?_)
   refine zgg hn [_,_,_,(5,vi 0)] [0,1,2] [0,1,3] [zq [] 3 5] [(_,_),(_,_),(_,_)] rfl ⟨z2 rfl,zz⟩ ?_
   refine ht_loopS h (fun (s24 : Int) => [(0, .fl .shr 2 (List.flatten (List.map T_Field.enc a))), (1, .fl .shr 2 (List.flatten (List.map T_Field.enc b))), (5, .v (.int .i64 s24))]) (fun (() : Unit) => []) ?_ ?_
   ·rintro ⟨⟩ h
    refine pt_then ?_
    refine zgg hn [(4,vb true)] [] [0] [zq [] 0 4] [(_,_)] rfl ⟨z2 rfl,zz⟩ ?_
    refine ht_ret ?_
    obtain rfl := Option.some.inj h
    exact pt_ret hio rfl (.tmp _ _ .nil) rfl rfl
   ·rintro u31 hl32 hr33 s24 rr36 h ho34
    refine ht_seq ?_
    refine zgg hn [_,_,_,(11,vi s24),(12,.fl .shr 2 (List.flatten (List.map T_Field.enc a))),(13,vi (a.length : Int)),(14,vb (decide (s24 < (a.length : Int))))] [0,1,2] [0,1,2,6] [zq [2] 3 11,zq [0] 4 12,zq [4] 5 13,zq [3,5] 6 14] [(_,_),(_,_),(_,_),(_,_)] rfl ⟨z1 rfl,z1 rfl,zp rfl (op_len_fl _ _ _ underlying24 rfl (by decide) (flat_len T_Field.len _)),z4 rfl rfl,zz⟩ ?_
    refine ht_cond _ rfl (fun hb37 => ?_) (fun hb37 => ?_)
    ·have h := cond_t hb37 h
     refine ht_skip ?_
     refine pt_then (ht_seq ?_)
     refine ht_block ?_
     refine ht_seq ?_
     refine ht_joinS h (fun (s38 : Bool) => [(0, .fl .shr 2 (List.flatten (List.map T_Field.enc a))), (1, .fl .shr 2 (List.flatten (List.map T_Field.enc b))), (5, .v (.int .i64 s24)), (40, .v (.bool s38))]) ?_ ?_
     ·rintro s38 h
      refine pt_then ?_
      refine ht_cond _ rfl (fun hb42 => ?_) (fun hb42 => ?_)
      ·have h := cond_t hb42 h
       refine zgg hn [_,_,_,_,(4,vb false)] [0,1,2,3] [4] [zq [] 4 4] [(_,_)] rfl ⟨z2 rfl,zz⟩ ?_
       refine ht_ret ?_
       refine pt_r_in ?_
       refine pt_r_then ?_
       refine pt_r_then ?_
       refine pt_r_in ?_
       refine pt_r_then ?_
       have h := hr33 _ (ho34 _ (Option.some.inj h).symm).symm
       obtain rfl := Option.some.inj h
       exact pt_ret hio rfl (.tmp _ _ .nil) rfl rfl
      ·have h := cond_f hb42 h
       refine ht_skip ?_
       refine pt_inb ?_
       refine pt_then ?_
       obtain ⟨v16, hv16, h⟩ := bind_some h
       refine zg hn [_,_,_,_,(15,vi s24),(16,vi v16),(5,vi v16)] [0,1,2,3] [0,1,6] [zq [2] 4 15,zq [4] 5 16,⟨[5],[2],[6],[(.slot 5)]⟩] [(_,_),(_,_),(_,_)] rfl ⟨z1 rfl,zp rfl (oB rfl (ibind (f := Value.int .i64) (Option.some.inj hv16))),zp rfl (LOp.drop [_] (op_assign _ _ _ _ rfl rfl)),zz⟩ ?_
       exact pt_next _ (Option.some.inj h).symm rfl
     ·intro u39 h hl40 hr41
      obtain ⟨v3, hv3, h⟩ := bind_some h
      obtain ⟨v4, hv4, h⟩ := bind_some h
      obtain ⟨v5, hv5, h⟩ := bind_some h
      obtain ⟨v6, hv6, h⟩ := bind_some h
      refine cond_some h (fun hg6_11 h => ?_) (fun hg6_11 h => ?_)
      ·refine ht_anyR (by kernel_rfl) hn (El := (_ :: _ :: _ :: _ :: (17, .fl .shr 2 (List.flatten (List.map T_Field.enc a))) :: (18, .v (.int .i64 s24)) :: (19, .eref (.slot 17) (v3 * 2)) :: (20, .eref (.slot 17) (v3 * 2 + 0)) :: (21, .v (.string v4.Name)) :: (22, .fl .shr 2 (List.flatten (List.map T_Field.enc b))) :: (23, .v (.int .i64 s24)) :: (24, .eref (.slot 22) (v5 * 2)) :: (25, .eref (.slot 22) (v5 * 2 + 0)) :: (26, .v (.string v6.Name)) :: (27, .v (.bool ((!(v4.Name.toList == v6.Name.toList))))) :: (28, .v (.bool true)) :: (29, .v undef) :: (30, .v undef) :: (31, .v undef) :: (32, .v undef) :: (33, .v undef) :: (34, .v undef) :: (35, .v undef) :: (36, .v undef) :: (37, .v undef) :: (38, .v undef) :: (39, .v undef) :: (40, .v (.bool true)) :: [])) (init := [0, 1, 2, 3]) (fin := [0, 1, 2, 27]) (sps := (zq [0] 4 17 :: zq [2] 5 18 :: zq [4,5] 6 19 :: zq [6,4] 7 20 :: zq [7,4] 8 21 :: zq [1] 9 22 :: zq [2] 10 23 :: zq [9,10] 11 24 :: zq [11,9] 12 25 :: zq [12,9] 13 26 :: zq [8,13] 14 27 :: zq [14] 15 28 :: zq [15] 16 29 :: zq [15] 17 30 :: zq [15] 18 31 :: zq [15] 19 32 :: zq [15] 20 33 :: zq [15] 21 34 :: zq [15] 22 35 :: zq [15] 23 36 :: zq [15] 24 37 :: zq [15] 25 38 :: zq [15] 26 39 :: zq [15] 27 40 :: [])) (es' := [(_,_),(_,_),(_,_),(40, .v (.bool true))]) (by kernel_rfl) rfl rfl ⟨z1 rfl,z1 rfl,zp rfl (op_ix _ _ _ _ _ _ _ _ underlying24 sz44 (by decide) rfl rfl rfl (ix_ok hv3).1 (flat_lt T_Field.len (ix_ok hv3).2) rfl),zp rfl (op_fieldAddr_e _ _ _ _ _ _ _ underlying44 rfl sz9 rfl rfl rfl),zp rfl (op_load_e _ _ _ _ _ _ underlying9 rfl rfl rfl (flat_cell T_Field.len hv4 rfl)),z1 rfl,z1 rfl,zp rfl (op_ix _ _ _ _ _ _ _ _ underlying24 sz44 (by decide) rfl rfl rfl (ix_ok hv5).1 (flat_lt T_Field.len (ix_ok hv5).2) rfl),zp rfl (op_fieldAddr_e _ _ _ _ _ _ _ underlying44 rfl sz9 rfl rfl rfl),zp rfl (op_load_e _ _ _ _ _ _ underlying9 rfl rfl rfl (flat_cell T_Field.len hv6 rfl)),z4 rfl rfl,z8 hg6_11 rfl,zf rfl,zf rfl,zf rfl,zf rfl,zf rfl,zf rfl,zf rfl,zf rfl,zf rfl,zf rfl,zf rfl,z3 true rfl,zz⟩ ?_
       exact hl40 _ (Option.some.inj h).symm
      ·obtain ⟨v7, hv7, h⟩ := bind_some h
       obtain ⟨v8, hv8, h⟩ := bind_some h
       obtain ⟨v9, hv9, h⟩ := bind_some h
       obtain ⟨v10, hv10, h⟩ := bind_some h
       refine ht_anyR (by kernel_rfl) hn (El := (_ :: _ :: _ :: _ :: (17, .fl .shr 2 (List.flatten (List.map T_Field.enc a))) :: (18, .v (.int .i64 s24)) :: (19, .eref (.slot 17) (v3 * 2)) :: (20, .eref (.slot 17) (v3 * 2 + 0)) :: (21, .v (.string v4.Name)) :: (22, .fl .shr 2 (List.flatten (List.map T_Field.enc b))) :: (23, .v (.int .i64 s24)) :: (24, .eref (.slot 22) (v5 * 2)) :: (25, .eref (.slot 22) (v5 * 2 + 0)) :: (26, .v (.string v6.Name)) :: (27, .v (.bool ((!(v4.Name.toList == v6.Name.toList))))) :: (28, .v (.bool false)) :: (29, .fl .shr 2 (List.flatten (List.map T_Field.enc a))) :: (30, .v (.int .i64 s24)) :: (31, .eref (.slot 29) (v7 * 2)) :: (32, .eref (.slot 29) (v7 * 2 + 1)) :: (33, .v (.string v8.Body)) :: (34, .fl .shr 2 (List.flatten (List.map T_Field.enc b))) :: (35, .v (.int .i64 s24)) :: (36, .eref (.slot 34) (v9 * 2)) :: (37, .eref (.slot 34) (v9 * 2 + 1)) :: (38, .v (.string v10.Body)) :: (39, .v (.bool ((!(v8.Body.toList == v10.Body.toList))))) :: (40, .v (.bool ((!(v8.Body.toList == v10.Body.toList))))) :: [])) (init := [0, 1, 2, 3]) (fin := [0, 1, 2, 27]) (sps := (zq [0] 4 17 :: zq [2] 5 18 :: zq [4,5] 6 19 :: zq [6,4] 7 20 :: zq [7,4] 8 21 :: zq [1] 9 22 :: zq [2] 10 23 :: zq [9,10] 11 24 :: zq [11,9] 12 25 :: zq [12,9] 13 26 :: zq [8,13] 14 27 :: zq [14] 15 28 :: zq [15,0] 16 29 :: zq [15,2] 17 30 :: zq [15,16,17] 18 31 :: zq [15,18,16] 19 32 :: zq [15,19,16] 20 33 :: zq [15,1] 21 34 :: zq [15,2] 22 35 :: zq [15,21,22] 23 36 :: zq [15,23,21] 24 37 :: zq [15,24,21] 25 38 :: zq [15,20,25] 26 39 :: zq [15,26] 27 40 :: [])) (es' := [(_,_),(_,_),(_,_),(40, .v (.bool ((!(v8.Body.toList == v10.Body.toList)))))]) (by kernel_rfl) rfl rfl ⟨z1 rfl,z1 rfl,zp rfl (op_ix _ _ _ _ _ _ _ _ underlying24 sz44 (by decide) rfl rfl rfl (ix_ok hv3).1 (flat_lt T_Field.len (ix_ok hv3).2) rfl),zp rfl (op_fieldAddr_e _ _ _ _ _ _ _ underlying44 rfl sz9 rfl rfl rfl),zp rfl (op_load_e _ _ _ _ _ _ underlying9 rfl rfl rfl (flat_cell T_Field.len hv4 rfl)),z1 rfl,z1 rfl,zp rfl (op_ix _ _ _ _ _ _ _ _ underlying24 sz44 (by decide) rfl rfl rfl (ix_ok hv5).1 (flat_lt T_Field.len (ix_ok hv5).2) rfl),zp rfl (op_fieldAddr_e _ _ _ _ _ _ _ underlying44 rfl sz9 rfl rfl rfl),zp rfl (op_load_e _ _ _ _ _ _ underlying9 rfl rfl rfl (flat_cell T_Field.len hv6 rfl)),z4 rfl rfl,z8 hg6_11 rfl,zr' rfl (oM rfl),zr' rfl (oM rfl),zr' rfl (op_ix _ _ _ _ _ _ _ _ underlying24 sz44 (by decide) rfl rfl rfl (ix_ok hv7).1 (flat_lt T_Field.len (ix_ok hv7).2) rfl),zr' rfl (op_fieldAddr_e _ _ _ _ _ _ _ underlying44 rfl sz9 rfl rfl rfl),zr' rfl (op_load_e _ _ _ _ _ _ underlying9 rfl rfl rfl (flat_cell T_Field.len hv8 rfl)),zr' rfl (oM rfl),zr' rfl (oM rfl),zr' rfl (op_ix _ _ _ _ _ _ _ _ underlying24 sz44 (by decide) rfl rfl rfl (ix_ok hv9).1 (flat_lt T_Field.len (ix_ok hv9).2) rfl),zr' rfl (op_fieldAddr_e _ _ _ _ _ _ _ underlying44 rfl sz9 rfl rfl rfl),zr' rfl (op_load_e _ _ _ _ _ _ underlying9 rfl rfl rfl (flat_cell T_Field.len hv10 rfl)),zr' rfl (oB rfl rfl),z3 false rfl,zz⟩ ?_
       exact hl40 _ (Option.some.inj h).symm
    ·have h := cond_f hb37 h
     refine ht_exit ?_
     refine pt_x_then ?_
     refine pt_x_then ?_
     refine pt_x_in ?_
     refine pt_pick [] (by kernel_rfl) (es' := []) rfl ?_
     exact hl32 _ (ho34 _ (Option.some.inj h).symm).symm
theorem ok_wherrylaw15_wakes (mx : Int) (r : Bool) (h : Sh.wherrylaw15_wakes  = some r) : FnG Tryd.prog (GL mx) 18 [] (.v (.bool r)) := by
  unfold Sh.wherrylaw15_wakes at h
  refine fn_okG func18 rfl (zl rfl) rfl rfl fun g0 hn hio => ?_
  refine zgg hn [_,(0,vb false)] [0] [0] [zq [] 1 0] [(_,_)] rfl ⟨z2 rfl,zz⟩ ?_
  refine ht_seq ?_
  obtain ⟨v1, hv1, h⟩ := bind_some h
  refine zg hn [_,(7,.fl (.own 5) 1 (List.map (Value.int .u8) [65,58,32,98,13,10,13,10,99,13,10])),(8,.fl .ro 1 (List.map (Value.int .u8) [65,58,32,98,13,10,13,10,99,13,10])),(9,.tup [.fl (.own 44) 2 (List.flatten (List.map T_Field.enc v1.1)),vi v1.2.1,vi v1.2.2]),(6,.tup [.fl (.own 44) 2 (List.flatten (List.map T_Field.enc v1.1)),vi v1.2.1,vi v1.2.2]),(10,.fl (.own 44) 2 (List.flatten (List.map T_Field.enc v1.1))),(6,.tup [.any,vi v1.2.1,vi v1.2.2]),(11,vi v1.2.1),(12,vi v1.2.2),(1,.fl (.own 44) 2 (List.flatten (List.map T_Field.enc v1.1))),(2,vi v1.2.1),(3,vi v1.2.2)] [0] [0,9,10,11] [zq [] 1 7,⟨[],[1],[2],[(.slot 8)]⟩,zq [2,0] 3 9,⟨[],[3],[4],[(.slot 6)]⟩,⟨[],[4],[6,5],[(.slot 10)]⟩,zq [6] 7 11,zq [6] 8 12,⟨[],[5],[9],[(.slot 1)]⟩,zq [7] 10 2,zq [8] 11 3] [(_,_),(_,_),(_,_),(_,_)] rfl ⟨zp rfl (op_buildSlice _ _ 1 (.int .u8 0) (List.map (Value.int .u8) [65, 58, 32, 98, 13, 10, 13, 10, 99, 13, 10]) [(0, .int .u8 65), (1, .int .u8 58), (2, .int .u8 32), (3, .int .u8 98), (4, .int .u8 13), (5, .int .u8 10), (6, .int .u8 13), (7, .int .u8 10), (8, .int .u8 99), (9, .int .u8 13), (10, .int .u8 10)] underlying22 sz5 zr5 (fun _ V w o a hv hes => by simp only [List.map_toArray, List.map_cons, List.map_nil]; try rfl) (litfill (by simp [Instr.fill, Value.cells]; rfl) (by simp [List.range, List.range.loop] <;> rfl)) (by simp [Value.oneCell']) rfl (by decide) (by decide) (by decide)),zp rfl (op_conv_mark _ _ _ underlying22 underlying5 (by intro h; cases h)),zp rfl (op_callG _ _ 38 10 _ _ rfl call10 rfl rfl (fun _ h => h) (ok_head_Scan mx [65, 58, 32, 98, 13, 10, 13, 10, 99, 13, 10] _ hv1) rfl rfl),zp rfl (op_move_take _ _ _ _ rfl),zp rfl (op_extract_take _ _ _ _ _ rfl (zl rfl) rfl rfl (by decide) rfl),zp rfl (oE rfl),zp rfl (oE rfl),zp rfl (op_assign_take _ _ _ _ rfl),z2 rfl,z2 rfl,zz⟩ ?_
  refine pt_then (ht_seq ?_)
  obtain ⟨v2, hv2, h⟩ := bind_some h
  refine zg hn [_,_,_,_,(14,.tup [.mkr 5 (List.map (Value.int .u8) v2.1),vi v2.2]),(13,.tup [.mkr 5 (List.map (Value.int .u8) v2.1),vi v2.2]),(15,.mkr 5 (List.map (Value.int .u8) v2.1)),(13,.tup [.any,vi v2.2]),(16,vi v2.2),(4,.mkr 5 (List.map (Value.int .u8) v2.1)),(5,vi v2.2)] [0,1,2,3] [0,1,2,3,9,10] [zq [0] 4 14,⟨[],[4],[5],[(.slot 13)]⟩,⟨[],[5],[7,6],[(.slot 15)]⟩,zq [7] 8 16,⟨[],[6],[9],[(.slot 4)]⟩,zq [8] 10 5] [(_,_),(_,_),(_,_),(_,_),(_,_),(_,_)] rfl ⟨zp rfl (op_callG _ _ 38 12 _ _ rfl call12 rfl rfl (fun _ h => h) (ok_head_Stamp mx (⟨#[104]⟩ : ByteArray) (⟨#[115]⟩ : ByteArray) 7 _ hv2) rfl rfl),zp rfl (op_move_take _ _ _ _ rfl),zp rfl (op_extract_take _ _ _ _ _ rfl (zl rfl) rfl rfl (by decide) rfl),zp rfl (oE rfl),zp rfl (op_assign_take _ _ _ _ rfl),z2 rfl,zz⟩ ?_
  refine pt_then (ht_seq ?_)
  refine ht_joinS h (fun (s5 : Bool) => [(38, .glob (GL mx)), (0, .v (.bool s5))]) ?_ ?_
  ·rintro s5 h
   refine pt_then (ht_ret ?_)
   refine pt_pick [1] (by kernel_rfl) (es' := [(_,_)]) rfl ?_
   obtain rfl := Option.some.inj h
   exact pt_ret hio rfl (.tmp _ _ .nil) rfl rfl
  ·intro u6 h hl7 hr8
   refine cond_some h (fun hg3_2 h => ?_) (fun hg3_2 h => ?_)
   ·refine cond_some h (fun hg3_6 h => ?_) (fun hg3_6 h => ?_)
    ·refine cond_some h (fun hg3_10 h => ?_) (fun hg3_10 h => ?_)
     ·obtain ⟨v3, hv3, h⟩ := bind_some h
      refine cond_some h (fun hg3_16 h => ?_) (fun hg3_16 h => ?_)
      ·obtain ⟨v4, hv4, h⟩ := bind_some h
       refine zg hn (_::_::_::_::_::_::(17,vi v1.2.2)::(18,vb (v1.2.2 == 0))::(19,vb true)::(20,vi v2.2)::(21,vb (v2.2 == 0))::(22,vb (v2.2 == 0))::(23,vb true)::(24,vi v1.2.1)::(25,vb (v1.2.1 == 8))::(26,vb (v1.2.1 == 8))::(27,vb true)::(28,.fl (.own 44) 2 (List.flatten (List.map T_Field.enc v1.1)))::(29,.agg [vs (⟨#[65]⟩ : ByteArray),vs (⟨#[32,98]⟩ : ByteArray)])::(30,.fl (.own 44) 2 (List.flatten (List.map T_Field.enc ([(T_Field.mk (⟨#[65]⟩ : ByteArray) (⟨#[32,98]⟩ : ByteArray))]))))::(31,vb v3)::(32,vb v3)::(33,vb true)::(34,.mkr 5 (List.map (Value.int .u8) v2.1))::(35,vs v4)::(36,vb (v4.toList == (⟨#[82,101,99,101,105,118,101,100,58,32,102,114,111,109,32,104,32,98,121,32,115,32,119,105,116,104,32,69,83,77,84,80,59,32,55,13,10]⟩ : ByteArray).toList))::(37,vb (v4.toList == (⟨#[82,101,99,101,105,118,101,100,58,32,102,114,111,109,32,104,32,98,121,32,115,32,119,105,116,104,32,69,83,77,84,80,59,32,55,13,10]⟩ : ByteArray).toList))::(0,vb (v4.toList == (⟨#[82,101,99,101,105,118,101,100,58,32,102,114,111,109,32,104,32,98,121,32,115,32,119,105,116,104,32,69,83,77,84,80,59,32,55,13,10]⟩ : ByteArray).toList))::[]) [0,1,2,3,4,5] [0,27] (zq [3] 6 17::zq [6] 7 18::zq [7] 8 19::zq [8,5] 9 20::zq [8,9] 10 21::zq [8,10] 11 22::zq [11] 12 23::zq [12,2] 13 24::zq [12,13] 14 25::zq [12,14] 15 26::zq [15] 16 27::⟨[16],[1],[17],[(.slot 28)]⟩::zq [16] 18 29::zq [16,18] 19 30::zq [16,17,19] 20 31::zq [16,20] 21 32::zq [21] 22 33::⟨[22],[4],[23],[(.slot 34)]⟩::zq [22,23] 24 35::zq [22,24] 25 36::zq [22,25] 26 37::zq [26] 27 0::[]) [(_,_),(_,_)] rfl ⟨z1 rfl,z4 rfl rfl,z8 hg3_2 rfl,zr' rfl (oM rfl),zr' rfl (oB rfl rfl),z3 true rfl,z8 hg3_6 rfl,zr' rfl (oM rfl),zr' rfl (oB rfl rfl),z3 true rfl,z8 hg3_10 rfl,zr' rfl (op_move_take _ _ _ _ rfl),zr' rfl (op_build _ _ _ _ [1, 1] _ _ underlying44 zr44 (fs44 _ underlying44) (.copy _ (.copy _ Src.nil)) rfl rfl rfl),zr' rfl (op_buildSlice _ _ 2 (.agg #[.string ByteArray.empty, .string ByteArray.empty]) (List.flatten (List.map T_Field.enc ([(T_Field.mk (⟨#[65]⟩ : ByteArray) (⟨#[32, 98]⟩ : ByteArray))]))) [(0, .agg #[.string (⟨#[65]⟩ : ByteArray), .string (⟨#[32, 98]⟩ : ByteArray)])] underlying24 sz44 zr44 (fun _ V w o a hv hes => by have e0 := agg_v (ys := [.string (⟨#[65]⟩ : ByteArray), .string (⟨#[32, 98]⟩ : ByteArray)]) hv hes (x := .tmp 29) rfl; simp only [List.map_toArray, List.map_cons, List.map_nil, e0]; try rfl) (litfill (by simp [Instr.fill, Value.cells]; rfl) (by simp [List.range, List.range.loop, T_Field.enc] <;> rfl)) (by simp [Value.oneCell', T_Field.enc]) rfl (by decide) (by decide) (by decide)),zr' rfl (op_call _ _ 20 _ _ rfl call20 rfl (ok_wherrykeep_Fields v1.1 ([(T_Field.mk (⟨#[65]⟩ : ByteArray) (⟨#[32, 98]⟩ : ByteArray))]) _ hv3) rfl rfl),z3 true rfl,z8 hg3_16 rfl,zr' rfl (op_move_take _ _ _ _ rfl),zr' rfl ((Option.some.inj hv4) ▸ op_mk_str _ _ _ v2.1 underlying22 underlying9 underlying5 rfl),zr' rfl (oB rfl rfl),z3 true rfl,z2 rfl,zz⟩ ?_
       exact hl7 _ (Option.some.inj h).symm
      ·refine zg hn (_::_::_::_::_::_::(17,vi v1.2.2)::(18,vb (v1.2.2 == 0))::(19,vb true)::(20,vi v2.2)::(21,vb (v2.2 == 0))::(22,vb (v2.2 == 0))::(23,vb true)::(24,vi v1.2.1)::(25,vb (v1.2.1 == 8))::(26,vb (v1.2.1 == 8))::(27,vb true)::(28,.fl (.own 44) 2 (List.flatten (List.map T_Field.enc v1.1)))::(29,.agg [vs (⟨#[65]⟩ : ByteArray),vs (⟨#[32,98]⟩ : ByteArray)])::(30,.fl (.own 44) 2 (List.flatten (List.map T_Field.enc ([(T_Field.mk (⟨#[65]⟩ : ByteArray) (⟨#[32,98]⟩ : ByteArray))]))))::(31,vb v3)::(32,vb v3)::(33,vb false)::(34,.v undef)::(35,.v undef)::(36,.v undef)::(37,vb false)::(0,vb false)::[]) [0,1,2,3,4,5] [0,27] (zq [3] 6 17::zq [6] 7 18::zq [7] 8 19::zq [8,5] 9 20::zq [8,9] 10 21::zq [8,10] 11 22::zq [11] 12 23::zq [12,2] 13 24::zq [12,13] 14 25::zq [12,14] 15 26::zq [15] 16 27::⟨[16],[1],[17],[(.slot 28)]⟩::zq [16] 18 29::zq [16,18] 19 30::zq [16,17,19] 20 31::zq [16,20] 21 32::zq [21] 22 33::zq [22] 23 34::zq [22] 24 35::zq [22] 25 36::zq [22] 26 37::zq [26] 27 0::[]) [(_,_),(_,_)] rfl ⟨z1 rfl,z4 rfl rfl,z8 hg3_2 rfl,zr' rfl (oM rfl),zr' rfl (oB rfl rfl),z3 true rfl,z8 hg3_6 rfl,zr' rfl (oM rfl),zr' rfl (oB rfl rfl),z3 true rfl,z8 hg3_10 rfl,zr' rfl (op_move_take _ _ _ _ rfl),zr' rfl (op_build _ _ _ _ [1, 1] _ _ underlying44 zr44 (fs44 _ underlying44) (.copy _ (.copy _ Src.nil)) rfl rfl rfl),zr' rfl (op_buildSlice _ _ 2 (.agg #[.string ByteArray.empty, .string ByteArray.empty]) (List.flatten (List.map T_Field.enc ([(T_Field.mk (⟨#[65]⟩ : ByteArray) (⟨#[32, 98]⟩ : ByteArray))]))) [(0, .agg #[.string (⟨#[65]⟩ : ByteArray), .string (⟨#[32, 98]⟩ : ByteArray)])] underlying24 sz44 zr44 (fun _ V w o a hv hes => by have e0 := agg_v (ys := [.string (⟨#[65]⟩ : ByteArray), .string (⟨#[32, 98]⟩ : ByteArray)]) hv hes (x := .tmp 29) rfl; simp only [List.map_toArray, List.map_cons, List.map_nil, e0]; try rfl) (litfill (by simp [Instr.fill, Value.cells]; rfl) (by simp [List.range, List.range.loop, T_Field.enc] <;> rfl)) (by simp [Value.oneCell', T_Field.enc]) rfl (by decide) (by decide) (by decide)),zr' rfl (op_call _ _ 20 _ _ rfl call20 rfl (ok_wherrykeep_Fields v1.1 ([(T_Field.mk (⟨#[65]⟩ : ByteArray) (⟨#[32, 98]⟩ : ByteArray))]) _ hv3) rfl rfl),z3 true rfl,z8 hg3_16 rfl,zt rfl,zt rfl,zt rfl,z3 false rfl,z2 rfl,zz⟩ ?_
       exact hl7 _ (Option.some.inj h).symm
     ·refine zg hn (_::_::_::_::_::_::(17,vi v1.2.2)::(18,vb (v1.2.2 == 0))::(19,vb true)::(20,vi v2.2)::(21,vb (v2.2 == 0))::(22,vb (v2.2 == 0))::(23,vb true)::(24,vi v1.2.1)::(25,vb (v1.2.1 == 8))::(26,vb (v1.2.1 == 8))::(27,vb false)::(28,.v undef)::(29,.v undef)::(30,.v undef)::(31,.v undef)::(32,vb false)::(33,vb false)::(34,.v undef)::(35,.v undef)::(36,.v undef)::(37,vb false)::(0,vb false)::[]) [0,1,2,3,4,5] [0,27] (zq [3] 6 17::zq [6] 7 18::zq [7] 8 19::zq [8,5] 9 20::zq [8,9] 10 21::zq [8,10] 11 22::zq [11] 12 23::zq [12,2] 13 24::zq [12,13] 14 25::zq [12,14] 15 26::zq [15] 16 27::zq [16] 17 28::zq [16] 18 29::zq [16] 19 30::zq [16] 20 31::zq [16] 21 32::zq [21] 22 33::zq [22] 23 34::zq [22] 24 35::zq [22] 25 36::zq [22] 26 37::zq [26] 27 0::[]) [(_,_),(_,_)] rfl ⟨z1 rfl,z4 rfl rfl,z8 hg3_2 rfl,zr' rfl (oM rfl),zr' rfl (oB rfl rfl),z3 true rfl,z8 hg3_6 rfl,zr' rfl (oM rfl),zr' rfl (oB rfl rfl),z3 true rfl,z8 hg3_10 rfl,zt rfl,zt rfl,zt rfl,zt rfl,z3 false rfl,z1 rfl,zt rfl,zt rfl,zt rfl,z3 false rfl,z2 rfl,zz⟩ ?_
      exact hl7 _ (Option.some.inj h).symm
    ·refine zg hn (_::_::_::_::_::_::(17,vi v1.2.2)::(18,vb (v1.2.2 == 0))::(19,vb true)::(20,vi v2.2)::(21,vb (v2.2 == 0))::(22,vb (v2.2 == 0))::(23,vb false)::(24,.v undef)::(25,.v undef)::(26,vb false)::(27,vb false)::(28,.v undef)::(29,.v undef)::(30,.v undef)::(31,.v undef)::(32,vb false)::(33,vb false)::(34,.v undef)::(35,.v undef)::(36,.v undef)::(37,vb false)::(0,vb false)::[]) [0,1,2,3,4,5] [0,27] (zq [3] 6 17::zq [6] 7 18::zq [7] 8 19::zq [8,5] 9 20::zq [8,9] 10 21::zq [8,10] 11 22::zq [11] 12 23::zq [12] 13 24::zq [12] 14 25::zq [12] 15 26::zq [15] 16 27::zq [16] 17 28::zq [16] 18 29::zq [16] 19 30::zq [16] 20 31::zq [16] 21 32::zq [21] 22 33::zq [22] 23 34::zq [22] 24 35::zq [22] 25 36::zq [22] 26 37::zq [26] 27 0::[]) [(_,_),(_,_)] rfl ⟨z1 rfl,z4 rfl rfl,z8 hg3_2 rfl,zr' rfl (oM rfl),zr' rfl (oB rfl rfl),z3 true rfl,z8 hg3_6 rfl,zt rfl,zt rfl,z3 false rfl,z1 rfl,zt rfl,zt rfl,zt rfl,zt rfl,z3 false rfl,z1 rfl,zt rfl,zt rfl,zt rfl,z3 false rfl,z2 rfl,zz⟩ ?_
     exact hl7 _ (Option.some.inj h).symm
   ·refine zg hn (_::_::_::_::_::_::(17,vi v1.2.2)::(18,vb (v1.2.2 == 0))::(19,vb false)::(20,.v undef)::(21,.v undef)::(22,vb false)::(23,vb false)::(24,.v undef)::(25,.v undef)::(26,vb false)::(27,vb false)::(28,.v undef)::(29,.v undef)::(30,.v undef)::(31,.v undef)::(32,vb false)::(33,vb false)::(34,.v undef)::(35,.v undef)::(36,.v undef)::(37,vb false)::(0,vb false)::[]) [0,1,2,3,4,5] [0,27] (zq [3] 6 17::zq [6] 7 18::zq [7] 8 19::zq [8] 9 20::zq [8] 10 21::zq [8] 11 22::zq [11] 12 23::zq [12] 13 24::zq [12] 14 25::zq [12] 15 26::zq [15] 16 27::zq [16] 17 28::zq [16] 18 29::zq [16] 19 30::zq [16] 20 31::zq [16] 21 32::zq [21] 22 33::zq [22] 23 34::zq [22] 24 35::zq [22] 25 36::zq [22] 26 37::zq [26] 27 0::[]) [(_,_),(_,_)] rfl ⟨z1 rfl,z4 rfl rfl,z8 hg3_2 rfl,zt rfl,zt rfl,z3 false rfl,z1 rfl,zt rfl,zt rfl,z3 false rfl,z1 rfl,zt rfl,zt rfl,zt rfl,zt rfl,z3 false rfl,z1 rfl,zt rfl,zt rfl,zt rfl,z3 false rfl,z2 rfl,zz⟩ ?_
    exact hl7 _ (Option.some.inj h).symm
theorem ok_wherryref11_end (b : (List Int)) (at_ : Int) (r : Int) (h : Sh.wherryref11_end b at_ = some r) : FnOK Tryd.prog 35 [.fl .shr 1 (List.map (Value.int .u8) b), .v (.int .i64 at_)] (.v (.int .i64 r)) := by
  unfold Sh.wherryref11_end at h
  refine fn_ok func35 rfl (zl rfl) rfl rfl fun g0 hn hio => ?_
  refine zgg hn [_,_,(4,vi 0)] [0,1] [0,1] [zq [] 2 4] [(_,_),(_,_)] rfl ⟨z2 rfl,zz⟩ ?_
  refine ht_seq ?_
  refine zgg hn [_,_,(6,vi at_),(5,vi at_)] [0,1] [0,3] [zq [1] 2 6,zq [2] 3 5] [(_,_),(_,_)] rfl ⟨z1 rfl,z2 rfl,zz⟩ ?_
  refine ht_loopS h (fun (s21 : Int) => [(0, .fl .shr 1 (List.map (Value.int .u8) b)), (5, .v (.int .i64 s21))]) (fun (() : Unit) => []) ?_ ?_
  ·rintro ⟨⟩ h
   refine pt_then ?_
   refine zgg hn [(4,vi (-1))] [] [0] [zq [] 0 4] [(_,_)] rfl ⟨z2 rfl,zz⟩ ?_
   refine ht_ret ?_
   obtain rfl := Option.some.inj h
   exact pt_ret hio rfl (.tmp _ _ .nil) rfl rfl
  ·rintro u28 hl29 hr30 s21 rr33 h ho31
   refine ht_seq ?_
   refine ht_seq ?_
   obtain ⟨v1, hv1, h⟩ := bind_some h
   refine zg hn [_,_,(7,vi s21),(8,vi v1),(9,.fl .shr 1 (List.map (Value.int .u8) b)),(10,vi (b.length : Int)),(11,vb (decide (v1 < (b.length : Int))))] [0,1] [0,1,6] [zq [1] 2 7,zq [2] 3 8,zq [0] 4 9,zq [4] 5 10,zq [3,5] 6 11] [(_,_),(_,_),(_,_)] rfl ⟨z1 rfl,zp rfl (oB rfl (ibind (f := Value.int .i64) (Option.some.inj hv1))),z1 rfl,zp rfl (op_len_fl _ _ _ underlying22 rfl (by decide) (map_len _)),z4 rfl rfl,zz⟩ ?_
   refine pt_then ?_
   refine ht_cond _ rfl (fun hb34 => ?_) (fun hb34 => ?_)
   ·have h := cond_t hb34 h
    refine ht_skip ?_
    refine pt_then (ht_seq ?_)
    refine ht_block ?_
    refine ht_seq ?_
    refine ht_joinS h (fun (s35 : Bool) => [(0, .fl .shr 1 (List.map (Value.int .u8) b)), (5, .v (.int .i64 s21)), (26, .v (.bool s35))]) ?_ ?_
    ·rintro s35 h
     refine pt_then ?_
     refine ht_cond _ rfl (fun hb39 => ?_) (fun hb39 => ?_)
     ·have h := cond_t hb39 h
      refine zgg hn [_,_,_,(27,vi s21),(4,vi s21)] [0,1,2] [4] [zq [1] 3 27,zq [3] 4 4] [(_,_)] rfl ⟨z1 rfl,z2 rfl,zz⟩ ?_
      refine ht_ret ?_
      refine pt_r_in ?_
      refine pt_r_then ?_
      refine pt_r_then ?_
      refine pt_r_in ?_
      refine pt_r_then ?_
      have h := hr30 _ (ho31 _ (Option.some.inj h).symm).symm
      obtain rfl := Option.some.inj h
      exact pt_ret hio rfl (.tmp _ _ .nil) rfl rfl
     ·have h := cond_f hb39 h
      refine ht_skip ?_
      refine pt_inb ?_
      refine pt_then ?_
      obtain ⟨v13, hv13, h⟩ := bind_some h
      refine zg hn [_,_,_,(12,vi s21),(13,vi v13),(5,vi v13)] [0,1,2] [0,5] [zq [1] 3 12,zq [3] 4 13,⟨[4],[1],[5],[(.slot 5)]⟩] [(_,_),(_,_)] rfl ⟨z1 rfl,zp rfl (oB rfl (ibind (f := Value.int .i64) (Option.some.inj hv13))),zp rfl (LOp.drop [_] (op_assign _ _ _ _ rfl rfl)),zz⟩ ?_
      exact pt_next _ (Option.some.inj h).symm rfl
    ·intro u36 h hl37 hr38
     obtain ⟨v3, hv3, h⟩ := bind_some h
     obtain ⟨v4, hv4, h⟩ := bind_some h
     refine cond_some h (fun hg4_5 h => ?_) (fun hg4_5 h => ?_)
     ·obtain ⟨v5, hv5, h⟩ := bind_some h
      obtain ⟨v6, hv6, h⟩ := bind_some h
      obtain ⟨v7, hv7, h⟩ := bind_some h
      refine zg hn (_::_::_::(14,.fl .shr 1 (List.map (Value.int .u8) b))::(15,vi s21)::(16,.eref (.slot 14) (v3 * 1))::(17,.v (.int .u8 v4))::(18,vb (v4 == 13))::(19,vb true)::(20,.fl .shr 1 (List.map (Value.int .u8) b))::(21,vi s21)::(22,vi v5)::(23,.eref (.slot 20) (v6 * 1))::(24,.v (.int .u8 v7))::(25,vb (v7 == 10))::(26,vb (v7 == 10))::[]) [0,1,2] [0,1,15] [zq [0] 3 14,zq [1] 4 15,zq [3,4] 5 16,zq [5,3] 6 17,zq [6] 7 18,zq [7] 8 19,zq [8,0] 9 20,zq [8,1] 10 21,zq [8,10] 11 22,zq [8,9,11] 12 23,zq [8,12,9] 13 24,zq [8,13] 14 25,zq [8,14] 15 26] [(_,_),(_,_),(_,_)] rfl ⟨z1 rfl,z1 rfl,zp rfl (op_ix _ _ _ _ _ _ _ _ underlying22 sz5 (by decide) rfl rfl rfl (ix_ok hv3).1 (map_lt (ix_ok hv3).2) rfl),zp rfl (op_load_e _ _ _ _ _ _ underlying5 rfl rfl rfl (map_get hv4)),z4 rfl rfl,z8 hg4_5 rfl,zr' rfl (oM rfl),zr' rfl (oM rfl),zr' rfl (oB rfl (ibind (f := Value.int .i64) (Option.some.inj hv5))),zr' rfl (op_ix _ _ _ _ _ _ _ _ underlying22 sz5 (by decide) rfl rfl rfl (ix_ok hv6).1 (map_lt (ix_ok hv6).2) rfl),zr' rfl (op_load_e _ _ _ _ _ _ underlying5 rfl rfl rfl (map_get hv7)),zr' rfl (oB rfl rfl),z3 true rfl,zz⟩ ?_
      exact hl37 _ (Option.some.inj h).symm
     ·refine zg hn (_::_::_::(14,.fl .shr 1 (List.map (Value.int .u8) b))::(15,vi s21)::(16,.eref (.slot 14) (v3 * 1))::(17,.v (.int .u8 v4))::(18,vb (v4 == 13))::(19,vb false)::(20,.v undef)::(21,.v undef)::(22,.v undef)::(23,.v undef)::(24,.v undef)::(25,.v undef)::(26,vb false)::[]) [0,1,2] [0,1,15] [zq [0] 3 14,zq [1] 4 15,zq [3,4] 5 16,zq [5,3] 6 17,zq [6] 7 18,zq [7] 8 19,zq [8] 9 20,zq [8] 10 21,zq [8] 11 22,zq [8] 12 23,zq [8] 13 24,zq [8] 14 25,zq [8] 15 26] [(_,_),(_,_),(_,_)] rfl ⟨z1 rfl,z1 rfl,zp rfl (op_ix _ _ _ _ _ _ _ _ underlying22 sz5 (by decide) rfl rfl rfl (ix_ok hv3).1 (map_lt (ix_ok hv3).2) rfl),zp rfl (op_load_e _ _ _ _ _ _ underlying5 rfl rfl rfl (map_get hv4)),z4 rfl rfl,z8 hg4_5 rfl,zt rfl,zt rfl,zt rfl,zt rfl,zt rfl,zt rfl,z3 false rfl,zz⟩ ?_
      exact hl37 _ (Option.some.inj h).symm
   ·have h := cond_f hb34 h
    refine ht_exit ?_
    refine pt_x_then ?_
    refine pt_x_then ?_
    refine pt_x_in ?_
    refine pt_pick [] (by kernel_rfl) (es' := []) rfl ?_
    exact hl29 _ (ho31 _ (Option.some.inj h).symm).symm
theorem ok_wherryref11_colon (l : (List Int)) (r : Int) (h : Sh.wherryref11_colon l = some r) : FnOK Tryd.prog 36 [.fl .shr 1 (List.map (Value.int .u8) l)] (.v (.int .i64 r)) := by
  unfold Sh.wherryref11_colon at h
  refine fn_ok func36 rfl (zl rfl) rfl rfl fun g0 hn hio => ?_
  refine zgg hn [_,(2,vi 0)] [0] [0] [zq [] 1 2] [(_,_)] rfl ⟨z2 rfl,zz⟩ ?_
  refine ht_seq ?_
  refine zgg hn [_,(3,vi 0)] [0] [0,1] [zq [] 1 3] [(_,_),(_,_)] rfl ⟨z2 rfl,zz⟩ ?_
  refine ht_loopS h (fun (s25 : Int) => [(0, .fl .shr 1 (List.map (Value.int .u8) l)), (3, .v (.int .i64 s25))]) (fun (() : Unit) => []) ?_ ?_
  ·rintro ⟨⟩ h
   refine pt_then ?_
   refine zgg hn [(2,vi (-1))] [] [0] [zq [] 0 2] [(_,_)] rfl ⟨z2 rfl,zz⟩ ?_
   refine ht_ret ?_
   obtain rfl := Option.some.inj h
   exact pt_ret hio rfl (.tmp _ _ .nil) rfl rfl
  ·rintro u34 hl35 hr36 s25 rr39 h ho37
   refine ht_seq ?_
   refine zgg hn [_,_,(4,vi s25),(5,.fl .shr 1 (List.map (Value.int .u8) l)),(6,vi (l.length : Int)),(7,vb (decide (s25 < (l.length : Int))))] [0,1] [0,1,5] [zq [1] 2 4,zq [0] 3 5,zq [3] 4 6,zq [2,4] 5 7] [(_,_),(_,_),(_,_)] rfl ⟨z1 rfl,z1 rfl,zp rfl (op_len_fl _ _ _ underlying22 rfl (by decide) (map_len _)),z4 rfl rfl,zz⟩ ?_
   refine ht_cond _ rfl (fun hb40 => ?_) (fun hb40 => ?_)
   ·have h := cond_t hb40 h
    refine ht_skip ?_
    refine pt_then (ht_seq ?_)
    refine ht_block ?_
    refine ht_seq ?_
    refine ht_seq ?_
    obtain ⟨v2, hv2, h⟩ := bind_some h
    obtain ⟨v3, hv3, h⟩ := bind_some h
    refine zg hn [_,_,_,(10,.fl .shr 1 (List.map (Value.int .u8) l)),(11,vi s25),(12,.eref (.slot 10) (v2 * 1)),(13,.v (.int .u8 v3)),(14,vb (v3 == 58))] [0,1,2] [0,1,7] [zq [0] 3 10,zq [1] 4 11,zq [3,4] 5 12,zq [5,3] 6 13,zq [6] 7 14] [(_,_),(_,_),(_,_)] rfl ⟨z1 rfl,z1 rfl,zp rfl (op_ix _ _ _ _ _ _ _ _ underlying22 sz5 (by decide) rfl rfl rfl (ix_ok hv2).1 (map_lt (ix_ok hv2).2) rfl),zp rfl (op_load_e _ _ _ _ _ _ underlying5 rfl rfl rfl (map_get hv3)),z4 rfl rfl,zz⟩ ?_
    refine pt_then ?_
    refine ht_cond _ rfl (fun hb41 => ?_) (fun hb41 => ?_)
    ·have h := cond_t hb41 h
     refine ht_seq ?_
     refine zgg hn [_,_,_,(15,vi s25),(16,vb (s25 == 0))] [0,1,2] [1,4] [zq [1] 3 15,zq [3] 4 16] [(_,_),(_,_)] rfl ⟨z1 rfl,z4 rfl rfl,zz⟩ ?_
     refine ht_cond _ rfl (fun hb42 => ?_) (fun hb42 => ?_)
     ·have h := cond_t hb42 h
      refine zgg hn [_,_,(2,vi (-1))] [0,1] [2] [zq [] 2 2] [(_,_)] rfl ⟨z2 rfl,zz⟩ ?_
      refine ht_ret ?_
      refine pt_r_then ?_
      refine pt_r_then ?_
      refine pt_r_in ?_
      refine pt_r_then ?_
      refine pt_r_then ?_
      refine pt_r_in ?_
      refine pt_r_then ?_
      have h := hr36 _ (ho37 _ (Option.some.inj h).symm).symm
      obtain rfl := Option.some.inj h
      exact pt_ret hio rfl (.tmp _ _ .nil) rfl rfl
     ·have h := cond_f hb42 h
      refine ht_skip ?_
      refine pt_then ?_
      refine zgg hn [_,_,(17,vi s25),(2,vi s25)] [0,1] [3] [zq [0] 2 17,zq [2] 3 2] [(_,_)] rfl ⟨z1 rfl,z2 rfl,zz⟩ ?_
      refine ht_ret ?_
      refine pt_r_then ?_
      refine pt_r_in ?_
      refine pt_r_then ?_
      refine pt_r_then ?_
      refine pt_r_in ?_
      refine pt_r_then ?_
      have h := hr36 _ (ho37 _ (Option.some.inj h).symm).symm
      obtain rfl := Option.some.inj h
      exact pt_ret hio rfl (.tmp _ _ .nil) rfl rfl
    ·have h := cond_f hb41 h
     refine ht_skip ?_
     refine pt_then (ht_seq ?_)
     refine ht_joinS h (fun (s43 : Bool) => [(0, .fl .shr 1 (List.map (Value.int .u8) l)), (3, .v (.int .i64 s25)), (29, .v (.bool s43))]) ?_ ?_
     ·rintro s43 h
      refine pt_then ?_
      refine ht_cond _ rfl (fun hb47 => ?_) (fun hb47 => ?_)
      ·have h := cond_t hb47 h
       refine zgg hn [_,_,_,(2,vi (-1))] [0,1,2] [3] [zq [] 3 2] [(_,_)] rfl ⟨z2 rfl,zz⟩ ?_
       refine ht_ret ?_
       refine pt_r_in ?_
       refine pt_r_then ?_
       refine pt_r_then ?_
       refine pt_r_in ?_
       refine pt_r_then ?_
       have h := hr36 _ (ho37 _ (Option.some.inj h).symm).symm
       obtain rfl := Option.some.inj h
       exact pt_ret hio rfl (.tmp _ _ .nil) rfl rfl
      ·have h := cond_f hb47 h
       refine ht_skip ?_
       refine pt_inb ?_
       refine pt_then ?_
       obtain ⟨v15, hv15, h⟩ := bind_some h
       refine zg hn [_,_,_,(8,vi s25),(9,vi v15),(3,vi v15)] [0,1,2] [0,5] [zq [1] 3 8,zq [3] 4 9,⟨[4],[1],[5],[(.slot 3)]⟩] [(_,_),(_,_)] rfl ⟨z1 rfl,zp rfl (oB rfl (ibind (f := Value.int .i64) (Option.some.inj hv15))),zp rfl (LOp.drop [_] (op_assign _ _ _ _ rfl rfl)),zz⟩ ?_
       exact pt_next _ (Option.some.inj h).symm rfl
     ·intro u44 h hl45 hr46
      obtain ⟨v6, hv6, h⟩ := bind_some h
      obtain ⟨v7, hv7, h⟩ := bind_some h
      refine cond_some h (fun hg8_5 h => ?_) (fun hg8_5 h => ?_)
      ·refine zg hn (_::_::_::(18,.fl .shr 1 (List.map (Value.int .u8) l))::(19,vi s25)::(20,.eref (.slot 18) (v6 * 1))::(21,.v (.int .u8 v7))::(22,vb (decide (v7 < 33)))::(23,vb true)::(24,.v undef)::(25,.v undef)::(26,.v undef)::(27,.v undef)::(28,.v undef)::(29,vb true)::[]) [0,1,2] [0,1,14] [zq [0] 3 18,zq [1] 4 19,zq [3,4] 5 20,zq [5,3] 6 21,zq [6] 7 22,zq [7] 8 23,zq [8] 9 24,zq [8] 10 25,zq [8] 11 26,zq [8] 12 27,zq [8] 13 28,zq [8] 14 29] [(_,_),(_,_),(_,_)] rfl ⟨z1 rfl,z1 rfl,zp rfl (op_ix _ _ _ _ _ _ _ _ underlying22 sz5 (by decide) rfl rfl rfl (ix_ok hv6).1 (map_lt (ix_ok hv6).2) rfl),zp rfl (op_load_e _ _ _ _ _ _ underlying5 rfl rfl rfl (map_get hv7)),z4 rfl rfl,z8 hg8_5 rfl,zf rfl,zf rfl,zf rfl,zf rfl,zf rfl,z3 true rfl,zz⟩ ?_
       exact hl45 _ (Option.some.inj h).symm
      ·obtain ⟨v8, hv8, h⟩ := bind_some h
       obtain ⟨v9, hv9, h⟩ := bind_some h
       refine zg hn (_::_::_::(18,.fl .shr 1 (List.map (Value.int .u8) l))::(19,vi s25)::(20,.eref (.slot 18) (v6 * 1))::(21,.v (.int .u8 v7))::(22,vb (decide (v7 < 33)))::(23,vb false)::(24,.fl .shr 1 (List.map (Value.int .u8) l))::(25,vi s25)::(26,.eref (.slot 24) (v8 * 1))::(27,.v (.int .u8 v9))::(28,vb (decide (126 < v9)))::(29,vb (decide (126 < v9)))::[]) [0,1,2] [0,1,14] [zq [0] 3 18,zq [1] 4 19,zq [3,4] 5 20,zq [5,3] 6 21,zq [6] 7 22,zq [7] 8 23,zq [8,0] 9 24,zq [8,1] 10 25,zq [8,9,10] 11 26,zq [8,11,9] 12 27,zq [8,12] 13 28,zq [8,13] 14 29] [(_,_),(_,_),(_,_)] rfl ⟨z1 rfl,z1 rfl,zp rfl (op_ix _ _ _ _ _ _ _ _ underlying22 sz5 (by decide) rfl rfl rfl (ix_ok hv6).1 (map_lt (ix_ok hv6).2) rfl),zp rfl (op_load_e _ _ _ _ _ _ underlying5 rfl rfl rfl (map_get hv7)),z4 rfl rfl,z8 hg8_5 rfl,zr' rfl (oM rfl),zr' rfl (oM rfl),zr' rfl (op_ix _ _ _ _ _ _ _ _ underlying22 sz5 (by decide) rfl rfl rfl (ix_ok hv8).1 (map_lt (ix_ok hv8).2) rfl),zr' rfl (op_load_e _ _ _ _ _ _ underlying5 rfl rfl rfl (map_get hv9)),zr' rfl (oB rfl rfl),z3 false rfl,zz⟩ ?_
       exact hl45 _ (Option.some.inj h).symm
   ·have h := cond_f hb40 h
    refine ht_exit ?_
    refine pt_x_then ?_
    refine pt_x_then ?_
    refine pt_x_in ?_
    refine pt_pick [] (by kernel_rfl) (es' := []) rfl ?_
    exact hl35 _ (ho37 _ (Option.some.inj h).symm).symm
theorem ok_wherryref11_Scan (b : (List Int)) (r : ((List T_Field) × Int)) (h : Sh.wherryref11_Scan b = some r) : FnOK Tryd.prog 19 [.fl .shr 1 (List.map (Value.int .u8) b)] (.tup [.fl (.own 44) 2 (List.flatten (List.map T_Field.enc r.1)), .v (.int .i64 r.2)]) := by
  unfold Sh.wherryref11_Scan at h
  refine fn_ok func19 rfl (zl rfl) rfl rfl fun g0 hn hio => ?_
  refine zgg hn [_,(2,.v (.slice none 0 0)),(3,vi 0)] [0] [0] [zq [] 1 2,zq [] 2 3] [(_,_)] rfl ⟨z2 rfl,z2 rfl,zz⟩ ?_
  refine zgg hn [_,(4,.v (.slice none 0 0))] [0] [0,1] [zq [] 1 4] [(_,_),(_,_)] rfl ⟨z2 rfl,zz⟩ ?_
  refine zgg hn [_,_,(5,vi 0)] [0,1] [0,1,2] [zq [] 2 5] [(_,_),(_,_),(_,_)] rfl ⟨z2 rfl,zz⟩ ?_
  refine ht_sub (fs := [(0, .fl .shr 1 (List.map (Value.int .u8) b)), (4, .fl (.own 44) 2 (List.flatten (List.map T_Field.enc []))), (5, .v (.int .i64 0))]) (.same _ (.sub _ (sub_nil 44 2) rfl (.same _ .nil))) ?_
  refine ht_loopS h (fun ((s68, s69) : (List T_Field) × Int) => [(0, .fl .shr 1 (List.map (Value.int .u8) b)), (4, .fl (.own 44) 2 (List.flatten (List.map T_Field.enc s68))), (5, .v (.int .i64 s69))]) (fun (() : Unit) => []) ?_ ?_
  ·rintro ⟨⟩ h
   cases h
  ·rintro u91 hl92 hr93 ⟨s68, s69⟩ rr96 h ho94
   refine ht_joinS h (fun ((s105, s106) : (List T_Field) × Int) => [(0, .fl .shr 1 (List.map (Value.int .u8) b)), (4, .fl (.own 44) 2 (List.flatten (List.map T_Field.enc s105))), (5, .v (.int .i64 s106))]) ?_ ?_
   ·rintro ⟨s105, s106⟩ h
    exact pt_next _ (Option.some.inj h).symm rfl
   ·intro u107 h hl108 hr109
    refine ht_block ?_
    refine ht_seq ?_
    obtain ⟨v1, hv1, h⟩ := bind_some h
    refine zg hn [_,_,_,(10,.fl .shr 1 (List.map (Value.int .u8) b)),(11,vi s69),(12,vi v1),(6,vi v1)] [0,1,2] [0,1,2,6] [zq [0] 3 10,zq [2] 4 11,zq [3,4] 5 12,zq [5] 6 6] [(_,_),(_,_),(_,_),(_,_)] rfl ⟨z1 rfl,z1 rfl,zp rfl (op_call _ _ 35 _ _ rfl call35 rfl (ok_wherryref11_end b s69 _ hv1) rfl rfl),z2 rfl,zz⟩ ?_
    refine pt_then (ht_seq ?_)
    refine zgg hn [_,_,_,_,(13,vi v1),(14,vb (decide (v1 < 0)))] [0,1,2,3] [0,1,2,3,5] [zq [3] 4 13,zq [4] 5 14] [(_,_),(_,_),(_,_),(_,_),(_,_)] rfl ⟨z1 rfl,z4 rfl rfl,zz⟩ ?_
    refine ht_cond _ rfl (fun hb110 => ?_) (fun hb110 => ?_)
    ·have h := cond_t hb110 h
     refine zgg hn [_,_,_,_,_,(15,.fl (.own 44) 2 (List.flatten (List.map T_Field.enc s68))),(16,vi s69),(2,.fl (.own 44) 2 (List.flatten (List.map T_Field.enc s68))),(3,vi s69)] [0,1,2,3,4] [7,8] [⟨[],[1],[5],[(.slot 15)]⟩,zq [2] 6 16,⟨[],[5],[7],[(.slot 2)]⟩,zq [6] 8 3] [(_,_),(_,_)] rfl ⟨zp rfl (op_move_take _ _ _ _ rfl),z1 rfl,zp rfl (op_assign_take _ _ _ _ rfl),z2 rfl,zz⟩ ?_
     refine ht_ret ?_
     refine pt_r_then ?_
     refine pt_r_in ?_
     refine pt_r_then ?_
     refine pt_r_in ?_
     have h := hr109 _ (Option.some.inj h).symm
     have h := hr93 _ (ho94 _ (Option.some.inj h).symm).symm
     obtain rfl := Option.some.inj h
     exact pt_ret hio rfl (.tmp _ _ (.tmp _ _ .nil)) rfl rfl
    ·have h := cond_f hb110 h
     refine ht_skip ?_
     refine pt_then (ht_seq ?_)
     obtain ⟨v3, hv3, h⟩ := bind_some h
     refine zg hn [_,_,_,_,_,(17,.fl .shr 1 (List.map (Value.int .u8) b)),(18,vi s69),(19,vi v1),(20,.fl .shr 1 (List.map (Value.int .u8) v3)),(7,.fl .shr 1 (List.map (Value.int .u8) v3))] [0,1,2,3,4] [0,1,2,3,9] [zq [0] 5 17,zq [2] 6 18,zq [3] 7 19,zq [5,6,7] 8 20,zq [8] 9 7] [(_,_),(_,_),(_,_),(_,_),(_,_)] rfl ⟨z1 rfl,z1 rfl,z1 rfl,zp rfl (op_sl _ _ _ s69 v1 _ underlying22 sz5 rfl rfl ⟨_, rfl⟩ ⟨_, rfl⟩ hv3),z2 rfl,zz⟩ ?_
     refine pt_then (ht_seq ?_)
     refine zgg hn [_,_,_,_,_,(21,.fl .shr 1 (List.map (Value.int .u8) v3)),(22,vi (v3.length : Int)),(23,vb ((v3.length : Int) == 0))] [0,1,2,3,4] [0,1,2,3,4,7] [zq [4] 5 21,zq [5] 6 22,zq [6] 7 23] [(_,_),(_,_),(_,_),(_,_),(_,_),(_,_)] rfl ⟨z1 rfl,zp rfl (op_len_fl _ _ _ underlying22 rfl (by decide) (map_len _)),z4 rfl rfl,zz⟩ ?_
     refine ht_cond _ rfl (fun hb111 => ?_) (fun hb111 => ?_)
     ·have h := cond_t hb111 h
      refine ht_seq ?_
      obtain ⟨v5, hv5, h⟩ := bind_some h
      refine zg hn [_,_,_,_,_,_,(24,.fl (.own 44) 2 (List.flatten (List.map T_Field.enc s68))),(25,vi v1),(26,vi v5),(2,.fl (.own 44) 2 (List.flatten (List.map T_Field.enc s68))),(3,vi v5)] [0,1,2,3,4,5] [9,10] [⟨[],[1],[6],[(.slot 24)]⟩,zq [3] 7 25,zq [7] 8 26,⟨[],[6],[9],[(.slot 2)]⟩,zq [8] 10 3] [(_,_),(_,_)] rfl ⟨zp rfl (op_move_take _ _ _ _ rfl),z1 rfl,zp rfl (oB rfl (ibind (f := Value.int .i64) (Option.some.inj hv5))),zp rfl (op_assign_take _ _ _ _ rfl),z2 rfl,zz⟩ ?_
      refine pt_then (ht_ret ?_)
      refine pt_r_then ?_
      refine pt_r_in ?_
      refine pt_r_then ?_
      refine pt_r_in ?_
      have h := hr109 _ (Option.some.inj h).symm
      have h := hr93 _ (ho94 _ (Option.some.inj h).symm).symm
      obtain rfl := Option.some.inj h
      exact pt_ret hio rfl (.tmp _ _ (.tmp _ _ .nil)) rfl rfl
     ·have h := cond_f hb111 h
      refine ht_skip ?_
      refine pt_then (ht_seq ?_)
      refine ht_seq ?_
      refine ht_joinS h (fun (s112 : Bool) => [(0, .fl .shr 1 (List.map (Value.int .u8) b)), (4, .fl (.own 44) 2 (List.flatten (List.map T_Field.enc s68))), (5, .v (.int .i64 s69)), (6, .v (.int .i64 v1)), (7, .fl .shr 1 (List.map (Value.int .u8) v3)), (41, .v (.bool s112))]) ?_ ?_
      ·rintro s112 h
       refine pt_then ?_
       refine ht_cond _ rfl (fun hb116 => ?_) (fun hb116 => ?_)
       ·have h := cond_t hb116 h
        refine ht_seq ?_
        obtain ⟨v15, hv15, h⟩ := bind_some h
        obtain ⟨v47, hv47, h⟩ := bind_some h
        refine zg hn [_,_,_,_,_,_,(42,.same (.slot 4)),(43,.same (.slot 4)),(44,vi (s68.length : Int)),(45,vi v15),(46,.eref (.slot 4) (v47 * 2)),(8,.eref (.slot 4) (v47 * 2))] [0,1,2,3,4,5] [0,1,3,4,11] [zq [1] 6 42,zq [1] 7 43,zq [7,1] 8 44,zq [8] 9 45,zq [6,1,9] 10 46,zq [10,1] 11 8] [(_,_),(_,_),(_,_),(_,_),(_,_)] rfl ⟨z1 rfl,z1 rfl,zp rfl (op_len_fl _ _ _ underlying24 rfl (by decide) (flat_len T_Field.len _)),zp rfl (oB rfl (ibind (f := Value.int .i64) (Option.some.inj hv15))),zp rfl (op_ix _ _ _ _ _ _ _ _ underlying24 sz44 (by decide) rfl rfl rfl (ix_ok hv47).1 (flat_lt T_Field.len (ix_ok hv47).2) rfl),z2 rfl,zz⟩ ?_
        refine pt_then (ht_seq ?_)
        obtain ⟨v48, hv48, h⟩ := bind_some h
        obtain ⟨v49, hv49, h⟩ := bind_some h
        obtain ⟨v50, hv50, h⟩ := bind_some h
        obtain ⟨v51, hv51, h⟩ := bind_some h
        obtain ⟨v52, hv52, h⟩ := bind_some h
        refine ht_anyR (by kernel_rfl) hn (El := (_ :: _ :: _ :: _ :: _ :: (47, .eref (.slot 4) (v47 * 2)) :: (48, .eref (.slot 4) (v47 * 2)) :: (49, .eref (.slot 4) (v47 * 2)) :: (50, .eref (.slot 4) (v47 * 2 + 1)) :: (51, .v (.string v48.Body)) :: (52, .fl .shr 1 (List.map (Value.int .u8) v3)) :: (53, .v (.string v49)) :: (54, .v (.string v50)) :: (55, .eref (.slot 4) (v47 * 2)) :: (56, .eref (.slot 4) (v47 * 2 + 1)) :: (4, .fl (.own 44) 2 (List.flatten (List.map T_Field.enc v52))) :: [])) (init := [0, 1, 2, 3, 4]) (fin := [0, 15, 2]) (sps := [zq [4,1] 5 47, zq [4,1] 6 48, zq [6,1] 7 49, zq [7,1] 8 50, zq [8,1] 9 51, zq [3] 10 52, zq [10] 11 53, zq [9,11] 12 54, zq [5,1] 13 55, zq [13,1] 14 56, ⟨[14, 12], [1], [15], []⟩]) (es' := [(_,_),(4, .fl (.own 44) 2 (List.flatten (List.map T_Field.enc v52))), (_,_)]) (by kernel_rfl) rfl rfl ⟨z1 rfl,z1 rfl,zp rfl (op_nilCheck_e _ _ _ _ _ rfl rfl),zp rfl (op_fieldAddr_e _ _ _ _ _ _ _ underlying44 rfl sz9 rfl rfl rfl),zp rfl (op_load_e _ _ _ _ _ _ underlying9 rfl rfl rfl (flat_cell T_Field.len hv48 rfl)),z1 rfl,zp rfl ((Option.some.inj hv49) ▸ op_bytes_str _ _ _ v3 underlying22 underlying9 underlying5 rfl),zp rfl (oB rfl (cat_ok hv50)),zp rfl (op_nilCheck_e _ _ _ _ _ rfl rfl),zp rfl (op_fieldAddr_e _ _ _ _ _ _ _ underlying44 rfl sz9 rfl rfl rfl),zp rfl (op_store_e _ _ _ _ _ _ _ _ sz9 rfl rfl rfl (by decide) (flat_fit (q := 1) (s := 1) T_Field.len hv51 (by decide)) ((flat_setc (q := 1) (s := 1) (y := (T_Field.mk v51.Name v50)) T_Field.len hv51 rfl (by decide)).trans (congrArg (fun l => List.flatten (List.map T_Field.enc l)) (Option.some.inj hv52)))),zz⟩ ?_
        refine pt_then (ht_seq ?_)
        obtain ⟨v53, hv53, h⟩ := bind_some h
        refine zg hn [_,_,_,(57,vi v1),(58,vi v53),(5,vi v53)] [0,1,2] [0,1,5] [zq [2] 3 57,zq [3] 4 58,zq [4] 5 5] [(_,_),(_,_),(_,_)] rfl ⟨z1 rfl,zp rfl (oB rfl (ibind (f := Value.int .i64) (Option.some.inj hv53))),z2 rfl,zz⟩ ?_
        refine pt_then ?_
        refine ht_exit ?_
        refine pt_x_then ?_
        refine pt_x_in ?_
        exact hl108 _ (Option.some.inj h).symm
       ·have h := cond_f hb116 h
        refine ht_skip ?_
        refine pt_then (ht_seq ?_)
        obtain ⟨v16, hv16, h⟩ := bind_some h
        refine zg hn [_,_,_,_,_,_,(59,.fl .shr 1 (List.map (Value.int .u8) v3)),(60,vi v16),(9,vi v16)] [0,1,2,3,4,5] [0,1,2,3,4,8] [zq [4] 6 59,zq [6] 7 60,zq [7] 8 9] [(_,_),(_,_),(_,_),(_,_),(_,_),(_,_)] rfl ⟨z1 rfl,zp rfl (op_call _ _ 36 _ _ rfl call36 rfl (ok_wherryref11_colon v3 _ hv16) rfl rfl),z2 rfl,zz⟩ ?_
        refine pt_then (ht_seq ?_)
        refine zgg hn [_,_,_,_,_,_,(61,vi v16),(62,vb (decide (v16 < 0)))] [0,1,2,3,4,5] [0,1,2,3,4,5,7] [zq [5] 6 61,zq [6] 7 62] [(_,_),(_,_),(_,_),(_,_),(_,_),(_,_),(_,_)] rfl ⟨z1 rfl,z4 rfl rfl,zz⟩ ?_
        refine ht_cond _ rfl (fun hb117 => ?_) (fun hb117 => ?_)
        ·have h := cond_t hb117 h
         refine zgg hn [_,_,_,_,_,_,_,(63,.fl (.own 44) 2 (List.flatten (List.map T_Field.enc s68))),(64,vi s69),(2,.fl (.own 44) 2 (List.flatten (List.map T_Field.enc s68))),(3,vi s69)] [0,1,2,3,4,5,6] [9,10] [⟨[],[1],[7],[(.slot 63)]⟩,zq [2] 8 64,⟨[],[7],[9],[(.slot 2)]⟩,zq [8] 10 3] [(_,_),(_,_)] rfl ⟨zp rfl (op_move_take _ _ _ _ rfl),z1 rfl,zp rfl (op_assign_take _ _ _ _ rfl),z2 rfl,zz⟩ ?_
         refine ht_ret ?_
         refine pt_r_then ?_
         refine pt_r_in ?_
         refine pt_r_then ?_
         refine pt_r_in ?_
         have h := hr109 _ (Option.some.inj h).symm
         have h := hr93 _ (ho94 _ (Option.some.inj h).symm).symm
         obtain rfl := Option.some.inj h
         exact pt_ret hio rfl (.tmp _ _ (.tmp _ _ .nil)) rfl rfl
        ·have h := cond_f hb117 h
         refine ht_skip ?_
         refine pt_then (ht_seq ?_)
         obtain ⟨v18, hv18, h⟩ := bind_some h
         obtain ⟨v19, hv19, h⟩ := bind_some h
         obtain ⟨v20, hv20, h⟩ := bind_some h
         obtain ⟨v21, hv21, h⟩ := bind_some h
         obtain ⟨v22, hv22, h⟩ := bind_some h
         obtain ⟨v23, hv23, h⟩ := bind_some h
         refine ht_anyR (by kernel_rfl) hn (El := (_ :: _ :: _ :: _ :: _ :: _ :: _ :: (65, .fl (.own 44) 2 (List.flatten (List.map T_Field.enc s68))) :: (66, .fl .shr 1 (List.map (Value.int .u8) v3)) :: (67, .v (.int .i64 v16)) :: (68, .fl .shr 1 (List.map (Value.int .u8) v18)) :: (69, .v (.string v19)) :: (70, .fl .shr 1 (List.map (Value.int .u8) v3)) :: (71, .v (.int .i64 v16)) :: (72, .v (.int .i64 v20)) :: (73, .fl .shr 1 (List.map (Value.int .u8) v21)) :: (74, .v (.string v22)) :: (75, .agg [.v (.string v19), .v (.string v22)]) :: (76, .fl (.own 44) 2 (List.flatten (List.map T_Field.enc [(T_Field.mk v19 v22)]))) :: (77, .fl (.own 44) 2 (List.flatten (List.map T_Field.enc v23))) :: (65, .any) :: (4, .fl (.own 44) 2 (List.flatten (List.map T_Field.enc v23))) :: [])) (init := [0, 1, 2, 3, 4, 5, 6]) (fin := [0, 3, 21]) (sps := [⟨[], [1], [7], [(.slot 65)]⟩, zq [4] 8 66, zq [5] 9 67, zq [8,9] 10 68, zq [10] 11 69, zq [4] 12 70, zq [5] 13 71, zq [13] 14 72, zq [12,14] 15 73, zq [15] 16 74, zq [11,16] 17 75, zq [17] 18 76, ⟨[18], [7], [20, 19], [(.slot 77)]⟩, ⟨[], [19], [21], [(.slot 4)]⟩]) (es' := [(_,_),(_,_),(4, .fl (.own 44) 2 (List.flatten (List.map T_Field.enc v23)))]) (by kernel_rfl) rfl rfl ⟨zp rfl (op_move_take _ _ _ _ rfl),z1 rfl,z1 rfl,zp rfl (op_sl _ _ _ 0 v16 _ underlying22 sz5 rfl rfl rfl ⟨_, rfl⟩ hv18),zp rfl ((Option.some.inj hv19) ▸ op_bytes_str _ _ _ v18 underlying22 underlying9 underlying5 rfl),z1 rfl,z1 rfl,zp rfl (oB rfl (ibind (f := Value.int .i64) (Option.some.inj hv20))),zp rfl (op_sl _ _ _ v20 (v3.length : Int) _ underlying22 sz5 rfl rfl ⟨_, rfl⟩ rfl hv21),zp rfl ((Option.some.inj hv22) ▸ op_bytes_str _ _ _ v21 underlying22 underlying9 underlying5 rfl),zp rfl (op_build _ _ _ _ [1, 1] _ _ underlying44 zr44 (fs44 _ underlying44) (.copy _ (.copy _ Src.nil)) rfl rfl rfl),zp rfl (op_buildSlice _ _ 2 (.agg #[.string ByteArray.empty, .string ByteArray.empty]) (List.flatten (List.map T_Field.enc [(T_Field.mk v19 v22)])) [(0, .agg #[.string v19, .string v22])] underlying24 sz44 zr44 (fun _ V w o a hv hes => by have e0 := agg_v (ys := [.string v19, .string v22]) hv hes (x := .tmp 75) rfl; simp only [List.map_toArray, List.map_cons, List.map_nil, e0]; try rfl) (litfill (by simp [Instr.fill, Value.cells]; rfl) (by simp [List.range, List.range.loop, T_Field.enc] <;> rfl)) (by simp [Value.oneCell', T_Field.enc]) rfl (by decide) (by decide) (by decide)),zp rfl (op_app _ _ _ _ _ el24 rfl rfl (flat_len T_Field.len _) (flat_len T_Field.len _) hv23 (flat_app (app_eq hv23))),zp rfl (op_assign_take _ _ _ _ rfl),zz⟩ ?_
         refine pt_then ?_
         obtain ⟨v24, hv24, h⟩ := bind_some h
         refine zg hn [_,_,_,(78,vi v1),(79,vi v24),(5,vi v24)] [0,1,2] [0,2,5] [zq [1] 3 78,zq [3] 4 79,zq [4] 5 5] [(_,_),(_,_),(_,_)] rfl ⟨z1 rfl,zp rfl (oB rfl (ibind (f := Value.int .i64) (Option.some.inj hv24))),z2 rfl,zz⟩ ?_
         refine pt_inb ?_
         exact hl108 _ (Option.some.inj h).symm
      ·intro u113 h hl114 hr115
       refine cond_some h (fun hg9_3 h => ?_) (fun hg9_3 h => ?_)
       ·obtain ⟨v6, hv6, h⟩ := bind_some h
        obtain ⟨v7, hv7, h⟩ := bind_some h
        refine cond_some h (fun hg9_8 h => ?_) (fun hg9_8 h => ?_)
        ·refine zg hn (_::_::_::_::_::_::(27,.same (.slot 4))::(28,vi (s68.length : Int))::(29,vb (decide (0 < (s68.length : Int))))::(30,vb true)::(31,.fl .shr 1 (List.map (Value.int .u8) v3))::(32,.eref (.slot 31) (v6 * 1))::(33,.v (.int .u8 v7))::(34,vb (v7 == 32))::(35,vb true)::(36,.v undef)::(37,.v undef)::(38,.v undef)::(39,.v undef)::(40,vb true)::(41,vb true)::[]) [0,1,2,3,4,5] [0,1,2,3,4,20] (zq [1] 6 27::zq [6,1] 7 28::zq [7] 8 29::zq [8] 9 30::zq [9,4] 10 31::zq [9,10] 11 32::zq [9,11,10] 12 33::zq [9,12] 13 34::zq [9,13] 14 35::zq [14] 15 36::zq [14] 16 37::zq [14] 17 38::zq [14] 18 39::zq [9,14] 19 40::zq [9,19] 20 41::[]) [(_,_),(_,_),(_,_),(_,_),(_,_),(_,_)] rfl ⟨z1 rfl,zp rfl (op_len_fl _ _ _ underlying24 rfl (by decide) (flat_len T_Field.len _)),z4 rfl rfl,z8 hg9_3 rfl,zr' rfl (oM rfl),zr' rfl (op_ix _ _ _ _ _ _ _ _ underlying22 sz5 (by decide) rfl rfl rfl (ix_ok hv6).1 (map_lt (ix_ok hv6).2) rfl),zr' rfl (op_load_e _ _ _ _ _ _ underlying5 rfl rfl rfl (map_get hv7)),zr' rfl (oB rfl rfl),zr' rfl (op_move _ _ _ _ (zb hg9_8) rfl),zf rfl,zf rfl,zf rfl,zf rfl,zr' rfl (op_pick _ _ true _ rfl rfl),z3 true rfl,zz⟩ ?_
         exact hl114 _ (Option.some.inj h).symm
        ·obtain ⟨v8, hv8, h⟩ := bind_some h
         obtain ⟨v9, hv9, h⟩ := bind_some h
         refine zg hn (_::_::_::_::_::_::(27,.same (.slot 4))::(28,vi (s68.length : Int))::(29,vb (decide (0 < (s68.length : Int))))::(30,vb true)::(31,.fl .shr 1 (List.map (Value.int .u8) v3))::(32,.eref (.slot 31) (v6 * 1))::(33,.v (.int .u8 v7))::(34,vb (v7 == 32))::(35,vb false)::(36,.fl .shr 1 (List.map (Value.int .u8) v3))::(37,.eref (.slot 36) (v8 * 1))::(38,.v (.int .u8 v9))::(39,vb (v9 == 9))::(40,vb (v9 == 9))::(41,vb (v9 == 9))::[]) [0,1,2,3,4,5] [0,1,2,3,4,20] (zq [1] 6 27::zq [6,1] 7 28::zq [7] 8 29::zq [8] 9 30::zq [9,4] 10 31::zq [9,10] 11 32::zq [9,11,10] 12 33::zq [9,12] 13 34::zq [9,13] 14 35::zq [14,4] 15 36::zq [14,15] 16 37::zq [14,16,15] 17 38::zq [14,17] 18 39::zq [9,14,18] 19 40::zq [9,19] 20 41::[]) [(_,_),(_,_),(_,_),(_,_),(_,_),(_,_)] rfl ⟨z1 rfl,zp rfl (op_len_fl _ _ _ underlying24 rfl (by decide) (flat_len T_Field.len _)),z4 rfl rfl,z8 hg9_3 rfl,zr' rfl (oM rfl),zr' rfl (op_ix _ _ _ _ _ _ _ _ underlying22 sz5 (by decide) rfl rfl rfl (ix_ok hv6).1 (map_lt (ix_ok hv6).2) rfl),zr' rfl (op_load_e _ _ _ _ _ _ underlying5 rfl rfl rfl (map_get hv7)),zr' rfl (oB rfl rfl),zr' rfl (op_move _ _ _ _ (zb hg9_8) rfl),zr' rfl (oM rfl),zr' rfl (op_ix _ _ _ _ _ _ _ _ underlying22 sz5 (by decide) rfl rfl rfl (ix_ok hv8).1 (map_lt (ix_ok hv8).2) rfl),zr' rfl (op_load_e _ _ _ _ _ _ underlying5 rfl rfl rfl (map_get hv9)),zr' rfl (oB rfl rfl),zr' rfl (op_pick _ _ false _ rfl rfl),z3 true rfl,zz⟩ ?_
         exact hl114 _ (Option.some.inj h).symm
       ·refine zg hn (_::_::_::_::_::_::(27,.same (.slot 4))::(28,vi (s68.length : Int))::(29,vb (decide (0 < (s68.length : Int))))::(30,vb false)::(31,.v undef)::(32,.v undef)::(33,.v undef)::(34,.v undef)::(35,.v undef)::(36,.v undef)::(37,.v undef)::(38,.v undef)::(39,.v undef)::(40,.v undef)::(41,vb false)::[]) [0,1,2,3,4,5] [0,1,2,3,4,20] (zq [1] 6 27::zq [6,1] 7 28::zq [7] 8 29::zq [8] 9 30::zq [9] 10 31::zq [9] 11 32::zq [9] 12 33::zq [9] 13 34::zq [9] 14 35::zq [14] 15 36::zq [14] 16 37::zq [14] 17 38::zq [14] 18 39::zq [9] 19 40::zq [9] 20 41::[]) [(_,_),(_,_),(_,_),(_,_),(_,_),(_,_)] rfl ⟨z1 rfl,zp rfl (op_len_fl _ _ _ underlying24 rfl (by decide) (flat_len T_Field.len _)),z4 rfl rfl,z8 hg9_3 rfl,zt rfl,zt rfl,zt rfl,zt rfl,zt rfl,zu' rfl,zu' rfl,zu' rfl,zu' rfl,zt rfl,z3 false rfl,zz⟩ ?_
        exact hl114 _ (Option.some.inj h).symm
theorem ok_wherryref11_Fold (s : ByteArray) (r : ByteArray) (h : Sh.wherryref11_Fold s = some r) : FnOK Tryd.prog 37 [.v (.string s)] (.v (.string r)) := by
  unfold Sh.wherryref11_Fold at h
  refine fn_ok func37 rfl (zl rfl) rfl rfl fun g0 hn hio => ?_
  refine zgg hn [_,(2,vs z0)] [0] [0] [zq [] 1 2] [(_,_)] rfl ⟨z2 rfl,zz⟩ ?_
  refine zgg hn [_,(3,.v (.slice none 0 0))] [0] [0,1] [zq [] 1 3] [(_,_),(_,_)] rfl ⟨z2 rfl,zz⟩ ?_
  refine ht_seq ?_
  refine zgg hn [_,_,(4,vi 0)] [0,1] [0,1,2] [zq [] 2 4] [(_,_),(_,_),(_,_)] rfl ⟨z2 rfl,zz⟩ ?_
  refine ht_sub (fs := [(0, .v (.string s)), (3, .fl (.own 5) 1 (List.map (Value.int .u8) [])), (4, .v (.int .i64 0))]) (.same _ (.sub _ (sub_nil 5 1) rfl (.same _ .nil))) ?_
  refine ht_loopS h (fun ((s37, s38) : (List Int) × Int) => [(0, .v (.string s)), (3, .fl (.own 5) 1 (List.map (Value.int .u8) s37)), (4, .v (.int .i64 s38))]) (fun (s54 : (List Int)) => [(3, .fl (.own 5) 1 (List.map (Value.int .u8) s54))]) ?_ ?_
  ·rintro s54 h
   refine pt_then (ht_seq ?_)
   obtain ⟨v76, hv76, h⟩ := bind_some h
   refine zg hn [_,(27,.fl (.own 5) 1 (List.map (Value.int .u8) s54)),(28,vs v76),(2,vs v76)] [0] [3] [⟨[],[0],[1],[(.slot 27)]⟩,zq [1] 2 28,zq [2] 3 2] [(_,_)] rfl ⟨zp rfl (op_move_take _ _ _ _ rfl),zp rfl ((Option.some.inj hv76) ▸ op_bytes_str _ _ _ s54 underlying22 underlying9 underlying5 rfl),z2 rfl,zz⟩ ?_
   refine pt_then (ht_ret ?_)
   obtain rfl := Option.some.inj h
   exact pt_ret hio rfl (.tmp _ _ .nil) rfl rfl
  ·rintro u55 hl56 hr57 ⟨s37, s38⟩ rr60 h ho58
   refine ht_seq ?_
   refine zgg hn [_,_,_,(6,vi s38),(7,vs s),(8,vi (s.size : Int)),(9,vb (decide (s38 < (s.size : Int))))] [0,1,2] [0,1,2,6] [zq [2] 3 6,zq [0] 4 7,zq [4] 5 8,zq [3,5] 6 9] [(_,_),(_,_),(_,_),(_,_)] rfl ⟨z1 rfl,z1 rfl,zp rfl (oN underlying9 rfl),z4 rfl rfl,zz⟩ ?_
   refine ht_cond _ rfl (fun hb61 => ?_) (fun hb61 => ?_)
   ·have h := cond_t hb61 h
    refine ht_skip ?_
    refine pt_then (ht_seq ?_)
    refine ht_block ?_
    refine ht_seq ?_
    obtain ⟨v2, hv2, h⟩ := bind_some h
    refine zg hn [_,_,_,_,(12,vs s),(13,vi s38),(14,.v (.int .u8 v2)),(5,.v (.int .u8 v2))] [0,1,2,3] [0,1,2,7] [zq [0] 4 12,zq [2] 5 13,zq [4,5] 6 14,zq [6] 7 5] [(_,_),(_,_),(_,_),(_,_)] rfl ⟨z1 rfl,z1 rfl,zp rfl (op_chr _ _ _ s38 _ underlying9 rfl rfl hv2),z2 rfl,zz⟩ ?_
    refine pt_then (ht_seq ?_)
    refine ht_joinS h (fun (s67 : Int) => [(0, .v (.string s)), (3, .fl (.own 5) 1 (List.map (Value.int .u8) s37)), (4, .v (.int .i64 s38)), (5, .v (.int .u8 s67))]) ?_ ?_
    ·rintro s67 h
     refine pt_then ?_
     obtain ⟨v18, hv18, h⟩ := bind_some h
     refine zg hn [_,_,_,_,(23,.fl (.own 5) 1 (List.map (Value.int .u8) s37)),(24,.v (.int .u8 s67)),(25,.fl (.own 5) 1 (List.map (Value.int .u8) [s67])),(26,.fl (.own 5) 1 (List.map (Value.int .u8) v18)),(23,.any),(3,.fl (.own 5) 1 (List.map (Value.int .u8) v18))] [0,1,2,3] [0,2,9] [⟨[],[1],[4],[(.slot 23)]⟩,zq [3] 5 24,zq [5] 6 25,⟨[6],[4],[8,7],[(.slot 26)]⟩,⟨[],[7],[9],[(.slot 3)]⟩] [(_,_),(_,_),(_,_)] rfl ⟨zp rfl (op_move_take _ _ _ _ rfl),z1 rfl,zp rfl (op_buildSlice _ _ 1 (.int .u8 0) (List.map (Value.int .u8) [s67]) [(0, .int .u8 s67)] underlying22 sz5 zr5 (fun _ V w o a hv hes => by have e0 := rd_v hv hes (x := .tmp 24) rfl; simp only [List.map_toArray, List.map_cons, List.map_nil, e0]; try rfl) (litfill (by simp [Instr.fill, Value.cells]; rfl) (by simp [List.range, List.range.loop] <;> rfl)) (by simp [Value.oneCell']) rfl (by decide) (by decide) (by decide)),zp rfl (op_app _ _ _ _ _ el22 rfl rfl (map_len _) (map_len _) hv18 ((List.map_append).symm.trans (congrArg (List.map _) (app_eq hv18)))),zp rfl (op_assign_take _ _ _ _ rfl),zz⟩ ?_
     refine pt_inb ?_
     refine pt_then ?_
     obtain ⟨v19, hv19, h⟩ := bind_some h
     refine zg hn [_,_,_,(10,vi s38),(11,vi v19),(4,vi v19)] [0,1,2] [0,2,5] [zq [1] 3 10,zq [3] 4 11,⟨[4],[1],[5],[(.slot 4)]⟩] [(_,_),(_,_),(_,_)] rfl ⟨z1 rfl,zp rfl (oB rfl (ibind (f := Value.int .i64) (Option.some.inj hv19))),zp rfl (LOp.drop [_] (op_assign _ _ _ _ rfl rfl)),zz⟩ ?_
     exact pt_next _ (Option.some.inj h).symm rfl
    ·intro u68 h hl69 hr70
     refine ht_seq ?_
     refine ht_joinS h (fun (s71 : Bool) => [(0, .v (.string s)), (3, .fl (.own 5) 1 (List.map (Value.int .u8) s37)), (4, .v (.int .i64 s38)), (5, .v (.int .u8 v2)), (20, .v (.bool s71))]) ?_ ?_
     ·rintro s71 h
      refine pt_then ?_
      refine ht_cond _ rfl (fun hb75 => ?_) (fun hb75 => ?_)
      ·have h := cond_t hb75 h
       obtain ⟨v8, hv8, h⟩ := bind_some h
       refine zg hn [_,_,_,_,_,(21,.v (.int .u8 v2)),(22,.v (.int .u8 v8)),(5,.v (.int .u8 v8))] [0,1,2,3,4] [0,1,2,7] [zq [3] 5 21,zq [5] 6 22,⟨[6],[3],[7],[(.slot 5)]⟩] [(_,_),(_,_),(_,_),(_,_)] rfl ⟨z1 rfl,zp rfl (oB rfl (ibind (f := Value.int .u8) (Option.some.inj hv8))),zp rfl (LOp.drop [_] (op_assign _ _ _ _ rfl rfl)),zz⟩ ?_
       exact hl69 _ (Option.some.inj h).symm
      ·have h := cond_f hb75 h
       refine ht_skip ?_
       refine pt_pick [0, 1, 2, 3] (by kernel_rfl) (es' := [(_,_),(_,_),(_,_),(_,_)]) rfl ?_
       exact hl69 _ (Option.some.inj h).symm
     ·intro u72 h hl73 hr74
      refine cond_some h (fun hg6_2 h => ?_) (fun hg6_2 h => ?_)
      ·refine zg hn [_,_,_,_,(15,.v (.int .u8 v2)),(16,vb (decide (65 ≤ v2))),(17,vb true),(18,.v (.int .u8 v2)),(19,vb (decide (v2 ≤ 90))),(20,vb (decide (v2 ≤ 90)))] [0,1,2,3] [0,1,2,3,9] [zq [3] 4 15,zq [4] 5 16,zq [5] 6 17,zq [6,3] 7 18,zq [6,7] 8 19,zq [6,8] 9 20] [(_,_),(_,_),(_,_),(_,_),(_,_)] rfl ⟨z1 rfl,z4 rfl rfl,z8 hg6_2 rfl,zr' rfl (oM rfl),zr' rfl (oB rfl rfl),z3 true rfl,zz⟩ ?_
       exact hl73 _ (Option.some.inj h).symm
      ·refine zg hn [_,_,_,_,(15,.v (.int .u8 v2)),(16,vb (decide (65 ≤ v2))),(17,vb false),(18,.v undef),(19,.v undef),(20,vb false)] [0,1,2,3] [0,1,2,3,9] [zq [3] 4 15,zq [4] 5 16,zq [5] 6 17,zq [6] 7 18,zq [6] 8 19,zq [6] 9 20] [(_,_),(_,_),(_,_),(_,_),(_,_)] rfl ⟨z1 rfl,z4 rfl rfl,z8 hg6_2 rfl,zt rfl,zt rfl,z3 false rfl,zz⟩ ?_
       exact hl73 _ (Option.some.inj h).symm
   ·have h := cond_f hb61 h
    refine ht_exit ?_
    refine pt_x_then ?_
    refine pt_x_then ?_
    refine pt_x_in ?_
    refine pt_pick [1] (by kernel_rfl) (es' := [(_,_)]) rfl ?_
    exact hl56 _ (ho58 _ (Option.some.inj h).symm).symm
theorem ok_wherryref11_Hops (b : (List Int)) (r : Int) (h : Sh.wherryref11_Hops b = some r) : FnOK Tryd.prog 21 [.fl .shr 1 (List.map (Value.int .u8) b)] (.v (.int .i64 r)) := by
  unfold Sh.wherryref11_Hops at h
  refine fn_ok func21 rfl (zl rfl) rfl rfl fun g0 hn hio => ?_
  refine zgg hn [_,(2,vi 0)] [0] [0] [zq [] 1 2] [(_,_)] rfl ⟨z2 rfl,zz⟩ ?_
  refine ht_seq ?_
  obtain ⟨v1, hv1, h⟩ := bind_some h
  refine zg hn [_,(8,.fl .shr 1 (List.map (Value.int .u8) b)),(9,.tup [.fl (.own 44) 2 (List.flatten (List.map T_Field.enc v1.1)),vi v1.2]),(7,.tup [.fl (.own 44) 2 (List.flatten (List.map T_Field.enc v1.1)),vi v1.2]),(10,.fl (.own 44) 2 (List.flatten (List.map T_Field.enc v1.1))),(7,.tup [.any,vi v1.2]),(11,vi v1.2),(3,.fl (.own 44) 2 (List.flatten (List.map T_Field.enc v1.1))),(4,vi v1.2)] [0] [7] [zq [0] 1 8,zq [1] 2 9,⟨[],[2],[3],[(.slot 7)]⟩,⟨[],[3],[5,4],[(.slot 10)]⟩,zq [5] 6 11,⟨[],[4],[7],[(.slot 3)]⟩,zq [6] 8 4] [(_,_)] rfl ⟨z1 rfl,zp rfl (op_call _ _ 19 _ _ rfl call19 rfl (ok_wherryref11_Scan b _ hv1) rfl rfl),zp rfl (op_move_take _ _ _ _ rfl),zp rfl (op_extract_take _ _ _ _ _ rfl (zl rfl) rfl rfl (by decide) rfl),zp rfl (oE rfl),zp rfl (op_assign_take _ _ _ _ rfl),z2 rfl,zz⟩ ?_
  refine pt_then ?_
  refine zgg hn [_,(5,vi 0)] [0] [0,1] [zq [] 1 5] [(_,_),(_,_)] rfl ⟨z2 rfl,zz⟩ ?_
  refine ht_seq ?_
  refine zgg hn [_,_,(6,vi 0)] [0,1] [0,1,2] [zq [] 2 6] [(_,_),(_,_),(_,_)] rfl ⟨z2 rfl,zz⟩ ?_
  refine ht_loopS h (fun ((s23, s24) : Int × Int) => [(3, .fl (.own 44) 2 (List.flatten (List.map T_Field.enc v1.1))), (5, .v (.int .i64 s23)), (6, .v (.int .i64 s24))]) (fun (s32 : Int) => [(5, .v (.int .i64 s32))]) ?_ ?_
  ·rintro s32 h
   refine pt_then ?_
   refine zgg hn [_,(27,vi s32),(2,vi s32)] [0] [2] [zq [0] 1 27,zq [1] 2 2] [(_,_)] rfl ⟨z1 rfl,z2 rfl,zz⟩ ?_
   refine ht_ret ?_
   obtain rfl := Option.some.inj h
   exact pt_ret hio rfl (.tmp _ _ .nil) rfl rfl
  ·rintro u33 hl34 hr35 ⟨s23, s24⟩ rr38 h ho36
   refine ht_seq ?_
   refine zgg hn [_,_,_,(12,vi s24),(13,.same (.slot 3)),(14,vi (v1.1.length : Int)),(15,vb (decide (s24 < (v1.1.length : Int))))] [0,1,2] [0,1,2,6] [zq [2] 3 12,zq [0] 4 13,zq [4,0] 5 14,zq [3,5] 6 15] [(_,_),(_,_),(_,_),(_,_)] rfl ⟨z1 rfl,z1 rfl,zp rfl (op_len_fl _ _ _ underlying24 rfl (by decide) (flat_len T_Field.len _)),z4 rfl rfl,zz⟩ ?_
   refine ht_cond _ rfl (fun hb39 => ?_) (fun hb39 => ?_)
   ·have h := cond_t hb39 h
    refine ht_skip ?_
    refine pt_then (ht_seq ?_)
    refine ht_joinS h (fun (s41 : Int) => [(3, .fl (.own 44) 2 (List.flatten (List.map T_Field.enc v1.1))), (6, .v (.int .i64 s24)), (5, .v (.int .i64 s41))]) ?_ ?_
    ·rintro s41 h
     refine pt_then ?_
     obtain ⟨v13, hv13, h⟩ := bind_some h
     refine zg hn [_,_,_,(16,vi s24),(17,vi v13),(6,vi v13)] [0,1,2] [0,2,5] [zq [1] 3 16,zq [3] 4 17,⟨[4],[1],[5],[(.slot 6)]⟩] [(_,_),(_,_),(_,_)] rfl ⟨z1 rfl,zp rfl (oB rfl (ibind (f := Value.int .i64) (Option.some.inj hv13))),zp rfl (LOp.drop [_] (op_assign _ _ _ _ rfl rfl)),zz⟩ ?_
     exact pt_next _ (Option.some.inj h).symm rfl
    ·intro u42 h hl43 hr44
     refine ht_block ?_
     refine ht_seq ?_
     obtain ⟨v3, hv3, h⟩ := bind_some h
     obtain ⟨v4, hv4, h⟩ := bind_some h
     obtain ⟨v5, hv5, h⟩ := bind_some h
     refine zg hn [_,_,_,_,(18,.same (.slot 3)),(19,vi s24),(20,.eref (.slot 3) (v3 * 2)),(21,.eref (.slot 3) (v3 * 2 + 0)),(22,vs v4.Name),(23,vs v5),(24,vb (v5.toList == (⟨#[114,101,99,101,105,118,101,100]⟩ : ByteArray).toList))] [0,1,2,3] [0,1,2,10] [zq [0] 4 18,zq [2] 5 19,zq [4,0,5] 6 20,zq [6,0] 7 21,zq [7,0] 8 22,zq [8] 9 23,zq [9] 10 24] [(_,_),(_,_),(_,_),(_,_)] rfl ⟨z1 rfl,z1 rfl,zp rfl (op_ix _ _ _ _ _ _ _ _ underlying24 sz44 (by decide) rfl rfl rfl (ix_ok hv3).1 (flat_lt T_Field.len (ix_ok hv3).2) rfl),zp rfl (op_fieldAddr_e _ _ _ _ _ _ _ underlying44 rfl sz9 rfl rfl rfl),zp rfl (op_load_e _ _ _ _ _ _ underlying9 rfl rfl rfl (flat_cell T_Field.len hv4 rfl)),zp rfl (op_call _ _ 37 _ _ rfl call37 rfl (ok_wherryref11_Fold v4.Name _ hv5) rfl rfl),z4 rfl rfl,zz⟩ ?_
     refine pt_then ?_
     refine ht_cond _ rfl (fun hb45 => ?_) (fun hb45 => ?_)
     ·have h := cond_t hb45 h
      obtain ⟨v7, hv7, h⟩ := bind_some h
      refine zg hn [_,_,_,_,(25,vi s23),(26,vi v7),(5,vi v7)] [0,1,2,3] [0,2,6] [zq [1] 4 25,zq [4] 5 26,⟨[5],[1],[6],[(.slot 5)]⟩] [(_,_),(_,_),(_,_)] rfl ⟨z1 rfl,zp rfl (oB rfl (ibind (f := Value.int .i64) (Option.some.inj hv7))),zp rfl (LOp.drop [_] (op_assign _ _ _ _ rfl rfl)),zz⟩ ?_
      refine pt_inb ?_
      exact hl43 _ (Option.some.inj h).symm
     ·have h := cond_f hb45 h
      refine ht_skip ?_
      refine pt_inb ?_
      refine pt_pick [0, 2, 1] (by kernel_rfl) (es' := [(_,_),(_,_),(_,_)]) rfl ?_
      exact hl43 _ (Option.some.inj h).symm
   ·have h := cond_f hb39 h
    refine ht_exit ?_
    refine pt_x_then ?_
    refine pt_x_then ?_
    refine pt_x_in ?_
    refine pt_pick [1] (by kernel_rfl) (es' := [(_,_)]) rfl ?_
    exact hl34 _ (ho36 _ (Option.some.inj h).symm).symm
end Go.Proofs.YtabnbhknefibaaaDoor
