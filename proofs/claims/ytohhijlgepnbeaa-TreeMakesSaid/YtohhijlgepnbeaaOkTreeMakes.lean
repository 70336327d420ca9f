/-
  The model's runs are what is told in Lean.
-/
import Derived.Test.YtohhijlgepnbeaaProg
import Derived.KernelRfl
import Derived.Test.YtohhijlgepnbeaaShelf
import Derived.Test.YtohhijlgepnbeaaB4
import Derived.Test.YtohhijlgepnbeaaB5
import Derived.Test.YtohhijlgepnbeaaB8
import Derived.Test.YtohhijlgepnbeaaSrt
import Derived.Test.YtohhijlgepnbeaaOkc1
set_option linter.unusedVariables false
set_option linter.unusedSimpArgs false
set_option maxHeartbeats 1000000
namespace Go.Proofs.Ytohhijlgepnbeaa
open Go.Abs Go.Abs.Sh Try

theorem ok_wherrylaw03_TreeMakes (w : (List Int)) (limit : Int) (i : Int) (k : Int) (r : Bool) (h : Sh.wherrylaw03_TreeMakes w limit i k = some r) : FnOK Try.prog 4 [.fl .shr 1 (List.map (Value.int .i64) w), .v (.int .i64 limit), .v (.int .i64 i), .v (.int .i64 k)] (.v (.bool r)) := by
  unfold Sh.wherrylaw03_TreeMakes at h
  refine fn_ok func4 rfl (zl rfl) rfl rfl fun g0 hn hio => ?_
  refine zgg hn [_,_,_,_,(8,vb false)] [0,1,2,3] [0,1,2,3] [zq [] 4 8] [(_,_),(_,_),(_,_),(_,_)] rfl ⟨z2 rfl,zz⟩ ?_
  refine ht_seq ?_
  refine ht_seq ?_
  refine ht_joinS h (fun (s1 : Bool) => [(0, .fl .shr 1 (List.map (Value.int .i64) w)), (1, .v (.int .i64 limit)), (2, .v (.int .i64 i)), (3, .v (.int .i64 k)), (23, .v (.bool s1))]) ?_ ?_
  ·rintro s1 h
   refine pt_then ?_
   refine ht_cond _ rfl (fun hb5 => ?_) (fun hb5 => ?_)
   ·have h := cond_t hb5 h
    refine zgg hn [_,_,_,_,_,(8,vb true)] [0,1,2,3,4] [5] [zq [] 5 8] [(_,_)] rfl ⟨z2 rfl,zz⟩ ?_
    refine ht_ret ?_
    refine pt_r_then ?_
    obtain rfl := Option.some.inj h
    exact pt_ret hio rfl (.tmp _ _ .nil) rfl rfl
   ·have h := cond_f hb5 h
    refine ht_skip ?_
    refine pt_then (ht_seq ?_)
    obtain ⟨v6, hv6, h⟩ := bind_some h
    refine zg hn [_,_,_,_,_,(25,.fl .shr 1 (List.map (Value.int .i64) w)),(26,vi limit),(27,.tup [.fl (.own 3) 1 (List.map (Value.int .i64) v6.1),vi v6.2]),(24,.tup [.fl (.own 3) 1 (List.map (Value.int .i64) v6.1),vi v6.2]),(28,.fl (.own 3) 1 (List.map (Value.int .i64) v6.1)),(24,.tup [.any,vi v6.2]),(29,vi v6.2),(9,.fl (.own 3) 1 (List.map (Value.int .i64) v6.1)),(10,vi v6.2)] [0,1,2,3,4] [0,1,2,3,12,13] [zq [0] 5 25,zq [1] 6 26,zq [5,6] 7 27,⟨[],[7],[8],[(.slot 24)]⟩,⟨[],[8],[10,9],[(.slot 28)]⟩,zq [10] 11 29,⟨[],[9],[12],[(.slot 9)]⟩,zq [11] 13 10] [(_,_),(_,_),(_,_),(_,_),(_,_),(_,_)] rfl ⟨z1 rfl,z1 rfl,zp rfl (op_call _ _ 12 _ _ rfl call12 rfl (ok_tree_Lengths w limit _ hv6) rfl rfl),zp rfl (op_move_take _ _ _ _ rfl),zp rfl (op_extract_take _ _ _ _ _ rfl (zl rfl) rfl rfl (by decide) rfl),zp rfl (oE rfl),zp rfl (op_assign_take _ _ _ _ rfl),z2 rfl,zz⟩ ?_
    refine pt_then (ht_seq ?_)
    refine zgg hn [_,_,_,_,_,_,(30,vi v6.2),(31,vb (v6.2 != 0))] [0,1,2,3,4,5] [0,1,2,3,4,5,7] [zq [5] 6 30,zq [6] 7 31] [(_,_),(_,_),(_,_),(_,_),(_,_),(_,_),(_,_)] rfl ⟨z1 rfl,z4 rfl rfl,zz⟩ ?_
    refine ht_cond _ rfl (fun hb7 => ?_) (fun hb7 => ?_)
    ·have h := cond_t hb7 h
     refine ht_seq ?_
     refine ht_joinS h (fun (s9 : Bool) => [(8, .v (.bool s9))]) ?_ ?_
     ·rintro s9 h
      refine pt_then (ht_ret ?_)
      refine pt_r_then ?_
      obtain rfl := Option.some.inj h
      exact pt_ret hio rfl (.tmp _ _ .nil) rfl rfl
     ·intro u10 h hl11 hr12
      refine cond_some h (fun hg5_2 h => ?_) (fun hg5_2 h => ?_)
      ·refine cond_some h (fun hg5_7 h => ?_) (fun hg5_7 h => ?_)
       ·obtain ⟨v8, hv8, h⟩ := bind_some h
        refine zg hn (_::_::_::_::_::_::_::(32,vi v6.2)::(33,vb (v6.2 == 1))::(34,vb true)::(35,.fl (.own 3) 1 (List.map (Value.int .i64) v6.1))::(36,vi (v6.1.length : Int))::(37,vb ((v6.1.length : Int) == 0))::(38,vb ((v6.1.length : Int) == 0))::(39,vb true)::(40,vb v8)::(41,vb v8)::(8,vb v8)::[]) [0,1,2,3,4,5,6] [17] [zq [5] 7 32,zq [7] 8 33,zq [8] 9 34,⟨[9],[4],[10],[(.slot 35)]⟩,zq [9,10] 11 36,zq [9,11] 12 37,zq [9,12] 13 38,zq [13] 14 39,zq [14] 15 40,zq [14,15] 16 41,zq [16] 17 8] [(_,_)] rfl ⟨z1 rfl,z4 rfl rfl,z8 hg5_2 rfl,zr' rfl (op_move_take _ _ _ _ rfl),zr' rfl (op_len_fl _ _ _ underlying22 rfl (by decide) (map_len _)),zr' rfl (oB rfl rfl),z3 true rfl,z8 hg5_7 rfl,zr' rfl (op_call _ _ 17 _ _ rfl call17 rfl (ok_wherrylaw03_wakes  _ hv8) rfl rfl),z3 true rfl,z2 rfl,zz⟩ ?_
        exact hl11 _ (Option.some.inj h).symm
       ·refine zg hn (_::_::_::_::_::_::_::(32,vi v6.2)::(33,vb (v6.2 == 1))::(34,vb true)::(35,.fl (.own 3) 1 (List.map (Value.int .i64) v6.1))::(36,vi (v6.1.length : Int))::(37,vb ((v6.1.length : Int) == 0))::(38,vb ((v6.1.length : Int) == 0))::(39,vb false)::(40,.v undef)::(41,vb false)::(8,vb false)::[]) [0,1,2,3,4,5,6] [17] [zq [5] 7 32,zq [7] 8 33,zq [8] 9 34,⟨[9],[4],[10],[(.slot 35)]⟩,zq [9,10] 11 36,zq [9,11] 12 37,zq [9,12] 13 38,zq [13] 14 39,zq [14] 15 40,zq [14] 16 41,zq [16] 17 8] [(_,_)] rfl ⟨z1 rfl,z4 rfl rfl,z8 hg5_2 rfl,zr' rfl (op_move_take _ _ _ _ rfl),zr' rfl (op_len_fl _ _ _ underlying22 rfl (by decide) (map_len _)),zr' rfl (oB rfl rfl),z3 true rfl,z8 hg5_7 rfl,zt rfl,z3 false rfl,z2 rfl,zz⟩ ?_
        exact hl11 _ (Option.some.inj h).symm
      ·refine zg hn (_::_::_::_::_::_::_::(32,vi v6.2)::(33,vb (v6.2 == 1))::(34,vb false)::(35,.v undef)::(36,.v undef)::(37,.v undef)::(38,vb false)::(39,vb false)::(40,.v undef)::(41,vb false)::(8,vb false)::[]) [0,1,2,3,4,5,6] [17] [zq [5] 7 32,zq [7] 8 33,zq [8] 9 34,zq [9] 10 35,zq [9] 11 36,zq [9] 12 37,zq [9] 13 38,zq [13] 14 39,zq [14] 15 40,zq [14] 16 41,zq [16] 17 8] [(_,_)] rfl ⟨z1 rfl,z4 rfl rfl,z8 hg5_2 rfl,zt rfl,zt rfl,zt rfl,z3 false rfl,z1 rfl,zt rfl,z3 false rfl,z2 rfl,zz⟩ ?_
       exact hl11 _ (Option.some.inj h).symm
    ·have h := cond_f hb7 h
     refine ht_skip ?_
     refine pt_then (ht_seq ?_)
     refine ht_seq ?_
     refine ht_joinS h (fun (s14 : Bool) => [(0, .fl .shr 1 (List.map (Value.int .i64) w)), (1, .v (.int .i64 limit)), (2, .v (.int .i64 i)), (3, .v (.int .i64 k)), (9, .fl (.own 3) 1 (List.map (Value.int .i64) v6.1)), (51, .v (.bool s14))]) ?_ ?_
     ·rintro s14 h
      refine pt_then ?_
      refine ht_cond _ rfl (fun hb18 => ?_) (fun hb18 => ?_)
      ·have h := cond_t hb18 h
       refine zgg hn [_,_,_,_,_,_,(8,vb false)] [0,1,2,3,4,5] [6] [zq [] 6 8] [(_,_)] rfl ⟨z2 rfl,zz⟩ ?_
       refine ht_ret ?_
       refine pt_r_then ?_
       obtain rfl := Option.some.inj h
       exact pt_ret hio rfl (.tmp _ _ .nil) rfl rfl
      ·have h := cond_f hb18 h
       refine ht_skip ?_
       refine pt_then (ht_seq ?_)
       refine zgg hn [_,_,_,_,_,_,(11,vi 0)] [0,1,2,3,4,5] [0,1,2,3,4,6] [zq [] 6 11] [(_,_),(_,_),(_,_),(_,_),(_,_),(_,_)] rfl ⟨z2 rfl,zz⟩ ?_
       refine ht_loopS h (fun (s40 : Int) => [(0, .fl .shr 1 (List.map (Value.int .i64) w)), (1, .v (.int .i64 limit)), (2, .v (.int .i64 i)), (3, .v (.int .i64 k)), (9, .fl (.own 3) 1 (List.map (Value.int .i64) v6.1)), (11, .v (.int .i64 s40))]) (fun (() : Unit) => [(0, .fl .shr 1 (List.map (Value.int .i64) w)), (2, .v (.int .i64 i)), (3, .v (.int .i64 k)), (9, .fl (.own 3) 1 (List.map (Value.int .i64) v6.1))]) ?_ ?_
       ·rintro ⟨⟩ h
        refine pt_then ?_
        refine zgg hn [_,_,_,_,(12,vi 0)] [0,1,2,3] [0,1,2,3,4] [zq [] 4 12] [(_,_),(_,_),(_,_),(_,_),(_,_)] rfl ⟨z2 rfl,zz⟩ ?_
        refine ht_seq ?_
        refine zgg hn [_,_,_,_,_,(13,vi 0)] [0,1,2,3,4] [0,1,2,3,4,5] [zq [] 5 13] [(_,_),(_,_),(_,_),(_,_),(_,_),(_,_)] rfl ⟨z2 rfl,zz⟩ ?_
        refine ht_loopS h (fun ((s68, s69) : Int × Int) => [(0, .fl .shr 1 (List.map (Value.int .i64) w)), (2, .v (.int .i64 i)), (3, .v (.int .i64 k)), (9, .fl (.own 3) 1 (List.map (Value.int .i64) v6.1)), (12, .v (.int .i64 s68)), (13, .v (.int .i64 s69))]) (fun (s71 : Int) => [(0, .fl .shr 1 (List.map (Value.int .i64) w)), (2, .v (.int .i64 i)), (3, .v (.int .i64 k)), (9, .fl (.own 3) 1 (List.map (Value.int .i64) v6.1)), (12, .v (.int .i64 s71))]) ?_ ?_
        ·rintro s71 h
         refine pt_then (ht_seq ?_)
         obtain ⟨v79, hv79, h⟩ := bind_some h
         refine zg hn [_,_,_,_,_,(91,.fl .shr 1 (List.map (Value.int .i64) w)),(92,.tup [.fl (.own 3) 1 (List.map (Value.int .i64) v79.1),vi v79.2]),(90,.tup [.fl (.own 3) 1 (List.map (Value.int .i64) v79.1),vi v79.2]),(93,.fl (.own 3) 1 (List.map (Value.int .i64) v79.1)),(90,.tup [.any,vi v79.2]),(94,vi v79.2),(14,.fl (.own 3) 1 (List.map (Value.int .i64) v79.1)),(15,vi v79.2)] [0,1,2,3,4] [0,1,2,3,4,11,12] [zq [0] 5 91,zq [5] 6 92,⟨[],[6],[7],[(.slot 90)]⟩,⟨[],[7],[9,8],[(.slot 93)]⟩,zq [9] 10 94,⟨[],[8],[11],[(.slot 14)]⟩,zq [10] 12 15] [(_,_),(_,_),(_,_),(_,_),(_,_),(_,_),(_,_)] rfl ⟨z1 rfl,zp rfl (op_call _ _ 13 _ _ rfl call13 rfl (ok_wherryref01_Lengths w 15 _ hv79) rfl rfl),zp rfl (op_move_take _ _ _ _ rfl),zp rfl (op_extract_take _ _ _ _ _ rfl (zl rfl) rfl rfl (by decide) rfl),zp rfl (oE rfl),zp rfl (op_assign_take _ _ _ _ rfl),z2 rfl,zz⟩ ?_
         refine pt_then (ht_seq ?_)
         refine ht_seq ?_
         refine ht_joinS h (fun (s81 : Bool) => [(0, .fl .shr 1 (List.map (Value.int .i64) w)), (2, .v (.int .i64 i)), (3, .v (.int .i64 k)), (9, .fl (.own 3) 1 (List.map (Value.int .i64) v6.1)), (106, .v (.bool s81))]) ?_ ?_
         ·rintro s81 h
          refine pt_then ?_
          refine ht_cond _ rfl (fun hb85 => ?_) (fun hb85 => ?_)
          ·have h := cond_t hb85 h
           refine ht_seq ?_
           obtain ⟨v86, hv86, h⟩ := bind_some h
           refine zg hn [_,_,_,_,_,(107,vb v86),(8,vb v86)] [0,1,2,3,4] [6] [zq [] 5 107,zq [5] 6 8] [(_,_)] rfl ⟨zp rfl (op_call _ _ 17 _ _ rfl call17 rfl (ok_wherrylaw03_wakes  _ hv86) rfl rfl),z2 rfl,zz⟩ ?_
           refine pt_then (ht_ret ?_)
           refine pt_r_then ?_
           obtain rfl := Option.some.inj h
           exact pt_ret hio rfl (.tmp _ _ .nil) rfl rfl
          ·have h := cond_f hb85 h
           refine ht_skip ?_
           refine pt_then (ht_seq ?_)
           obtain ⟨v87, hv87, h⟩ := bind_some h
           obtain ⟨v88, hv88, h⟩ := bind_some h
           obtain ⟨v89, hv89, h⟩ := bind_some h
           obtain ⟨v90, hv90, h⟩ := bind_some h
           obtain ⟨v91, hv91, h⟩ := bind_some h
           obtain ⟨v92, hv92, h⟩ := bind_some h
           obtain ⟨v93, hv93, h⟩ := bind_some h
           obtain ⟨v94, hv94, h⟩ := bind_some h
           refine ht_anyR (by kernel_rfl) hn (El := (_ :: _ :: _ :: _ :: _ :: (108, .v (.int .i64 i)) :: (109, .v (.int .u64 v87)) :: (110, .fl .shr 1 (List.map (Value.int .i64) w)) :: (111, .v (.int .i64 (w.length : Int))) :: (112, .v (.int .u64 v88)) :: (113, .v (.int .u64 v89)) :: (114, .v (.int .i64 v90)) :: (115, .v (.int .i64 k)) :: (116, .v (.int .u64 v91)) :: (117, .fl .shr 1 (List.map (Value.int .i64) w)) :: (118, .v (.int .i64 (w.length : Int))) :: (119, .v (.int .u64 v92)) :: (120, .v (.int .u64 v93)) :: (121, .v (.int .i64 v94)) :: (2, .v (.int .i64 v90)) :: (3, .v (.int .i64 v94)) :: [])) (init := [0, 1, 2, 3, 4]) (fin := [0, 3, 19, 20]) (sps := (zq [1] 5 108 :: zq [5] 6 109 :: zq [0] 7 110 :: zq [7] 8 111 :: zq [8] 9 112 :: zq [6,9] 10 113 :: zq [10] 11 114 :: zq [2] 12 115 :: zq [12] 13 116 :: zq [0] 14 117 :: zq [14] 15 118 :: zq [15] 16 119 :: zq [13,16] 17 120 :: zq [17] 18 121 :: ⟨[11], [1], [19], [(.slot 2)]⟩ :: ⟨[18], [2], [20], [(.slot 3)]⟩ :: [])) (es' := [(_,_),(_,_),(2, .v (.int .i64 v90)), (3, .v (.int .i64 v94))]) (by kernel_rfl) rfl rfl ⟨z1 rfl,zp rfl ((Option.some.inj hv87) ▸ op_conv _ _ _ underlying3 underlying33 rfl),z1 rfl,zp rfl (op_len_fl _ _ _ underlying22 rfl (by decide) (map_len _)),zp rfl ((Option.some.inj hv88) ▸ op_conv _ _ _ underlying3 underlying33 rfl),zp rfl (oB rfl (rem_ok hv89)),zp rfl ((Option.some.inj hv90) ▸ op_conv _ _ _ underlying33 underlying3 rfl),z1 rfl,zp rfl ((Option.some.inj hv91) ▸ op_conv _ _ _ underlying3 underlying33 rfl),z1 rfl,zp rfl (op_len_fl _ _ _ underlying22 rfl (by decide) (map_len _)),zp rfl ((Option.some.inj hv92) ▸ op_conv _ _ _ underlying3 underlying33 rfl),zp rfl (oB rfl (rem_ok hv93)),zp rfl ((Option.some.inj hv94) ▸ op_conv _ _ _ underlying33 underlying3 rfl),zp rfl (LOp.drop [_] (op_assign _ _ _ _ rfl rfl)),zp rfl (LOp.drop [_] (op_assign _ _ _ _ rfl rfl)),zz⟩ ?_
           refine pt_then (ht_seq ?_)
           refine ht_joinS h (fun (s108 : Bool) => [(8, .v (.bool s108))]) ?_ ?_
           ·rintro s108 h
            refine pt_then (ht_ret ?_)
            obtain rfl := Option.some.inj h
            exact pt_ret hio rfl (.tmp _ _ .nil) rfl rfl
           ·intro u109 h hl110 hr111
            obtain ⟨v95, hv95, h⟩ := bind_some h
            obtain ⟨v96, hv96, h⟩ := bind_some h
            obtain ⟨v97, hv97, h⟩ := bind_some h
            obtain ⟨v98, hv98, h⟩ := bind_some h
            refine cond_some h (fun hg22_9 h => ?_) (fun hg22_9 h => ?_)
            ·obtain ⟨v99, hv99, h⟩ := bind_some h
             refine ht_anyR (by kernel_rfl) hn (El := (_ :: _ :: _ :: _ :: (122, .fl .shr 1 (List.map (Value.int .i64) w)) :: (123, .v (.int .i64 v90)) :: (124, .eref (.slot 122) (v95 * 1)) :: (125, .v (.int .i64 v96)) :: (126, .fl .shr 1 (List.map (Value.int .i64) w)) :: (127, .v (.int .i64 v94)) :: (128, .eref (.slot 126) (v97 * 1)) :: (129, .v (.int .i64 v98)) :: (130, .v (.bool ((decide (v96 ≤ v98))))) :: (131, .v (.bool true)) :: (132, .v undef) :: (133, .v undef) :: (134, .v undef) :: (135, .v undef) :: (136, .v undef) :: (137, .v (.bool true)) :: (138, .v (.bool true)) :: (139, .v undef) :: (140, .v undef) :: (141, .v undef) :: (142, .v undef) :: (143, .v undef) :: (144, .v undef) :: (145, .v undef) :: (146, .v undef) :: (147, .v undef) :: (148, .v (.bool true)) :: (149, .v (.bool true)) :: (150, .v (.bool v99)) :: (151, .v (.bool v99)) :: (8, .v (.bool v99)) :: [])) (init := [0, 1, 2, 3]) (fin := [34]) (sps := (zq [0] 4 122 :: zq [2] 5 123 :: zq [4,5] 6 124 :: zq [6,4] 7 125 :: zq [0] 8 126 :: zq [3] 9 127 :: zq [8,9] 10 128 :: zq [10,8] 11 129 :: zq [7,11] 12 130 :: zq [12] 13 131 :: zq [13] 14 132 :: zq [13] 15 133 :: zq [13] 16 134 :: zq [13] 17 135 :: zq [13] 18 136 :: zq [13] 19 137 :: zq [19] 20 138 :: zq [20] 21 139 :: zq [20] 22 140 :: zq [20] 23 141 :: zq [20] 24 142 :: zq [20] 25 143 :: zq [20] 26 144 :: zq [20] 27 145 :: zq [20] 28 146 :: zq [20] 29 147 :: zq [20] 30 148 :: zq [30] 31 149 :: zq [31] 32 150 :: zq [31,32] 33 151 :: zq [33] 34 8 :: [])) (es' := [(8, .v (.bool v99))]) (by kernel_rfl) rfl rfl ⟨z1 rfl,z1 rfl,zp rfl (op_ix _ _ _ _ _ _ _ _ underlying22 sz3 (by decide) rfl rfl rfl (ix_ok hv95).1 (map_lt (ix_ok hv95).2) rfl),zp rfl (op_load_e _ _ _ _ _ _ underlying3 rfl rfl rfl (map_get hv96)),z1 rfl,z1 rfl,zp rfl (op_ix _ _ _ _ _ _ _ _ underlying22 sz3 (by decide) rfl rfl rfl (ix_ok hv97).1 (map_lt (ix_ok hv97).2) rfl),zp rfl (op_load_e _ _ _ _ _ _ underlying3 rfl rfl rfl (map_get hv98)),z4 rfl rfl,z8 hg22_9 rfl,zf rfl,zf rfl,zf rfl,zf rfl,zf rfl,z3 true rfl,z1 rfl,zf rfl,zf rfl,zf rfl,zf rfl,zf rfl,zf rfl,zf rfl,zf rfl,zf rfl,z3 true rfl,z1 rfl,zr' rfl (op_call _ _ 17 _ _ rfl call17 rfl (ok_wherrylaw03_wakes  _ hv99) rfl rfl),z3 true rfl,z2 rfl,zz⟩ ?_
             exact hl110 _ (Option.some.inj h).symm
            ·obtain ⟨v100, hv100, h⟩ := bind_some h
             obtain ⟨v101, hv101, h⟩ := bind_some h
             refine cond_some h (fun hg22_16 h => ?_) (fun hg22_16 h => ?_)
             ·obtain ⟨v102, hv102, h⟩ := bind_some h
              refine ht_anyR (by kernel_rfl) hn (El := (_ :: _ :: _ :: _ :: (122, .fl .shr 1 (List.map (Value.int .i64) w)) :: (123, .v (.int .i64 v90)) :: (124, .eref (.slot 122) (v95 * 1)) :: (125, .v (.int .i64 v96)) :: (126, .fl .shr 1 (List.map (Value.int .i64) w)) :: (127, .v (.int .i64 v94)) :: (128, .eref (.slot 126) (v97 * 1)) :: (129, .v (.int .i64 v98)) :: (130, .v (.bool ((decide (v96 ≤ v98))))) :: (131, .v (.bool false)) :: (132, .fl .shr 1 (List.map (Value.int .i64) w)) :: (133, .v (.int .i64 v94)) :: (134, .eref (.slot 132) (v100 * 1)) :: (135, .v (.int .i64 v101)) :: (136, .v (.bool (v101 == 0))) :: (137, .v (.bool (v101 == 0))) :: (138, .v (.bool true)) :: (139, .v undef) :: (140, .v undef) :: (141, .v undef) :: (142, .v undef) :: (143, .v undef) :: (144, .v undef) :: (145, .v undef) :: (146, .v undef) :: (147, .v undef) :: (148, .v (.bool true)) :: (149, .v (.bool true)) :: (150, .v (.bool v102)) :: (151, .v (.bool v102)) :: (8, .v (.bool v102)) :: [])) (init := [0, 1, 2, 3]) (fin := [34]) (sps := (zq [0] 4 122 :: zq [2] 5 123 :: zq [4,5] 6 124 :: zq [6,4] 7 125 :: zq [0] 8 126 :: zq [3] 9 127 :: zq [8,9] 10 128 :: zq [10,8] 11 129 :: zq [7,11] 12 130 :: zq [12] 13 131 :: zq [13,0] 14 132 :: zq [13,3] 15 133 :: zq [13,14,15] 16 134 :: zq [13,16,14] 17 135 :: zq [13,17] 18 136 :: zq [13,18] 19 137 :: zq [19] 20 138 :: zq [20] 21 139 :: zq [20] 22 140 :: zq [20] 23 141 :: zq [20] 24 142 :: zq [20] 25 143 :: zq [20] 26 144 :: zq [20] 27 145 :: zq [20] 28 146 :: zq [20] 29 147 :: zq [20] 30 148 :: zq [30] 31 149 :: zq [31] 32 150 :: zq [31,32] 33 151 :: zq [33] 34 8 :: [])) (es' := [(8, .v (.bool v102))]) (by kernel_rfl) rfl rfl ⟨z1 rfl,z1 rfl,zp rfl (op_ix _ _ _ _ _ _ _ _ underlying22 sz3 (by decide) rfl rfl rfl (ix_ok hv95).1 (map_lt (ix_ok hv95).2) rfl),zp rfl (op_load_e _ _ _ _ _ _ underlying3 rfl rfl rfl (map_get hv96)),z1 rfl,z1 rfl,zp rfl (op_ix _ _ _ _ _ _ _ _ underlying22 sz3 (by decide) rfl rfl rfl (ix_ok hv97).1 (map_lt (ix_ok hv97).2) rfl),zp rfl (op_load_e _ _ _ _ _ _ underlying3 rfl rfl rfl (map_get hv98)),z4 rfl rfl,z8 hg22_9 rfl,zr' rfl (oM rfl),zr' rfl (oM rfl),zr' rfl (op_ix _ _ _ _ _ _ _ _ underlying22 sz3 (by decide) rfl rfl rfl (ix_ok hv100).1 (map_lt (ix_ok hv100).2) rfl),zr' rfl (op_load_e _ _ _ _ _ _ underlying3 rfl rfl rfl (map_get hv101)),zr' rfl (oB rfl rfl),z3 false rfl,z8 hg22_16 rfl,zf rfl,zf rfl,zf rfl,zf rfl,zf rfl,zf rfl,zf rfl,zf rfl,zf rfl,z3 true rfl,z1 rfl,zr' rfl (op_call _ _ 17 _ _ rfl call17 rfl (ok_wherrylaw03_wakes  _ hv102) rfl rfl),z3 true rfl,z2 rfl,zz⟩ ?_
              exact hl110 _ (Option.some.inj h).symm
             ·obtain ⟨v103, hv103, h⟩ := bind_some h
              obtain ⟨v104, hv104, h⟩ := bind_some h
              obtain ⟨v105, hv105, h⟩ := bind_some h
              obtain ⟨v106, hv106, h⟩ := bind_some h
              refine cond_some h (fun hg22_27 h => ?_) (fun hg22_27 h => ?_)
              ·obtain ⟨v107, hv107, h⟩ := bind_some h
               refine ht_anyR (by kernel_rfl) hn (El := (_ :: _ :: _ :: _ :: (122, .fl .shr 1 (List.map (Value.int .i64) w)) :: (123, .v (.int .i64 v90)) :: (124, .eref (.slot 122) (v95 * 1)) :: (125, .v (.int .i64 v96)) :: (126, .fl .shr 1 (List.map (Value.int .i64) w)) :: (127, .v (.int .i64 v94)) :: (128, .eref (.slot 126) (v97 * 1)) :: (129, .v (.int .i64 v98)) :: (130, .v (.bool ((decide (v96 ≤ v98))))) :: (131, .v (.bool false)) :: (132, .fl .shr 1 (List.map (Value.int .i64) w)) :: (133, .v (.int .i64 v94)) :: (134, .eref (.slot 132) (v100 * 1)) :: (135, .v (.int .i64 v101)) :: (136, .v (.bool (v101 == 0))) :: (137, .v (.bool (v101 == 0))) :: (138, .v (.bool false)) :: (139, .same (.slot 9)) :: (140, .v (.int .i64 v90)) :: (141, .eref (.slot 9) (v103 * 1)) :: (142, .v (.int .i64 v104)) :: (143, .same (.slot 9)) :: (144, .v (.int .i64 v94)) :: (145, .eref (.slot 9) (v105 * 1)) :: (146, .v (.int .i64 v106)) :: (147, .v (.bool ((decide (v104 ≤ v106))))) :: (148, .v (.bool ((decide (v104 ≤ v106))))) :: (149, .v (.bool true)) :: (150, .v (.bool v107)) :: (151, .v (.bool v107)) :: (8, .v (.bool v107)) :: [])) (init := [0, 1, 2, 3]) (fin := [34]) (sps := (zq [0] 4 122 :: zq [2] 5 123 :: zq [4,5] 6 124 :: zq [6,4] 7 125 :: zq [0] 8 126 :: zq [3] 9 127 :: zq [8,9] 10 128 :: zq [10,8] 11 129 :: zq [7,11] 12 130 :: zq [12] 13 131 :: zq [13,0] 14 132 :: zq [13,3] 15 133 :: zq [13,14,15] 16 134 :: zq [13,16,14] 17 135 :: zq [13,17] 18 136 :: zq [13,18] 19 137 :: zq [19] 20 138 :: zq [20,1] 21 139 :: zq [20,2] 22 140 :: zq [20,21,1,22] 23 141 :: zq [20,23,1] 24 142 :: zq [20,1] 25 143 :: zq [20,3] 26 144 :: zq [20,25,1,26] 27 145 :: zq [20,27,1] 28 146 :: zq [20,24,28] 29 147 :: zq [20,29] 30 148 :: zq [30] 31 149 :: zq [31] 32 150 :: zq [31,32] 33 151 :: zq [33] 34 8 :: [])) (es' := [(8, .v (.bool v107))]) (by kernel_rfl) rfl rfl ⟨z1 rfl,z1 rfl,zp rfl (op_ix _ _ _ _ _ _ _ _ underlying22 sz3 (by decide) rfl rfl rfl (ix_ok hv95).1 (map_lt (ix_ok hv95).2) rfl),zp rfl (op_load_e _ _ _ _ _ _ underlying3 rfl rfl rfl (map_get hv96)),z1 rfl,z1 rfl,zp rfl (op_ix _ _ _ _ _ _ _ _ underlying22 sz3 (by decide) rfl rfl rfl (ix_ok hv97).1 (map_lt (ix_ok hv97).2) rfl),zp rfl (op_load_e _ _ _ _ _ _ underlying3 rfl rfl rfl (map_get hv98)),z4 rfl rfl,z8 hg22_9 rfl,zr' rfl (oM rfl),zr' rfl (oM rfl),zr' rfl (op_ix _ _ _ _ _ _ _ _ underlying22 sz3 (by decide) rfl rfl rfl (ix_ok hv100).1 (map_lt (ix_ok hv100).2) rfl),zr' rfl (op_load_e _ _ _ _ _ _ underlying3 rfl rfl rfl (map_get hv101)),zr' rfl (oB rfl rfl),z3 false rfl,z8 hg22_16 rfl,zr' rfl (oM rfl),zr' rfl (oM rfl),zr' rfl (op_ix _ _ _ _ _ _ _ _ underlying22 sz3 (by decide) rfl rfl rfl (ix_ok hv103).1 (map_lt (ix_ok hv103).2) rfl),zr' rfl (op_load_e _ _ _ _ _ _ underlying3 rfl rfl rfl (map_get hv104)),zr' rfl (oM rfl),zr' rfl (oM rfl),zr' rfl (op_ix _ _ _ _ _ _ _ _ underlying22 sz3 (by decide) rfl rfl rfl (ix_ok hv105).1 (map_lt (ix_ok hv105).2) rfl),zr' rfl (op_load_e _ _ _ _ _ _ underlying3 rfl rfl rfl (map_get hv106)),zr' rfl (oB rfl rfl),z3 false rfl,z8 hg22_27 rfl,zr' rfl (op_call _ _ 17 _ _ rfl call17 rfl (ok_wherrylaw03_wakes  _ hv107) rfl rfl),z3 true rfl,z2 rfl,zz⟩ ?_
               exact hl110 _ (Option.some.inj h).symm
              ·refine ht_anyR (by kernel_rfl) hn (El := (_ :: _ :: _ :: _ :: (122, .fl .shr 1 (List.map (Value.int .i64) w)) :: (123, .v (.int .i64 v90)) :: (124, .eref (.slot 122) (v95 * 1)) :: (125, .v (.int .i64 v96)) :: (126, .fl .shr 1 (List.map (Value.int .i64) w)) :: (127, .v (.int .i64 v94)) :: (128, .eref (.slot 126) (v97 * 1)) :: (129, .v (.int .i64 v98)) :: (130, .v (.bool ((decide (v96 ≤ v98))))) :: (131, .v (.bool false)) :: (132, .fl .shr 1 (List.map (Value.int .i64) w)) :: (133, .v (.int .i64 v94)) :: (134, .eref (.slot 132) (v100 * 1)) :: (135, .v (.int .i64 v101)) :: (136, .v (.bool (v101 == 0))) :: (137, .v (.bool (v101 == 0))) :: (138, .v (.bool false)) :: (139, .same (.slot 9)) :: (140, .v (.int .i64 v90)) :: (141, .eref (.slot 9) (v103 * 1)) :: (142, .v (.int .i64 v104)) :: (143, .same (.slot 9)) :: (144, .v (.int .i64 v94)) :: (145, .eref (.slot 9) (v105 * 1)) :: (146, .v (.int .i64 v106)) :: (147, .v (.bool ((decide (v104 ≤ v106))))) :: (148, .v (.bool ((decide (v104 ≤ v106))))) :: (149, .v (.bool false)) :: (150, .v undef) :: (151, .v (.bool false)) :: (8, .v (.bool false)) :: [])) (init := [0, 1, 2, 3]) (fin := [34]) (sps := (zq [0] 4 122 :: zq [2] 5 123 :: zq [4,5] 6 124 :: zq [6,4] 7 125 :: zq [0] 8 126 :: zq [3] 9 127 :: zq [8,9] 10 128 :: zq [10,8] 11 129 :: zq [7,11] 12 130 :: zq [12] 13 131 :: zq [13,0] 14 132 :: zq [13,3] 15 133 :: zq [13,14,15] 16 134 :: zq [13,16,14] 17 135 :: zq [13,17] 18 136 :: zq [13,18] 19 137 :: zq [19] 20 138 :: zq [20,1] 21 139 :: zq [20,2] 22 140 :: zq [20,21,1,22] 23 141 :: zq [20,23,1] 24 142 :: zq [20,1] 25 143 :: zq [20,3] 26 144 :: zq [20,25,1,26] 27 145 :: zq [20,27,1] 28 146 :: zq [20,24,28] 29 147 :: zq [20,29] 30 148 :: zq [30] 31 149 :: zq [31] 32 150 :: zq [31] 33 151 :: zq [33] 34 8 :: [])) (es' := [(8, .v (.bool false))]) (by kernel_rfl) rfl rfl ⟨z1 rfl,z1 rfl,zp rfl (op_ix _ _ _ _ _ _ _ _ underlying22 sz3 (by decide) rfl rfl rfl (ix_ok hv95).1 (map_lt (ix_ok hv95).2) rfl),zp rfl (op_load_e _ _ _ _ _ _ underlying3 rfl rfl rfl (map_get hv96)),z1 rfl,z1 rfl,zp rfl (op_ix _ _ _ _ _ _ _ _ underlying22 sz3 (by decide) rfl rfl rfl (ix_ok hv97).1 (map_lt (ix_ok hv97).2) rfl),zp rfl (op_load_e _ _ _ _ _ _ underlying3 rfl rfl rfl (map_get hv98)),z4 rfl rfl,z8 hg22_9 rfl,zr' rfl (oM rfl),zr' rfl (oM rfl),zr' rfl (op_ix _ _ _ _ _ _ _ _ underlying22 sz3 (by decide) rfl rfl rfl (ix_ok hv100).1 (map_lt (ix_ok hv100).2) rfl),zr' rfl (op_load_e _ _ _ _ _ _ underlying3 rfl rfl rfl (map_get hv101)),zr' rfl (oB rfl rfl),z3 false rfl,z8 hg22_16 rfl,zr' rfl (oM rfl),zr' rfl (oM rfl),zr' rfl (op_ix _ _ _ _ _ _ _ _ underlying22 sz3 (by decide) rfl rfl rfl (ix_ok hv103).1 (map_lt (ix_ok hv103).2) rfl),zr' rfl (op_load_e _ _ _ _ _ _ underlying3 rfl rfl rfl (map_get hv104)),zr' rfl (oM rfl),zr' rfl (oM rfl),zr' rfl (op_ix _ _ _ _ _ _ _ _ underlying22 sz3 (by decide) rfl rfl rfl (ix_ok hv105).1 (map_lt (ix_ok hv105).2) rfl),zr' rfl (op_load_e _ _ _ _ _ _ underlying3 rfl rfl rfl (map_get hv106)),zr' rfl (oB rfl rfl),z3 false rfl,z8 hg22_27 rfl,zt rfl,z3 false rfl,z2 rfl,zz⟩ ?_
               exact hl110 _ (Option.some.inj h).symm
         ·intro u82 h hl83 hr84
          refine cond_some h (fun hg19_2 h => ?_) (fun hg19_2 h => ?_)
          ·refine zg hn (_::_::_::_::_::_::_::(95,vi s71)::(96,vb (decide (2500 ≤ s71)))::(97,vb true)::(98,.v undef)::(99,.v undef)::(100,vb true)::(101,vb true)::(102,.v undef)::(103,.v undef)::(104,.v undef)::(105,.v undef)::(106,vb true)::[]) [0,1,2,3,4,5,6] [0,1,2,3,18] [zq [4] 7 95,zq [7] 8 96,zq [8] 9 97,zq [9] 10 98,zq [9] 11 99,zq [9] 12 100,zq [12] 13 101,zq [13] 14 102,zq [13] 15 103,zq [13] 16 104,zq [13] 17 105,zq [13] 18 106] [(_,_),(_,_),(_,_),(_,_),(_,_)] rfl ⟨z1 rfl,z4 rfl rfl,z8 hg19_2 rfl,zf rfl,zf rfl,z3 true rfl,z1 rfl,zf rfl,zf rfl,zf rfl,zf rfl,z3 true rfl,zz⟩ ?_
           exact hl83 _ (Option.some.inj h).symm
          ·refine cond_some h (fun hg19_6 h => ?_) (fun hg19_6 h => ?_)
           ·refine zg hn (_::_::_::_::_::_::_::(95,vi s71)::(96,vb (decide (2500 ≤ s71)))::(97,vb false)::(98,vi v79.2)::(99,vb (v79.2 != 0))::(100,vb (v79.2 != 0))::(101,vb true)::(102,.v undef)::(103,.v undef)::(104,.v undef)::(105,.v undef)::(106,vb true)::[]) [0,1,2,3,4,5,6] [0,1,2,3,18] [zq [4] 7 95,zq [7] 8 96,zq [8] 9 97,zq [9,6] 10 98,zq [9,10] 11 99,zq [9,11] 12 100,zq [12] 13 101,zq [13] 14 102,zq [13] 15 103,zq [13] 16 104,zq [13] 17 105,zq [13] 18 106] [(_,_),(_,_),(_,_),(_,_),(_,_)] rfl ⟨z1 rfl,z4 rfl rfl,z8 hg19_2 rfl,zr' rfl (oM rfl),zr' rfl (oB rfl rfl),z3 false rfl,z8 hg19_6 rfl,zf rfl,zf rfl,zf rfl,zf rfl,z3 true rfl,zz⟩ ?_
            exact hl83 _ (Option.some.inj h).symm
           ·obtain ⟨v80, hv80, h⟩ := bind_some h
            refine zg hn (_::_::_::_::_::_::_::(95,vi s71)::(96,vb (decide (2500 ≤ s71)))::(97,vb false)::(98,vi v79.2)::(99,vb (v79.2 != 0))::(100,vb (v79.2 != 0))::(101,vb false)::(102,.fl (.own 3) 1 (List.map (Value.int .i64) v79.1))::(103,.same (.slot 9))::(104,vb v80)::(105,vb (!v80))::(106,vb (!v80))::[]) [0,1,2,3,4,5,6] [0,1,2,3,18] [zq [4] 7 95,zq [7] 8 96,zq [8] 9 97,zq [9,6] 10 98,zq [9,10] 11 99,zq [9,11] 12 100,zq [12] 13 101,⟨[13],[5],[14],[(.slot 102)]⟩,zq [13,3] 15 103,zq [13,14,15,3] 16 104,zq [13,16] 17 105,zq [13,17] 18 106] [(_,_),(_,_),(_,_),(_,_),(_,_)] rfl ⟨z1 rfl,z4 rfl rfl,z8 hg19_2 rfl,zr' rfl (oM rfl),zr' rfl (oB rfl rfl),z3 false rfl,z8 hg19_6 rfl,zr' rfl (op_move_take _ _ _ _ rfl),zr' rfl (oM rfl),zr' rfl (op_call _ _ 16 _ _ rfl call16 rfl (ok_wherrykeep_Ints v79.1 v6.1 _ hv80) rfl rfl),zr' rfl (op_un _ _ _ _ rfl rfl),z3 false rfl,zz⟩ ?_
            exact hl83 _ (Option.some.inj h).symm
        ·rintro u72 hl73 hr74 ⟨s68, s69⟩ rr77 h ho75
         refine ht_seq ?_
         refine zgg hn [_,_,_,_,_,_,(77,vi s69),(78,.fl .shr 1 (List.map (Value.int .i64) w)),(79,vi (w.length : Int)),(80,vb (decide (s69 < (w.length : Int))))] [0,1,2,3,4,5] [0,1,2,3,4,5,9] [zq [5] 6 77,zq [0] 7 78,zq [7] 8 79,zq [6,8] 9 80] [(_,_),(_,_),(_,_),(_,_),(_,_),(_,_),(_,_)] rfl ⟨z1 rfl,z1 rfl,zp rfl (op_len_fl _ _ _ underlying22 rfl (by decide) (map_len _)),z4 rfl rfl,zz⟩ ?_
         refine ht_cond _ rfl (fun hb78 => ?_) (fun hb78 => ?_)
         ·have h := cond_t hb78 h
          refine ht_skip ?_
          refine pt_then (ht_seq ?_)
          refine ht_block ?_
          obtain ⟨v60, hv60, h⟩ := bind_some h
          obtain ⟨v61, hv61, h⟩ := bind_some h
          obtain ⟨v62, hv62, h⟩ := bind_some h
          obtain ⟨v63, hv63, h⟩ := bind_some h
          refine zg hn (_::_::_::_::_::_::_::(83,vi s68)::(84,.fl .shr 1 (List.map (Value.int .i64) w))::(85,vi s69)::(86,.eref (.slot 84) (v60 * 1))::(87,vi v61)::(88,vi v62)::(89,vi v63)::(12,vi v63)::[]) [0,1,2,3,4,5,6] [0,1,2,3,5,14] [zq [4] 7 83,zq [0] 8 84,zq [5] 9 85,zq [8,9] 10 86,zq [10,8] 11 87,zq [7,11] 12 88,zq [12] 13 89,⟨[13],[4],[14],[(.slot 12)]⟩] [(_,_),(_,_),(_,_),(_,_),(_,_),(_,_)] rfl ⟨z1 rfl,z1 rfl,z1 rfl,zp rfl (op_ix _ _ _ _ _ _ _ _ underlying22 sz3 (by decide) rfl rfl rfl (ix_ok hv60).1 (map_lt (ix_ok hv60).2) rfl),zp rfl (op_load_e _ _ _ _ _ _ underlying3 rfl rfl rfl (map_get hv61)),zp rfl (oB rfl (ibind (f := Value.int .i64) (Option.some.inj hv62))),zp rfl ((Option.some.inj hv63) ▸ op_min _ _ _ _ rfl rfl),zp rfl (LOp.drop [_] (op_assign _ _ _ _ rfl rfl)),zz⟩ ?_
          refine pt_inb ?_
          refine pt_then ?_
          obtain ⟨v64, hv64, h⟩ := bind_some h
          refine zg hn [_,_,_,_,_,_,(81,vi s69),(82,vi v64),(13,vi v64)] [0,1,2,3,4,5] [0,1,2,3,5,8] [zq [4] 6 81,zq [6] 7 82,⟨[7],[4],[8],[(.slot 13)]⟩] [(_,_),(_,_),(_,_),(_,_),(_,_),(_,_)] rfl ⟨z1 rfl,zp rfl (oB rfl (ibind (f := Value.int .i64) (Option.some.inj hv64))),zp rfl (LOp.drop [_] (op_assign _ _ _ _ rfl rfl)),zz⟩ ?_
          exact pt_next _ (Option.some.inj h).symm rfl
         ·have h := cond_f hb78 h
          refine ht_exit ?_
          refine pt_x_then ?_
          refine pt_x_then ?_
          refine pt_x_in ?_
          refine pt_pick [0, 1, 2, 3, 4] (by kernel_rfl) (es' := [(_,_),(_,_),(_,_),(_,_),(_,_)]) rfl ?_
          exact hl73 _ (ho75 _ (Option.some.inj h).symm).symm
       ·rintro u47 hl48 hr49 s40 rr52 h ho50
        refine ht_seq ?_
        refine zgg hn [_,_,_,_,_,_,(52,vi s40),(53,.same (.slot 9)),(54,vi (v6.1.length : Int)),(55,vb (decide (s40 < (v6.1.length : Int))))] [0,1,2,3,4,5] [0,1,2,3,4,5,9] [zq [5] 6 52,zq [4] 7 53,zq [7,4] 8 54,zq [6,8] 9 55] [(_,_),(_,_),(_,_),(_,_),(_,_),(_,_),(_,_)] rfl ⟨z1 rfl,z1 rfl,zp rfl (op_len_fl _ _ _ underlying22 rfl (by decide) (map_len _)),z4 rfl rfl,zz⟩ ?_
        refine ht_cond _ rfl (fun hb53 => ?_) (fun hb53 => ?_)
        ·have h := cond_t hb53 h
         refine ht_skip ?_
         refine pt_then (ht_seq ?_)
         refine ht_block ?_
         refine ht_seq ?_
         refine ht_joinS h (fun (s54 : Bool) => [(0, .fl .shr 1 (List.map (Value.int .i64) w)), (1, .v (.int .i64 limit)), (2, .v (.int .i64 i)), (3, .v (.int .i64 k)), (9, .fl (.own 3) 1 (List.map (Value.int .i64) v6.1)), (11, .v (.int .i64 s40)), (76, .v (.bool s54))]) ?_ ?_
         ·rintro s54 h
          refine pt_then ?_
          refine ht_cond _ rfl (fun hb58 => ?_) (fun hb58 => ?_)
          ·have h := cond_t hb58 h
           refine zgg hn [_,_,_,_,_,_,_,(8,vb false)] [0,1,2,3,4,5,6] [7] [zq [] 7 8] [(_,_)] rfl ⟨z2 rfl,zz⟩ ?_
           refine ht_ret ?_
           refine pt_r_in ?_
           refine pt_r_then ?_
           refine pt_r_then ?_
           refine pt_r_in ?_
           refine pt_r_then ?_
           have h := hr49 _ (ho50 _ (Option.some.inj h).symm).symm
           obtain rfl := Option.some.inj h
           exact pt_ret hio rfl (.tmp _ _ .nil) rfl rfl
          ·have h := cond_f hb58 h
           refine ht_skip ?_
           refine pt_inb ?_
           refine pt_then ?_
           obtain ⟨v32, hv32, h⟩ := bind_some h
           refine zg hn [_,_,_,_,_,_,_,(56,vi s40),(57,vi v32),(11,vi v32)] [0,1,2,3,4,5,6] [0,1,2,3,4,9] [zq [5] 7 56,zq [7] 8 57,⟨[8],[5],[9],[(.slot 11)]⟩] [(_,_),(_,_),(_,_),(_,_),(_,_),(_,_)] rfl ⟨z1 rfl,zp rfl (oB rfl (ibind (f := Value.int .i64) (Option.some.inj hv32))),zp rfl (LOp.drop [_] (op_assign _ _ _ _ rfl rfl)),zz⟩ ?_
           exact pt_next _ (Option.some.inj h).symm rfl
         ·intro u55 h hl56 hr57
          obtain ⟨v20, hv20, h⟩ := bind_some h
          obtain ⟨v21, hv21, h⟩ := bind_some h
          obtain ⟨v22, hv22, h⟩ := bind_some h
          obtain ⟨v23, hv23, h⟩ := bind_some h
          obtain ⟨v24, hv24, h⟩ := bind_some h
          refine cond_some h (fun hg11_11 h => ?_) (fun hg11_11 h => ?_)
          ·refine ht_anyR (by kernel_rfl) hn (El := (_ :: _ :: _ :: _ :: _ :: _ :: _ :: (58, .same (.slot 9)) :: (59, .v (.int .i64 s40)) :: (60, .eref (.slot 9) (v20 * 1)) :: (61, .v (.int .i64 v21)) :: (62, .v (.bool ((decide (0 < v21))))) :: (63, .fl .shr 1 (List.map (Value.int .i64) w)) :: (64, .v (.int .i64 s40)) :: (65, .eref (.slot 63) (v22 * 1)) :: (66, .v (.int .i64 v23)) :: (67, .v (.bool ((decide (0 < v23))))) :: (68, .v (.bool ((!(((decide (0 < v21))) == ((decide (0 < v23)))))))) :: (69, .v (.bool true)) :: (70, .v undef) :: (71, .v undef) :: (72, .v undef) :: (73, .v undef) :: (74, .v undef) :: (75, .v undef) :: (76, .v (.bool true)) :: [])) (init := [0, 1, 2, 3, 4, 5, 6]) (fin := [0, 1, 2, 3, 4, 5, 25]) (sps := (zq [4] 7 58 :: zq [5] 8 59 :: zq [7,4,8] 9 60 :: zq [9,4] 10 61 :: zq [10] 11 62 :: zq [0] 12 63 :: zq [5] 13 64 :: zq [12,13] 14 65 :: zq [14,12] 15 66 :: zq [15] 16 67 :: zq [11,16] 17 68 :: zq [17] 18 69 :: zq [18] 19 70 :: zq [18] 20 71 :: zq [18] 21 72 :: zq [18] 22 73 :: zq [18] 23 74 :: zq [18] 24 75 :: zq [18] 25 76 :: [])) (es' := [(_,_),(_,_),(_,_),(_,_),(_,_),(_,_),(76, .v (.bool true))]) (by kernel_rfl) rfl rfl ⟨z1 rfl,z1 rfl,zp rfl (op_ix _ _ _ _ _ _ _ _ underlying22 sz3 (by decide) rfl rfl rfl (ix_ok hv20).1 (map_lt (ix_ok hv20).2) rfl),zp rfl (op_load_e _ _ _ _ _ _ underlying3 rfl rfl rfl (map_get hv21)),z4 rfl rfl,z1 rfl,z1 rfl,zp rfl (op_ix _ _ _ _ _ _ _ _ underlying22 sz3 (by decide) rfl rfl rfl (ix_ok hv22).1 (map_lt (ix_ok hv22).2) rfl),zp rfl (op_load_e _ _ _ _ _ _ underlying3 rfl rfl rfl (map_get hv23)),z4 rfl rfl,zp rfl (op_bne _ _ _ _ underlying4 rfl rfl),z8 hg11_11 rfl,zf rfl,zf rfl,zf rfl,zf rfl,zf rfl,zf rfl,z3 true rfl,zz⟩ ?_
           exact hl56 _ (Option.some.inj h).symm
          ·obtain ⟨v25, hv25, h⟩ := bind_some h
           obtain ⟨v26, hv26, h⟩ := bind_some h
           refine ht_anyR (by kernel_rfl) hn (El := (_ :: _ :: _ :: _ :: _ :: _ :: _ :: (58, .same (.slot 9)) :: (59, .v (.int .i64 s40)) :: (60, .eref (.slot 9) (v20 * 1)) :: (61, .v (.int .i64 v21)) :: (62, .v (.bool ((decide (0 < v21))))) :: (63, .fl .shr 1 (List.map (Value.int .i64) w)) :: (64, .v (.int .i64 s40)) :: (65, .eref (.slot 63) (v22 * 1)) :: (66, .v (.int .i64 v23)) :: (67, .v (.bool ((decide (0 < v23))))) :: (68, .v (.bool ((!(((decide (0 < v21))) == ((decide (0 < v23)))))))) :: (69, .v (.bool false)) :: (70, .same (.slot 9)) :: (71, .v (.int .i64 s40)) :: (72, .eref (.slot 9) (v25 * 1)) :: (73, .v (.int .i64 v26)) :: (74, .v (.int .i64 limit)) :: (75, .v (.bool ((decide (limit < v26))))) :: (76, .v (.bool ((decide (limit < v26))))) :: [])) (init := [0, 1, 2, 3, 4, 5, 6]) (fin := [0, 1, 2, 3, 4, 5, 25]) (sps := (zq [4] 7 58 :: zq [5] 8 59 :: zq [7,4,8] 9 60 :: zq [9,4] 10 61 :: zq [10] 11 62 :: zq [0] 12 63 :: zq [5] 13 64 :: zq [12,13] 14 65 :: zq [14,12] 15 66 :: zq [15] 16 67 :: zq [11,16] 17 68 :: zq [17] 18 69 :: zq [18,4] 19 70 :: zq [18,5] 20 71 :: zq [18,19,4,20] 21 72 :: zq [18,21,4] 22 73 :: zq [18,1] 23 74 :: zq [18,22,23] 24 75 :: zq [18,24] 25 76 :: [])) (es' := [(_,_),(_,_),(_,_),(_,_),(_,_),(_,_),(76, .v (.bool ((decide (limit < v26)))))]) (by kernel_rfl) rfl rfl ⟨z1 rfl,z1 rfl,zp rfl (op_ix _ _ _ _ _ _ _ _ underlying22 sz3 (by decide) rfl rfl rfl (ix_ok hv20).1 (map_lt (ix_ok hv20).2) rfl),zp rfl (op_load_e _ _ _ _ _ _ underlying3 rfl rfl rfl (map_get hv21)),z4 rfl rfl,z1 rfl,z1 rfl,zp rfl (op_ix _ _ _ _ _ _ _ _ underlying22 sz3 (by decide) rfl rfl rfl (ix_ok hv22).1 (map_lt (ix_ok hv22).2) rfl),zp rfl (op_load_e _ _ _ _ _ _ underlying3 rfl rfl rfl (map_get hv23)),z4 rfl rfl,zp rfl (op_bne _ _ _ _ underlying4 rfl rfl),z8 hg11_11 rfl,zr' rfl (oM rfl),zr' rfl (oM rfl),zr' rfl (op_ix _ _ _ _ _ _ _ _ underlying22 sz3 (by decide) rfl rfl rfl (ix_ok hv25).1 (map_lt (ix_ok hv25).2) rfl),zr' rfl (op_load_e _ _ _ _ _ _ underlying3 rfl rfl rfl (map_get hv26)),zr' rfl (oM rfl),zr' rfl (oB rfl rfl),z3 false rfl,zz⟩ ?_
           exact hl56 _ (Option.some.inj h).symm
        ·have h := cond_f hb53 h
         refine ht_exit ?_
         refine pt_x_then ?_
         refine pt_x_then ?_
         refine pt_x_in ?_
         refine pt_pick [0, 2, 3, 4] (by kernel_rfl) (es' := [(_,_),(_,_),(_,_),(_,_)]) rfl ?_
         exact hl48 _ (ho50 _ (Option.some.inj h).symm).symm
     ·intro u15 h hl16 hr17
      refine cond_some h (fun hg6_5 h => ?_) (fun hg6_5 h => ?_)
      ·refine zg hn (_::_::_::_::_::_::_::(42,.same (.slot 9))::(43,vi (v6.1.length : Int))::(44,.fl .shr 1 (List.map (Value.int .i64) w))::(45,vi (w.length : Int))::(46,vb ((v6.1.length : Int) != (w.length : Int)))::(47,vb true)::(48,.v undef)::(49,.v undef)::(50,.v undef)::(51,vb true)::[]) [0,1,2,3,4,5,6] [0,1,2,3,4,16] [zq [4] 7 42,zq [7,4] 8 43,zq [0] 9 44,zq [9] 10 45,zq [8,10] 11 46,zq [11] 12 47,zq [12] 13 48,zq [12] 14 49,zq [12] 15 50,zq [12] 16 51] [(_,_),(_,_),(_,_),(_,_),(_,_),(_,_)] rfl ⟨z1 rfl,zp rfl (op_len_fl _ _ _ underlying22 rfl (by decide) (map_len _)),z1 rfl,zp rfl (op_len_fl _ _ _ underlying22 rfl (by decide) (map_len _)),z4 rfl rfl,z8 hg6_5 rfl,zf rfl,zf rfl,zf rfl,z3 true rfl,zz⟩ ?_
       exact hl16 _ (Option.some.inj h).symm
      ·obtain ⟨v13, hv13, h⟩ := bind_some h
       refine zg hn (_::_::_::_::_::_::_::(42,.same (.slot 9))::(43,vi (v6.1.length : Int))::(44,.fl .shr 1 (List.map (Value.int .i64) w))::(45,vi (w.length : Int))::(46,vb ((v6.1.length : Int) != (w.length : Int)))::(47,vb false)::(48,.same (.slot 9))::(49,vi v13)::(50,vb (v13 != 0))::(51,vb (v13 != 0))::[]) [0,1,2,3,4,5,6] [0,1,2,3,4,16] [zq [4] 7 42,zq [7,4] 8 43,zq [0] 9 44,zq [9] 10 45,zq [8,10] 11 46,zq [11] 12 47,zq [12,4] 13 48,zq [12,13,4] 14 49,zq [12,14] 15 50,zq [12,15] 16 51] [(_,_),(_,_),(_,_),(_,_),(_,_),(_,_)] rfl ⟨z1 rfl,zp rfl (op_len_fl _ _ _ underlying22 rfl (by decide) (map_len _)),z1 rfl,zp rfl (op_len_fl _ _ _ underlying22 rfl (by decide) (map_len _)),z4 rfl rfl,z8 hg6_5 rfl,zr' rfl (oM rfl),zr' rfl (op_call _ _ 18 _ _ rfl call18 rfl (ok_canon_Check v6.1 _ hv13) rfl rfl),zr' rfl (oB rfl rfl),z3 false rfl,zz⟩ ?_
       exact hl16 _ (Option.some.inj h).symm
  ·intro u2 h hl3 hr4
   refine cond_some h (fun hg1_3 h => ?_) (fun hg1_3 h => ?_)
   ·refine zg hn [_,_,_,_,(16,.fl .shr 1 (List.map (Value.int .i64) w)),(17,vi (w.length : Int)),(18,vb (decide (300 < (w.length : Int)))),(19,vb true),(20,.v undef),(21,.v undef),(22,.v undef),(23,vb true)] [0,1,2,3] [0,1,2,3,11] [zq [0] 4 16,zq [4] 5 17,zq [5] 6 18,zq [6] 7 19,zq [7] 8 20,zq [7] 9 21,zq [7] 10 22,zq [7] 11 23] [(_,_),(_,_),(_,_),(_,_),(_,_)] rfl ⟨z1 rfl,zp rfl (op_len_fl _ _ _ underlying22 rfl (by decide) (map_len _)),z4 rfl rfl,z8 hg1_3 rfl,zf rfl,zf rfl,zf rfl,z3 true rfl,zz⟩ ?_
    exact hl3 _ (Option.some.inj h).symm
   ·refine zg hn [_,_,_,_,(16,.fl .shr 1 (List.map (Value.int .i64) w)),(17,vi (w.length : Int)),(18,vb (decide (300 < (w.length : Int)))),(19,vb false),(20,.fl .shr 1 (List.map (Value.int .i64) w)),(21,vi (w.length : Int)),(22,vb ((w.length : Int) == 0)),(23,vb ((w.length : Int) == 0))] [0,1,2,3] [0,1,2,3,11] [zq [0] 4 16,zq [4] 5 17,zq [5] 6 18,zq [6] 7 19,zq [7,0] 8 20,zq [7,8] 9 21,zq [7,9] 10 22,zq [7,10] 11 23] [(_,_),(_,_),(_,_),(_,_),(_,_)] rfl ⟨z1 rfl,zp rfl (op_len_fl _ _ _ underlying22 rfl (by decide) (map_len _)),z4 rfl rfl,z8 hg1_3 rfl,zr' rfl (oM rfl),zr' rfl (op_len_fl _ _ _ underlying22 rfl (by decide) (map_len _)),zr' rfl (oB rfl rfl),z3 false rfl,zz⟩ ?_
    exact hl3 _ (Option.some.inj h).symm

end Go.Proofs.Ytohhijlgepnbeaa
