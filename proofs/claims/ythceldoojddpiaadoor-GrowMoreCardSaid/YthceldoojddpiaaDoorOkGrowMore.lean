/-
  The model's runs are what is told in Lean.
-/
import Derived.Test.YthceldoojddpiaaDoorProg
import Derived.KernelRfl
import Derived.Test.YthceldoojddpiaaDoorOkc2
set_option linter.unusedVariables false
set_option linter.unusedSimpArgs false
set_option maxHeartbeats 1000000
namespace Go.Proofs.YthceldoojddpiaaDoor
open Go.Abs Go.Abs.Sh Tryd

theorem ok_wherrylaw07_GrowMore (mx : Int) (b : (List Int)) (n : Int) (more : Int) (r : Bool) (h : Sh.wherrylaw07_GrowMore b n more = some r) : FnG Tryd.prog (GL mx) 7 [.fl .shr 1 (List.map (Value.int .u8) b), .v (.int .i64 n), .v (.int .i64 more)] (.v (.bool r)) := by
  unfold Sh.wherrylaw07_GrowMore at h
  refine fn_okG func7 rfl (zl rfl) rfl rfl fun g0 hn hio => ?_
  refine zgg hn [_,_,_,_,(6,vb false)] [0,1,2,3] [0,1,2,3] [zq [] 4 6] [(_,_),(_,_),(_,_),(_,_)] rfl ⟨z2 rfl,zz⟩ ?_
  refine ht_seq ?_
  refine zgg hn [_,_,_,_,(11,.fl .shr 1 (List.map (Value.int .u8) b)),(12,vi (b.length : Int)),(13,vb (decide (1500 < (b.length : Int))))] [0,1,2,3] [0,1,2,3,6] [zq [0] 4 11,zq [4] 5 12,zq [5] 6 13] [(_,_),(_,_),(_,_),(_,_),(_,_)] rfl ⟨z1 rfl,zp rfl (op_len_fl _ _ _ underlying22 rfl (by decide) (map_len _)),z4 rfl rfl,zz⟩ ?_
  refine ht_cond _ rfl (fun hb1 => ?_) (fun hb1 => ?_)
  ·have h := cond_t hb1 h
   refine zgg hn [_,_,_,_,_,(6,vb true)] [0,1,2,3,4] [3,5] [zq [] 5 6] [(_,_),(_,_)] rfl ⟨z2 rfl,zz⟩ ?_
   refine ht_ret ?_
   refine pt_pick [1] (by kernel_rfl) (es' := [(_,_)]) rfl ?_
   refine pt_r_then ?_
   obtain rfl := Option.some.inj h
   exact pt_ret hio rfl (.tmp _ _ .nil) rfl rfl
  ·have h := cond_f hb1 h
   refine ht_skip ?_
   refine pt_then (ht_seq ?_)
   obtain ⟨v2, hv2, h⟩ := bind_some h
   obtain ⟨v3, hv3, h⟩ := bind_some h
   obtain ⟨v4, hv4, h⟩ := bind_some h
   obtain ⟨v5, hv5, h⟩ := bind_some h
   obtain ⟨v6, hv6, h⟩ := bind_some h
   obtain ⟨v7, hv7, h⟩ := bind_some h
   refine zg hn (_::_::_::_::_::(14,vi n)::(15,.v (.int .u64 v2))::(16,.v (.int .u64 v3))::(17,vi v4)::(18,vi more)::(19,.v (.int .u64 v5))::(20,.v (.int .u64 v6))::(21,vi v7)::(1,vi v4)::(2,vi v7)::[]) [0,1,2,3,4] [0,3,13,14] [zq [1] 5 14,zq [5] 6 15,zq [6] 7 16,zq [7] 8 17,zq [2] 9 18,zq [9] 10 19,zq [10] 11 20,zq [11] 12 21,⟨[8],[1],[13],[(.slot 1)]⟩,⟨[12],[2],[14],[(.slot 2)]⟩] [(_,_),(_,_),(_,_),(_,_)] rfl ⟨z1 rfl,zp rfl ((Option.some.inj hv2) ▸ op_conv _ _ _ underlying3 underlying32 rfl),zp rfl (oB rfl (rem_ok hv3)),zp rfl ((Option.some.inj hv4) ▸ op_conv _ _ _ underlying32 underlying3 rfl),z1 rfl,zp rfl ((Option.some.inj hv5) ▸ op_conv _ _ _ underlying3 underlying32 rfl),zp rfl (oB rfl (rem_ok hv6)),zp rfl ((Option.some.inj hv7) ▸ op_conv _ _ _ underlying32 underlying3 rfl),zp rfl (LOp.drop [_] (op_assign _ _ _ _ rfl rfl)),zp rfl (LOp.drop [_] (op_assign _ _ _ _ rfl rfl)),zz⟩ ?_
   refine pt_then (ht_seq ?_)
   obtain ⟨v8, hv8, h⟩ := bind_some h
   refine zg hn [_,_,_,_,(23,.fl .shr 1 (List.map (Value.int .u8) b)),(24,vi v4),(25,.tup [.fl .ro 1 (List.map (Value.int .u8) v8.1),vi v8.2]),(22,.tup [.fl .ro 1 (List.map (Value.int .u8) v8.1),vi v8.2]),(26,.fl .ro 1 (List.map (Value.int .u8) v8.1)),(27,vi v8.2),(7,.fl .ro 1 (List.map (Value.int .u8) v8.1)),(8,vi v8.2)] [0,1,2,3] [0,1,2,3,10,11] [zq [0] 4 23,zq [2] 5 24,zq [4,5,1] 6 25,⟨[],[6],[7],[(.slot 22)]⟩,zq [7] 8 26,zq [7] 9 27,zq [8] 10 7,zq [9] 11 8] [(_,_),(_,_),(_,_),(_,_),(_,_),(_,_)] rfl ⟨z1 rfl,z1 rfl,zp rfl (op_callG _ _ 69 11 _ _ rfl call11 rfl rfl (fun _ h => h) (ok_grow_Grow mx b v4 _ hv8) rfl rfl),zp rfl (op_move_take _ _ _ _ rfl),zp rfl (oE rfl),zp rfl (oE rfl),z2 rfl,z2 rfl,zz⟩ ?_
   refine pt_then (ht_seq ?_)
   obtain ⟨v9, hv9, h⟩ := bind_some h
   obtain ⟨v10, hv10, h⟩ := bind_some h
   refine zg hn (_::_::_::_::_::_::(29,.fl .shr 1 (List.map (Value.int .u8) b))::(30,vi v4)::(31,vi v7)::(32,vi v9)::(33,.tup [.fl .ro 1 (List.map (Value.int .u8) v10.1),vi v10.2])::(28,.tup [.fl .ro 1 (List.map (Value.int .u8) v10.1),vi v10.2])::(34,.fl .ro 1 (List.map (Value.int .u8) v10.1))::(35,vi v10.2)::(9,.fl .ro 1 (List.map (Value.int .u8) v10.1))::(10,vi v10.2)::[]) [0,1,2,3,4,5] [1,2,4,5,14,15] [zq [0] 6 29,zq [2] 7 30,zq [3] 8 31,zq [7,8] 9 32,zq [6,9,1] 10 33,⟨[],[10],[11],[(.slot 28)]⟩,zq [11] 12 34,zq [11] 13 35,zq [12] 14 9,zq [13] 15 10] [(_,_),(_,_),(_,_),(_,_),(_,_),(_,_)] rfl ⟨z1 rfl,z1 rfl,z1 rfl,zp rfl ((Option.some.inj hv9) ▸ op_max _ _ _ _ rfl rfl),zp rfl (op_callG _ _ 69 11 _ _ rfl call11 rfl rfl (fun _ h => h) (ok_grow_Grow mx b v9 _ hv10) rfl rfl),zp rfl (op_move_take _ _ _ _ rfl),zp rfl (oE rfl),zp rfl (oE rfl),z2 rfl,z2 rfl,zz⟩ ?_
   refine pt_then (ht_seq ?_)
   refine zgg hn [_,_,_,_,_,_,(36,vi v8.2),(37,vb (v8.2 == 0))] [0,1,2,3,4,5] [0,1,2,3,4,5,7] [zq [3] 6 36,zq [6] 7 37] [(_,_),(_,_),(_,_),(_,_),(_,_),(_,_),(_,_)] rfl ⟨z1 rfl,z4 rfl rfl,zz⟩ ?_
   refine ht_cond _ rfl (fun hb11 => ?_) (fun hb11 => ?_)
   ·have h := cond_t hb11 h
    refine ht_seq ?_
    refine ht_joinS h (fun (s14 : Bool) => [(69, .glob (GL mx)), (6, .v (.bool s14))]) ?_ ?_
    ·rintro s14 h
     refine pt_then (ht_ret ?_)
     refine pt_pick [1] (by kernel_rfl) (es' := [(_,_)]) rfl ?_
     refine pt_r_then ?_
     obtain rfl := Option.some.inj h
     exact pt_ret hio rfl (.tmp _ _ .nil) rfl rfl
    ·intro u15 h hl16 hr17
     refine cond_some h (fun hg7_2 h => ?_) (fun hg7_2 h => ?_)
     ·obtain ⟨v12, hv12, h⟩ := bind_some h
      refine cond_some h (fun hg7_7 h => ?_) (fun hg7_7 h => ?_)
      ·refine cond_some h (fun hg7_13 h => ?_) (fun hg7_13 h => ?_)
       ·obtain ⟨v13, hv13, h⟩ := bind_some h
        refine zg hn (_::_::_::_::_::_::_::(38,vi v10.2)::(39,vb (v10.2 == 0))::(40,vb true)::(41,.fl .ro 1 (List.map (Value.int .u8) v8.1))::(42,.fl .ro 1 (List.map (Value.int .u8) v10.1))::(43,vb v12)::(44,vb v12)::(45,vb true)::(46,.fl .ro 1 (List.map (Value.int .u8) v8.1))::(47,vi (v8.1.length : Int))::(48,vi v4)::(49,vb (decide ((v8.1.length : Int) ≤ v4)))::(50,vb (decide ((v8.1.length : Int) ≤ v4)))::(51,vb true)::(52,vb v13)::(53,vb v13)::(6,vb v13)::[]) [0,1,2,3,4,5,6] [0,23] (zq [5] 7 38::zq [7] 8 39::zq [8] 9 40::zq [9,2] 10 41::zq [9,4] 11 42::zq [9,10,11] 12 43::zq [9,12] 13 44::zq [13] 14 45::zq [14,2] 15 46::zq [14,15] 16 47::zq [14,1] 17 48::zq [14,16,17] 18 49::zq [14,18] 19 50::zq [19] 20 51::zq [20,0] 21 52::zq [20,21] 22 53::zq [22] 23 6::[]) [(_,_),(_,_)] rfl ⟨z1 rfl,z4 rfl rfl,z8 hg7_2 rfl,zr' rfl (oM rfl),zr' rfl (oM rfl),zr' rfl (op_call _ _ 13 _ _ rfl call13 rfl (ok_wherrykeep_Bytes v8.1 v10.1 _ hv12) rfl rfl),z3 true rfl,z8 hg7_7 rfl,zr' rfl (oM rfl),zr' rfl (op_len_fl _ _ _ underlying22 rfl (by decide) (map_len _)),zr' rfl (oM rfl),zr' rfl (oB rfl rfl),z3 true rfl,z8 hg7_13 rfl,zr' rfl (op_callG _ _ 69 14 _ _ rfl call14 rfl rfl (fun _ h => h) (ok_wherrylaw07_wakes mx  _ hv13) rfl rfl),z3 true rfl,z2 rfl,zz⟩ ?_
        exact hl16 _ (Option.some.inj h).symm
       ·refine zg hn (_::_::_::_::_::_::_::(38,vi v10.2)::(39,vb (v10.2 == 0))::(40,vb true)::(41,.fl .ro 1 (List.map (Value.int .u8) v8.1))::(42,.fl .ro 1 (List.map (Value.int .u8) v10.1))::(43,vb v12)::(44,vb v12)::(45,vb true)::(46,.fl .ro 1 (List.map (Value.int .u8) v8.1))::(47,vi (v8.1.length : Int))::(48,vi v4)::(49,vb (decide ((v8.1.length : Int) ≤ v4)))::(50,vb (decide ((v8.1.length : Int) ≤ v4)))::(51,vb false)::(52,.v undef)::(53,vb false)::(6,vb false)::[]) [0,1,2,3,4,5,6] [0,23] (zq [5] 7 38::zq [7] 8 39::zq [8] 9 40::zq [9,2] 10 41::zq [9,4] 11 42::zq [9,10,11] 12 43::zq [9,12] 13 44::zq [13] 14 45::zq [14,2] 15 46::zq [14,15] 16 47::zq [14,1] 17 48::zq [14,16,17] 18 49::zq [14,18] 19 50::zq [19] 20 51::zq [20] 21 52::zq [20] 22 53::zq [22] 23 6::[]) [(_,_),(_,_)] rfl ⟨z1 rfl,z4 rfl rfl,z8 hg7_2 rfl,zr' rfl (oM rfl),zr' rfl (oM rfl),zr' rfl (op_call _ _ 13 _ _ rfl call13 rfl (ok_wherrykeep_Bytes v8.1 v10.1 _ hv12) rfl rfl),z3 true rfl,z8 hg7_7 rfl,zr' rfl (oM rfl),zr' rfl (op_len_fl _ _ _ underlying22 rfl (by decide) (map_len _)),zr' rfl (oM rfl),zr' rfl (oB rfl rfl),z3 true rfl,z8 hg7_13 rfl,zt rfl,z3 false rfl,z2 rfl,zz⟩ ?_
        exact hl16 _ (Option.some.inj h).symm
      ·refine zg hn (_::_::_::_::_::_::_::(38,vi v10.2)::(39,vb (v10.2 == 0))::(40,vb true)::(41,.fl .ro 1 (List.map (Value.int .u8) v8.1))::(42,.fl .ro 1 (List.map (Value.int .u8) v10.1))::(43,vb v12)::(44,vb v12)::(45,vb false)::(46,.v undef)::(47,.v undef)::(48,.v undef)::(49,.v undef)::(50,vb false)::(51,vb false)::(52,.v undef)::(53,vb false)::(6,vb false)::[]) [0,1,2,3,4,5,6] [0,23] (zq [5] 7 38::zq [7] 8 39::zq [8] 9 40::zq [9,2] 10 41::zq [9,4] 11 42::zq [9,10,11] 12 43::zq [9,12] 13 44::zq [13] 14 45::zq [14] 15 46::zq [14] 16 47::zq [14] 17 48::zq [14] 18 49::zq [14] 19 50::zq [19] 20 51::zq [20] 21 52::zq [20] 22 53::zq [22] 23 6::[]) [(_,_),(_,_)] rfl ⟨z1 rfl,z4 rfl rfl,z8 hg7_2 rfl,zr' rfl (oM rfl),zr' rfl (oM rfl),zr' rfl (op_call _ _ 13 _ _ rfl call13 rfl (ok_wherrykeep_Bytes v8.1 v10.1 _ hv12) rfl rfl),z3 true rfl,z8 hg7_7 rfl,zt rfl,zt rfl,zt rfl,zt rfl,z3 false rfl,z1 rfl,zt rfl,z3 false rfl,z2 rfl,zz⟩ ?_
       exact hl16 _ (Option.some.inj h).symm
     ·refine zg hn (_::_::_::_::_::_::_::(38,vi v10.2)::(39,vb (v10.2 == 0))::(40,vb false)::(41,.v undef)::(42,.v undef)::(43,.v undef)::(44,vb false)::(45,vb false)::(46,.v undef)::(47,.v undef)::(48,.v undef)::(49,.v undef)::(50,vb false)::(51,vb false)::(52,.v undef)::(53,vb false)::(6,vb false)::[]) [0,1,2,3,4,5,6] [0,23] (zq [5] 7 38::zq [7] 8 39::zq [8] 9 40::zq [9] 10 41::zq [9] 11 42::zq [9] 12 43::zq [9] 13 44::zq [13] 14 45::zq [14] 15 46::zq [14] 16 47::zq [14] 17 48::zq [14] 18 49::zq [14] 19 50::zq [19] 20 51::zq [20] 21 52::zq [20] 22 53::zq [22] 23 6::[]) [(_,_),(_,_)] rfl ⟨z1 rfl,z4 rfl rfl,z8 hg7_2 rfl,zt rfl,zt rfl,zt rfl,z3 false rfl,z1 rfl,zt rfl,zt rfl,zt rfl,zt rfl,z3 false rfl,z1 rfl,zt rfl,z3 false rfl,z2 rfl,zz⟩ ?_
      exact hl16 _ (Option.some.inj h).symm
   ·have h := cond_f hb11 h
    refine ht_skip ?_
    refine pt_then (ht_seq ?_)
    refine ht_joinS h (fun (s20 : Bool) => [(69, .glob (GL mx)), (6, .v (.bool s20))]) ?_ ?_
    ·rintro s20 h
     refine pt_then (ht_ret ?_)
     refine pt_pick [1] (by kernel_rfl) (es' := [(_,_)]) rfl ?_
     obtain rfl := Option.some.inj h
     exact pt_ret hio rfl (.tmp _ _ .nil) rfl rfl
    ·intro u21 h hl22 hr23
     refine cond_some h (fun hg8_3 h => ?_) (fun hg8_3 h => ?_)
     ·refine cond_some h (fun hg8_6 h => ?_) (fun hg8_6 h => ?_)
      ·obtain ⟨v18, hv18, h⟩ := bind_some h
       refine zg hn (_::_::_::_::_::_::_::(54,.fl .ro 1 (List.map (Value.int .u8) v8.1))::(55,vi (v8.1.length : Int))::(56,vb ((v8.1.length : Int) == 0))::(57,vb true)::(58,vi v8.2)::(59,vb (v8.2 == 2))::(60,vb true)::(61,.v undef)::(62,.v undef)::(63,.v undef)::(64,vb true)::(65,vb true)::(66,vb true)::(67,vb v18)::(68,vb v18)::(6,vb v18)::[]) [0,1,2,3,4,5,6] [0,22] (zq [2] 7 54::zq [7] 8 55::zq [8] 9 56::zq [9] 10 57::zq [10,3] 11 58::zq [10,11] 12 59::zq [10,12] 13 60::zq [13] 14 61::zq [13] 15 62::zq [13] 16 63::zq [10,13] 17 64::zq [10,17] 18 65::zq [18] 19 66::zq [19,0] 20 67::zq [19,20] 21 68::zq [21] 22 6::[]) [(_,_),(_,_)] rfl ⟨z1 rfl,zp rfl (op_len_fl _ _ _ underlying22 rfl (by decide) (map_len _)),z4 rfl rfl,z8 hg8_3 rfl,zr' rfl (oM rfl),zr' rfl (oB rfl rfl),zr' rfl (op_move _ _ _ _ (zb hg8_6) rfl),zf rfl,zf rfl,zf rfl,zr' rfl (op_pick _ _ true _ rfl rfl),z3 true rfl,z1 rfl,zr' rfl (op_callG _ _ 69 14 _ _ rfl call14 rfl rfl (fun _ h => h) (ok_wherrylaw07_wakes mx  _ hv18) rfl rfl),z3 true rfl,z2 rfl,zz⟩ ?_
       exact hl22 _ (Option.some.inj h).symm
      ·refine cond_some h (fun hg8_12 h => ?_) (fun hg8_12 h => ?_)
       ·obtain ⟨v19, hv19, h⟩ := bind_some h
        refine zg hn (_::_::_::_::_::_::_::(54,.fl .ro 1 (List.map (Value.int .u8) v8.1))::(55,vi (v8.1.length : Int))::(56,vb ((v8.1.length : Int) == 0))::(57,vb true)::(58,vi v8.2)::(59,vb (v8.2 == 2))::(60,vb false)::(61,vi v10.2)::(62,vi v8.2)::(63,vb (v10.2 == v8.2))::(64,vb (v10.2 == v8.2))::(65,vb (v10.2 == v8.2))::(66,vb true)::(67,vb v19)::(68,vb v19)::(6,vb v19)::[]) [0,1,2,3,4,5,6] [0,22] (zq [2] 7 54::zq [7] 8 55::zq [8] 9 56::zq [9] 10 57::zq [10,3] 11 58::zq [10,11] 12 59::zq [10,12] 13 60::zq [13,5] 14 61::zq [13,3] 15 62::zq [13,14,15] 16 63::zq [10,13,16] 17 64::zq [10,17] 18 65::zq [18] 19 66::zq [19,0] 20 67::zq [19,20] 21 68::zq [21] 22 6::[]) [(_,_),(_,_)] rfl ⟨z1 rfl,zp rfl (op_len_fl _ _ _ underlying22 rfl (by decide) (map_len _)),z4 rfl rfl,z8 hg8_3 rfl,zr' rfl (oM rfl),zr' rfl (oB rfl rfl),zr' rfl (op_move _ _ _ _ (zb hg8_6) rfl),zr' rfl (oM rfl),zr' rfl (oM rfl),zr' rfl (oB rfl rfl),zr' rfl (op_pick _ _ false _ rfl rfl),z3 true rfl,z8 hg8_12 rfl,zr' rfl (op_callG _ _ 69 14 _ _ rfl call14 rfl rfl (fun _ h => h) (ok_wherrylaw07_wakes mx  _ hv19) rfl rfl),z3 true rfl,z2 rfl,zz⟩ ?_
        exact hl22 _ (Option.some.inj h).symm
       ·refine zg hn (_::_::_::_::_::_::_::(54,.fl .ro 1 (List.map (Value.int .u8) v8.1))::(55,vi (v8.1.length : Int))::(56,vb ((v8.1.length : Int) == 0))::(57,vb true)::(58,vi v8.2)::(59,vb (v8.2 == 2))::(60,vb false)::(61,vi v10.2)::(62,vi v8.2)::(63,vb (v10.2 == v8.2))::(64,vb (v10.2 == v8.2))::(65,vb (v10.2 == v8.2))::(66,vb false)::(67,.v undef)::(68,vb false)::(6,vb false)::[]) [0,1,2,3,4,5,6] [0,22] (zq [2] 7 54::zq [7] 8 55::zq [8] 9 56::zq [9] 10 57::zq [10,3] 11 58::zq [10,11] 12 59::zq [10,12] 13 60::zq [13,5] 14 61::zq [13,3] 15 62::zq [13,14,15] 16 63::zq [10,13,16] 17 64::zq [10,17] 18 65::zq [18] 19 66::zq [19] 20 67::zq [19] 21 68::zq [21] 22 6::[]) [(_,_),(_,_)] rfl ⟨z1 rfl,zp rfl (op_len_fl _ _ _ underlying22 rfl (by decide) (map_len _)),z4 rfl rfl,z8 hg8_3 rfl,zr' rfl (oM rfl),zr' rfl (oB rfl rfl),zr' rfl (op_move _ _ _ _ (zb hg8_6) rfl),zr' rfl (oM rfl),zr' rfl (oM rfl),zr' rfl (oB rfl rfl),zr' rfl (op_pick _ _ false _ rfl rfl),z3 true rfl,z8 hg8_12 rfl,zt rfl,z3 false rfl,z2 rfl,zz⟩ ?_
        exact hl22 _ (Option.some.inj h).symm
     ·refine zg hn (_::_::_::_::_::_::_::(54,.fl .ro 1 (List.map (Value.int .u8) v8.1))::(55,vi (v8.1.length : Int))::(56,vb ((v8.1.length : Int) == 0))::(57,vb false)::(58,.v undef)::(59,.v undef)::(60,.v undef)::(61,.v undef)::(62,.v undef)::(63,.v undef)::(64,.v undef)::(65,vb false)::(66,vb false)::(67,.v undef)::(68,vb false)::(6,vb false)::[]) [0,1,2,3,4,5,6] [0,22] (zq [2] 7 54::zq [7] 8 55::zq [8] 9 56::zq [9] 10 57::zq [10] 11 58::zq [10] 12 59::zq [10] 13 60::zq [13] 14 61::zq [13] 15 62::zq [13] 16 63::zq [10] 17 64::zq [10] 18 65::zq [18] 19 66::zq [19] 20 67::zq [19] 21 68::zq [21] 22 6::[]) [(_,_),(_,_)] rfl ⟨z1 rfl,zp rfl (op_len_fl _ _ _ underlying22 rfl (by decide) (map_len _)),z4 rfl rfl,z8 hg8_3 rfl,zt rfl,zt rfl,zt rfl,zu' rfl,zu' rfl,zu' rfl,zt rfl,z3 false rfl,z1 rfl,zt rfl,z3 false rfl,z2 rfl,zz⟩ ?_
      exact hl22 _ (Option.some.inj h).symm

end Go.Proofs.YthceldoojddpiaaDoor
