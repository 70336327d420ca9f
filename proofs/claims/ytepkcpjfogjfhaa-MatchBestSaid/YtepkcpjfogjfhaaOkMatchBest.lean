/-
  The model's runs are what is told in Lean.
-/
import Derived.Test.YtepkcpjfogjfhaaProg
import Derived.KernelRfl
import Derived.Test.YtepkcpjfogjfhaaB2
import Derived.Test.YtepkcpjfogjfhaaOkc1
set_option linter.unusedVariables false
set_option linter.unusedSimpArgs false
set_option maxHeartbeats 1000000
namespace Go.Proofs.Ytepkcpjfogjfhaa
open Go.Abs Go.Abs.Sh Try

theorem ok_wherrylaw04_MatchBest (b : (List Int)) (at_ : Int) (other : Int) (r : Bool) (h : Sh.wherrylaw04_MatchBest b at_ other = some r) : FnOK Try.prog 5 [.fl .shr 1 (List.map (Value.int .u8) b), .v (.int .i64 at_), .v (.int .i64 other)] (.v (.bool r)) := by
  unfold Sh.wherrylaw04_MatchBest at h
  refine fn_ok func5 rfl (zl rfl) rfl rfl fun g0 hn hio => ?_
  refine zgg hn [_,_,_,(6,vb false)] [0,1,2] [0,1,2] [zq [] 3 6] [(_,_),(_,_),(_,_)] rfl ⟨z2 rfl,zz⟩ ?_
  refine ht_seq ?_
  refine ht_seq ?_
  refine ht_joinS h (fun (s1 : Bool) => [(0, .fl .shr 1 (List.map (Value.int .u8) b)), (1, .v (.int .i64 at_)), (2, .v (.int .i64 other)), (18, .v (.bool s1))]) ?_ ?_
  ·rintro s1 h
   refine pt_then ?_
   refine ht_cond _ rfl (fun hb5 => ?_) (fun hb5 => ?_)
   ·have h := cond_t hb5 h
    refine zgg hn [_,_,_,_,(6,vb true)] [0,1,2,3] [4] [zq [] 4 6] [(_,_)] rfl ⟨z2 rfl,zz⟩ ?_
    refine ht_ret ?_
    refine pt_r_then ?_
    obtain rfl := Option.some.inj h
    exact pt_ret hio rfl (.tmp _ _ .nil) rfl rfl
   ·have h := cond_f hb5 h
    refine ht_skip ?_
    refine pt_then (ht_seq ?_)
    obtain ⟨v6, hv6, h⟩ := bind_some h
    obtain ⟨v7, hv7, h⟩ := bind_some h
    obtain ⟨v8, hv8, h⟩ := bind_some h
    obtain ⟨v9, hv9, h⟩ := bind_some h
    refine zg hn [_,_,_,_,(19,vi at_),(20,.v (.int .u64 v6)),(21,.fl .shr 1 (List.map (Value.int .u8) b)),(22,vi (b.length : Int)),(23,.v (.int .u64 v7)),(24,.v (.int .u64 v8)),(25,vi v9),(1,vi v9)] [0,1,2,3] [0,2,11] [zq [1] 4 19,zq [4] 5 20,zq [0] 6 21,zq [6] 7 22,zq [7] 8 23,zq [5,8] 9 24,zq [9] 10 25,⟨[10],[1],[11],[(.slot 1)]⟩] [(_,_),(_,_),(_,_)] rfl ⟨z1 rfl,zp rfl ((Option.some.inj hv6) ▸ op_conv _ _ _ underlying3 underlying42 rfl),z1 rfl,zp rfl (op_len_fl _ _ _ underlying22 rfl (by decide) (map_len _)),zp rfl ((Option.some.inj hv7) ▸ op_conv _ _ _ underlying3 underlying42 rfl),zp rfl (oB rfl (rem_ok hv8)),zp rfl ((Option.some.inj hv9) ▸ op_conv _ _ _ underlying42 underlying3 rfl),zp rfl (LOp.drop [_] (op_assign _ _ _ _ rfl rfl)),zz⟩ ?_
    refine pt_then (ht_seq ?_)
    obtain ⟨v10, hv10, h⟩ := bind_some h
    refine zg hn [_,_,_,(27,.fl .shr 1 (List.map (Value.int .u8) b)),(28,vi v9),(29,.tup [vi v10.1,vi v10.2]),(26,.tup [vi v10.1,vi v10.2]),(30,vi v10.1),(31,vi v10.2),(7,vi v10.1),(8,vi v10.2)] [0,1,2] [0,1,2,9,10] [zq [0] 3 27,zq [2] 4 28,zq [3,4] 5 29,⟨[],[5],[6],[(.slot 26)]⟩,zq [6] 7 30,zq [6] 8 31,zq [7] 9 7,zq [8] 10 8] [(_,_),(_,_),(_,_),(_,_),(_,_)] rfl ⟨z1 rfl,z1 rfl,zp rfl (op_call _ _ 16 _ _ rfl call16 rfl (ok_match_Best b v9 _ hv10) rfl rfl),zp rfl (op_move_take _ _ _ _ rfl),zp rfl (oE rfl),zp rfl (oE rfl),z2 rfl,z2 rfl,zz⟩ ?_
    refine pt_then (ht_seq ?_)
    refine ht_joinS h (fun (() : Unit) => [(0, .fl .shr 1 (List.map (Value.int .u8) b)), (2, .v (.int .i64 other)), (1, .v (.int .i64 v9)), (7, .v (.int .i64 v10.1)), (8, .v (.int .i64 v10.2))]) ?_ ?_
    ·rintro ⟨⟩ h
     refine pt_then (ht_seq ?_)
     refine zgg hn [_,_,_,_,_,(71,vi v9),(72,vb (v9 == 0))] [0,1,2,3,4] [0,1,2,3,4,6] [zq [2] 5 71,zq [5] 6 72] [(_,_),(_,_),(_,_),(_,_),(_,_),(_,_)] rfl ⟨z1 rfl,z4 rfl rfl,zz⟩ ?_
     refine ht_cond _ rfl (fun hb30 => ?_) (fun hb30 => ?_)
     ·have h := cond_t hb30 h
      refine ht_seq ?_
      refine ht_joinS h (fun (s32 : Bool) => [(6, .v (.bool s32))]) ?_ ?_
      ·rintro s32 h
       refine pt_then (ht_ret ?_)
       refine pt_r_then ?_
       obtain rfl := Option.some.inj h
       exact pt_ret hio rfl (.tmp _ _ .nil) rfl rfl
      ·intro u33 h hl34 hr35
       refine cond_some h (fun hg11_2 h => ?_) (fun hg11_2 h => ?_)
       ·obtain ⟨v31, hv31, h⟩ := bind_some h
        refine zg hn [_,_,_,_,_,_,(73,vi v10.1),(74,vb (v10.1 == 0)),(75,vb true),(76,vb v31),(77,vb v31),(6,vb v31)] [0,1,2,3,4,5] [11] [zq [3] 6 73,zq [6] 7 74,zq [7] 8 75,zq [8] 9 76,zq [8,9] 10 77,zq [10] 11 6] [(_,_)] rfl ⟨z1 rfl,z4 rfl rfl,z8 hg11_2 rfl,zr' rfl (op_call _ _ 25 _ _ rfl call25 rfl (ok_wherrylaw04_wakes  _ hv31) rfl rfl),z3 true rfl,z2 rfl,zz⟩ ?_
        exact hl34 _ (Option.some.inj h).symm
       ·refine zg hn [_,_,_,_,_,_,(73,vi v10.1),(74,vb (v10.1 == 0)),(75,vb false),(76,.v undef),(77,vb false),(6,vb false)] [0,1,2,3,4,5] [11] [zq [3] 6 73,zq [6] 7 74,zq [7] 8 75,zq [8] 9 76,zq [8] 10 77,zq [10] 11 6] [(_,_)] rfl ⟨z1 rfl,z4 rfl rfl,z8 hg11_2 rfl,zt rfl,z3 false rfl,z2 rfl,zz⟩ ?_
        exact hl34 _ (Option.some.inj h).symm
     ·have h := cond_f hb30 h
      refine ht_skip ?_
      refine pt_then (ht_seq ?_)
      obtain ⟨v36, hv36, h⟩ := bind_some h
      obtain ⟨v37, hv37, h⟩ := bind_some h
      obtain ⟨v38, hv38, h⟩ := bind_some h
      obtain ⟨v39, hv39, h⟩ := bind_some h
      obtain ⟨v40, hv40, h⟩ := bind_some h
      refine zg hn [_,_,_,_,_,_,(78,vi other),(79,.v (.int .u64 v36)),(80,vi v9),(81,.v (.int .u64 v37)),(82,.v (.int .u64 v38)),(83,vi v39),(84,vi v40),(9,vi v40)] [0,1,2,3,4,5] [0,2,3,4,13] [zq [1] 6 78,zq [6] 7 79,zq [2] 8 80,zq [8] 9 81,zq [7,9] 10 82,zq [10] 11 83,zq [11] 12 84,zq [12] 13 9] [(_,_),(_,_),(_,_),(_,_),(_,_)] rfl ⟨z1 rfl,zp rfl ((Option.some.inj hv36) ▸ op_conv _ _ _ underlying3 underlying42 rfl),z1 rfl,zp rfl ((Option.some.inj hv37) ▸ op_conv _ _ _ underlying3 underlying42 rfl),zp rfl (oB rfl (rem_ok hv38)),zp rfl ((Option.some.inj hv39) ▸ op_conv _ _ _ underlying42 underlying3 rfl),zp rfl (oB rfl (ibind (f := Value.int .i64) (Option.some.inj hv40))),z2 rfl,zz⟩ ?_
      refine pt_then (ht_seq ?_)
      obtain ⟨v41, hv41, h⟩ := bind_some h
      refine zg hn [_,_,_,_,_,(85,.fl .shr 1 (List.map (Value.int .u8) b)),(86,vi v9),(87,vi v40),(88,vi v41),(10,vi v41)] [0,1,2,3,4] [2,3,4,9] [zq [0] 5 85,zq [1] 6 86,zq [4] 7 87,zq [5,6,7] 8 88,zq [8] 9 10] [(_,_),(_,_),(_,_),(_,_)] rfl ⟨z1 rfl,z1 rfl,z1 rfl,zp rfl (op_call _ _ 26 _ _ rfl call26 rfl (ok_wherrylaw04_same b v9 v40 _ hv41) rfl rfl),z2 rfl,zz⟩ ?_
      refine pt_then (ht_seq ?_)
      refine ht_joinS h (fun (s45 : Bool) => [(6, .v (.bool s45))]) ?_ ?_
      ·rintro s45 h
       refine pt_then (ht_ret ?_)
       obtain rfl := Option.some.inj h
       exact pt_ret hio rfl (.tmp _ _ .nil) rfl rfl
      ·intro u46 h hl47 hr48
       refine cond_some h (fun hg14_2 h => ?_) (fun hg14_2 h => ?_)
       ·obtain ⟨v42, hv42, h⟩ := bind_some h
        refine zg hn (_::_::_::_::(89,vi v41)::(90,vb (decide (v41 < 3)))::(91,vb true)::(92,.v undef)::(93,.v undef)::(94,.v undef)::(95,vb true)::(96,vb true)::(97,.v undef)::(98,.v undef)::(99,.v undef)::(100,.v undef)::(101,.v undef)::(102,.v undef)::(103,.v undef)::(104,.v undef)::(105,vb true)::(106,vb true)::(107,vb v42)::(108,vb v42)::(6,vb v42)::[]) [0,1,2,3] [24] (zq [3] 4 89::zq [4] 5 90::zq [5] 6 91::zq [6] 7 92::zq [6] 8 93::zq [6] 9 94::zq [6] 10 95::zq [10] 11 96::zq [11] 12 97::zq [11] 13 98::zq [11] 14 99::zq [11] 15 100::zq [15] 16 101::zq [15] 17 102::zq [15] 18 103::zq [11] 19 104::zq [11] 20 105::zq [20] 21 106::zq [21] 22 107::zq [21,22] 23 108::zq [23] 24 6::[]) [(_,_)] rfl ⟨z1 rfl,z4 rfl rfl,z8 hg14_2 rfl,zf rfl,zf rfl,zf rfl,z3 true rfl,z1 rfl,zf rfl,zf rfl,zf rfl,zf rfl,zu' rfl,zu' rfl,zu' rfl,zf rfl,z3 true rfl,z1 rfl,zr' rfl (op_call _ _ 25 _ _ rfl call25 rfl (ok_wherrylaw04_wakes  _ hv42) rfl rfl),z3 true rfl,z2 rfl,zz⟩ ?_
        exact hl47 _ (Option.some.inj h).symm
       ·refine cond_some h (fun hg14_7 h => ?_) (fun hg14_7 h => ?_)
        ·obtain ⟨v43, hv43, h⟩ := bind_some h
         refine zg hn (_::_::_::_::(89,vi v41)::(90,vb (decide (v41 < 3)))::(91,vb false)::(92,vi v41)::(93,vi v10.1)::(94,vb (decide (v41 < v10.1)))::(95,vb (decide (v41 < v10.1)))::(96,vb true)::(97,.v undef)::(98,.v undef)::(99,.v undef)::(100,.v undef)::(101,.v undef)::(102,.v undef)::(103,.v undef)::(104,.v undef)::(105,vb true)::(106,vb true)::(107,vb v43)::(108,vb v43)::(6,vb v43)::[]) [0,1,2,3] [24] (zq [3] 4 89::zq [4] 5 90::zq [5] 6 91::zq [6,3] 7 92::zq [6,0] 8 93::zq [6,7,8] 9 94::zq [6,9] 10 95::zq [10] 11 96::zq [11] 12 97::zq [11] 13 98::zq [11] 14 99::zq [11] 15 100::zq [15] 16 101::zq [15] 17 102::zq [15] 18 103::zq [11] 19 104::zq [11] 20 105::zq [20] 21 106::zq [21] 22 107::zq [21,22] 23 108::zq [23] 24 6::[]) [(_,_)] rfl ⟨z1 rfl,z4 rfl rfl,z8 hg14_2 rfl,zr' rfl (oM rfl),zr' rfl (oM rfl),zr' rfl (oB rfl rfl),z3 false rfl,z8 hg14_7 rfl,zf rfl,zf rfl,zf rfl,zf rfl,zu' rfl,zu' rfl,zu' rfl,zf rfl,z3 true rfl,z1 rfl,zr' rfl (op_call _ _ 25 _ _ rfl call25 rfl (ok_wherrylaw04_wakes  _ hv43) rfl rfl),z3 true rfl,z2 rfl,zz⟩ ?_
         exact hl47 _ (Option.some.inj h).symm
        ·refine cond_some h (fun hg14_11 h => ?_) (fun hg14_11 h => ?_)
         ·refine cond_some h (fun hg14_17 h => ?_) (fun hg14_17 h => ?_)
          ·obtain ⟨v44, hv44, h⟩ := bind_some h
           refine zg hn (_::_::_::_::(89,vi v41)::(90,vb (decide (v41 < 3)))::(91,vb false)::(92,vi v41)::(93,vi v10.1)::(94,vb (decide (v41 < v10.1)))::(95,vb (decide (v41 < v10.1)))::(96,vb false)::(97,vi v41)::(98,vi v10.1)::(99,vb (v41 == v10.1))::(100,vb true)::(101,vi v40)::(102,vi v10.2)::(103,vb (decide (v10.2 ≤ v40)))::(104,vb (decide (v10.2 ≤ v40)))::(105,vb (decide (v10.2 ≤ v40)))::(106,vb true)::(107,vb v44)::(108,vb v44)::(6,vb v44)::[]) [0,1,2,3] [24] (zq [3] 4 89::zq [4] 5 90::zq [5] 6 91::zq [6,3] 7 92::zq [6,0] 8 93::zq [6,7,8] 9 94::zq [6,9] 10 95::zq [10] 11 96::zq [11,3] 12 97::zq [11,0] 13 98::zq [11,12,13] 14 99::zq [11,14] 15 100::zq [15,2] 16 101::zq [15,1] 17 102::zq [15,16,17] 18 103::zq [11,15,18] 19 104::zq [11,19] 20 105::zq [20] 21 106::zq [21] 22 107::zq [21,22] 23 108::zq [23] 24 6::[]) [(_,_)] rfl ⟨z1 rfl,z4 rfl rfl,z8 hg14_2 rfl,zr' rfl (oM rfl),zr' rfl (oM rfl),zr' rfl (oB rfl rfl),z3 false rfl,z8 hg14_7 rfl,zr' rfl (oM rfl),zr' rfl (oM rfl),zr' rfl (oB rfl rfl),zr' rfl (op_move _ _ _ _ (zb hg14_11) rfl),zr' rfl (oM rfl),zr' rfl (oM rfl),zr' rfl (oB rfl rfl),zr' rfl (op_pick _ _ true _ rfl rfl),z3 false rfl,z8 hg14_17 rfl,zr' rfl (op_call _ _ 25 _ _ rfl call25 rfl (ok_wherrylaw04_wakes  _ hv44) rfl rfl),z3 true rfl,z2 rfl,zz⟩ ?_
           exact hl47 _ (Option.some.inj h).symm
          ·refine zg hn (_::_::_::_::(89,vi v41)::(90,vb (decide (v41 < 3)))::(91,vb false)::(92,vi v41)::(93,vi v10.1)::(94,vb (decide (v41 < v10.1)))::(95,vb (decide (v41 < v10.1)))::(96,vb false)::(97,vi v41)::(98,vi v10.1)::(99,vb (v41 == v10.1))::(100,vb true)::(101,vi v40)::(102,vi v10.2)::(103,vb (decide (v10.2 ≤ v40)))::(104,vb (decide (v10.2 ≤ v40)))::(105,vb (decide (v10.2 ≤ v40)))::(106,vb false)::(107,.v undef)::(108,vb false)::(6,vb false)::[]) [0,1,2,3] [24] (zq [3] 4 89::zq [4] 5 90::zq [5] 6 91::zq [6,3] 7 92::zq [6,0] 8 93::zq [6,7,8] 9 94::zq [6,9] 10 95::zq [10] 11 96::zq [11,3] 12 97::zq [11,0] 13 98::zq [11,12,13] 14 99::zq [11,14] 15 100::zq [15,2] 16 101::zq [15,1] 17 102::zq [15,16,17] 18 103::zq [11,15,18] 19 104::zq [11,19] 20 105::zq [20] 21 106::zq [21] 22 107::zq [21] 23 108::zq [23] 24 6::[]) [(_,_)] rfl ⟨z1 rfl,z4 rfl rfl,z8 hg14_2 rfl,zr' rfl (oM rfl),zr' rfl (oM rfl),zr' rfl (oB rfl rfl),z3 false rfl,z8 hg14_7 rfl,zr' rfl (oM rfl),zr' rfl (oM rfl),zr' rfl (oB rfl rfl),zr' rfl (op_move _ _ _ _ (zb hg14_11) rfl),zr' rfl (oM rfl),zr' rfl (oM rfl),zr' rfl (oB rfl rfl),zr' rfl (op_pick _ _ true _ rfl rfl),z3 false rfl,z8 hg14_17 rfl,zt rfl,z3 false rfl,z2 rfl,zz⟩ ?_
           exact hl47 _ (Option.some.inj h).symm
         ·refine zg hn (_::_::_::_::(89,vi v41)::(90,vb (decide (v41 < 3)))::(91,vb false)::(92,vi v41)::(93,vi v10.1)::(94,vb (decide (v41 < v10.1)))::(95,vb (decide (v41 < v10.1)))::(96,vb false)::(97,vi v41)::(98,vi v10.1)::(99,vb (v41 == v10.1))::(100,vb false)::(101,.v undef)::(102,.v undef)::(103,.v undef)::(104,vb false)::(105,vb false)::(106,vb false)::(107,.v undef)::(108,vb false)::(6,vb false)::[]) [0,1,2,3] [24] (zq [3] 4 89::zq [4] 5 90::zq [5] 6 91::zq [6,3] 7 92::zq [6,0] 8 93::zq [6,7,8] 9 94::zq [6,9] 10 95::zq [10] 11 96::zq [11,3] 12 97::zq [11,0] 13 98::zq [11,12,13] 14 99::zq [11,14] 15 100::zq [15] 16 101::zq [15] 17 102::zq [15] 18 103::zq [11,15] 19 104::zq [11,19] 20 105::zq [20] 21 106::zq [21] 22 107::zq [21] 23 108::zq [23] 24 6::[]) [(_,_)] rfl ⟨z1 rfl,z4 rfl rfl,z8 hg14_2 rfl,zr' rfl (oM rfl),zr' rfl (oM rfl),zr' rfl (oB rfl rfl),z3 false rfl,z8 hg14_7 rfl,zr' rfl (oM rfl),zr' rfl (oM rfl),zr' rfl (oB rfl rfl),zr' rfl (op_move _ _ _ _ (zb hg14_11) rfl),zt rfl,zt rfl,zt rfl,zr' rfl (op_pick _ _ false _ rfl rfl),z3 false rfl,z1 rfl,zt rfl,z3 false rfl,z2 rfl,zz⟩ ?_
          exact hl47 _ (Option.some.inj h).symm
    ·intro u20 h hl21 hr22
     refine zgg hn [_,_,_,_,_,(32,vi v10.1),(33,vb (v10.1 == 0))] [0,1,2,3,4] [0,1,2,3,4,6] [zq [3] 5 32,zq [5] 6 33] [(_,_),(_,_),(_,_),(_,_),(_,_),(_,_)] rfl ⟨z1 rfl,z4 rfl rfl,zz⟩ ?_
     refine ht_cond _ rfl (fun hb23 => ?_) (fun hb23 => ?_)
     ·have h := cond_t hb23 h
      refine zgg hn [_,_,_,_,_,_,(34,vi v10.2),(35,vb (v10.2 != 0))] [0,1,2,3,4,5] [0,1,2,3,4,7] [zq [4] 6 34,zq [6] 7 35] [(_,_),(_,_),(_,_),(_,_),(_,_),(_,_)] rfl ⟨z1 rfl,z4 rfl rfl,zz⟩ ?_
      refine ht_cond _ rfl (fun hb24 => ?_) (fun hb24 => ?_)
      ·have h := cond_t hb24 h
       refine zgg hn [_,_,_,_,_,_,(6,vb false)] [0,1,2,3,4,5] [6] [zq [] 6 6] [(_,_)] rfl ⟨z2 rfl,zz⟩ ?_
       refine ht_ret ?_
       refine pt_r_then ?_
       have h := hr22 _ (Option.some.inj h).symm
       obtain rfl := Option.some.inj h
       exact pt_ret hio rfl (.tmp _ _ .nil) rfl rfl
      ·have h := cond_f hb24 h
       refine ht_skip ?_
       refine pt_pick [0, 1, 2, 3, 4] (by kernel_rfl) (es' := [(_,_),(_,_),(_,_),(_,_),(_,_)]) rfl ?_
       exact hl21 _ (Option.some.inj h).symm
     ·have h := cond_f hb23 h
      refine ht_seq ?_
      refine ht_joinS h (fun (s25 : Bool) => [(0, .fl .shr 1 (List.map (Value.int .u8) b)), (2, .v (.int .i64 other)), (1, .v (.int .i64 v9)), (7, .v (.int .i64 v10.1)), (8, .v (.int .i64 v10.2)), (70, .v (.bool s25))]) ?_ ?_
      ·rintro s25 h
       refine pt_then ?_
       refine ht_cond _ rfl (fun hb29 => ?_) (fun hb29 => ?_)
       ·have h := cond_t hb29 h
        refine zgg hn [_,_,_,_,_,_,(6,vb false)] [0,1,2,3,4,5] [6] [zq [] 6 6] [(_,_)] rfl ⟨z2 rfl,zz⟩ ?_
        refine ht_ret ?_
        refine pt_r_then ?_
        have h := hr22 _ (Option.some.inj h).symm
        obtain rfl := Option.some.inj h
        exact pt_ret hio rfl (.tmp _ _ .nil) rfl rfl
       ·have h := cond_f hb29 h
        refine ht_skip ?_
        refine pt_pick [0, 1, 2, 3, 4] (by kernel_rfl) (es' := [(_,_),(_,_),(_,_),(_,_),(_,_)]) rfl ?_
        exact hl21 _ (Option.some.inj h).symm
      ·intro u26 h hl27 hr28
       refine cond_some h (fun hg8_2 h => ?_) (fun hg8_2 h => ?_)
       ·refine zg hn (_::_::_::_::_::_::(36,vi v10.1)::(37,vb (decide (v10.1 < 3)))::(38,vb true)::(39,.v undef)::(40,.v undef)::(41,vb true)::(42,vb true)::(43,.v undef)::(44,.v undef)::(45,vb true)::(46,vb true)::(47,.v undef)::(48,.v undef)::(49,.v undef)::(50,vb true)::(51,vb true)::(52,.v undef)::(53,.v undef)::(54,vb true)::(55,vb true)::(56,.v undef)::(57,.v undef)::(58,.v undef)::(59,.v undef)::(60,.v undef)::(61,.v undef)::(62,vb true)::(63,vb true)::(64,.v undef)::(65,.v undef)::(66,.v undef)::(67,.v undef)::(68,.v undef)::(69,.v undef)::(70,vb true)::[]) [0,1,2,3,4,5] [0,1,2,3,4,40] (zq [3] 6 36::zq [6] 7 37::zq [7] 8 38::zq [8] 9 39::zq [8] 10 40::zq [8] 11 41::zq [11] 12 42::zq [12] 13 43::zq [12] 14 44::zq [12] 15 45::zq [15] 16 46::zq [16] 17 47::zq [16] 18 48::zq [16] 19 49::zq [16] 20 50::zq [20] 21 51::zq [21] 22 52::zq [21] 23 53::zq [21] 24 54::zq [24] 25 55::zq [25] 26 56::zq [25] 27 57::zq [25] 28 58::zq [25] 29 59::zq [25] 30 60::zq [25] 31 61::zq [25] 32 62::zq [32] 33 63::zq [33] 34 64::zq [33] 35 65::zq [33] 36 66::zq [33] 37 67::zq [33] 38 68::zq [33] 39 69::zq [33] 40 70::[]) [(_,_),(_,_),(_,_),(_,_),(_,_),(_,_)] rfl ⟨z1 rfl,z4 rfl rfl,z8 hg8_2 rfl,zf rfl,zf rfl,z3 true rfl,z1 rfl,zf rfl,zf rfl,z3 true rfl,z1 rfl,zf rfl,zf rfl,zf rfl,z3 true rfl,z1 rfl,zf rfl,zf rfl,z3 true rfl,z1 rfl,zf rfl,zf rfl,zf rfl,zf rfl,zf rfl,zf rfl,z3 true rfl,z1 rfl,zf rfl,zf rfl,zf rfl,zf rfl,zf rfl,zf rfl,z3 true rfl,zz⟩ ?_
        exact hl27 _ (Option.some.inj h).symm
       ·refine cond_some h (fun hg8_6 h => ?_) (fun hg8_6 h => ?_)
        ·refine zg hn (_::_::_::_::_::_::(36,vi v10.1)::(37,vb (decide (v10.1 < 3)))::(38,vb false)::(39,vi v10.1)::(40,vb (decide (258 < v10.1)))::(41,vb (decide (258 < v10.1)))::(42,vb true)::(43,.v undef)::(44,.v undef)::(45,vb true)::(46,vb true)::(47,.v undef)::(48,.v undef)::(49,.v undef)::(50,vb true)::(51,vb true)::(52,.v undef)::(53,.v undef)::(54,vb true)::(55,vb true)::(56,.v undef)::(57,.v undef)::(58,.v undef)::(59,.v undef)::(60,.v undef)::(61,.v undef)::(62,vb true)::(63,vb true)::(64,.v undef)::(65,.v undef)::(66,.v undef)::(67,.v undef)::(68,.v undef)::(69,.v undef)::(70,vb true)::[]) [0,1,2,3,4,5] [0,1,2,3,4,40] (zq [3] 6 36::zq [6] 7 37::zq [7] 8 38::zq [8,3] 9 39::zq [8,9] 10 40::zq [8,10] 11 41::zq [11] 12 42::zq [12] 13 43::zq [12] 14 44::zq [12] 15 45::zq [15] 16 46::zq [16] 17 47::zq [16] 18 48::zq [16] 19 49::zq [16] 20 50::zq [20] 21 51::zq [21] 22 52::zq [21] 23 53::zq [21] 24 54::zq [24] 25 55::zq [25] 26 56::zq [25] 27 57::zq [25] 28 58::zq [25] 29 59::zq [25] 30 60::zq [25] 31 61::zq [25] 32 62::zq [32] 33 63::zq [33] 34 64::zq [33] 35 65::zq [33] 36 66::zq [33] 37 67::zq [33] 38 68::zq [33] 39 69::zq [33] 40 70::[]) [(_,_),(_,_),(_,_),(_,_),(_,_),(_,_)] rfl ⟨z1 rfl,z4 rfl rfl,z8 hg8_2 rfl,zr' rfl (oM rfl),zr' rfl (oB rfl rfl),z3 false rfl,z8 hg8_6 rfl,zf rfl,zf rfl,z3 true rfl,z1 rfl,zf rfl,zf rfl,zf rfl,z3 true rfl,z1 rfl,zf rfl,zf rfl,z3 true rfl,z1 rfl,zf rfl,zf rfl,zf rfl,zf rfl,zf rfl,zf rfl,z3 true rfl,z1 rfl,zf rfl,zf rfl,zf rfl,zf rfl,zf rfl,zf rfl,z3 true rfl,zz⟩ ?_
         exact hl27 _ (Option.some.inj h).symm
        ·refine cond_some h (fun hg8_10 h => ?_) (fun hg8_10 h => ?_)
         ·refine zg hn (_::_::_::_::_::_::(36,vi v10.1)::(37,vb (decide (v10.1 < 3)))::(38,vb false)::(39,vi v10.1)::(40,vb (decide (258 < v10.1)))::(41,vb (decide (258 < v10.1)))::(42,vb false)::(43,vi v10.2)::(44,vb (decide (v10.2 < 1)))::(45,vb (decide (v10.2 < 1)))::(46,vb true)::(47,.v undef)::(48,.v undef)::(49,.v undef)::(50,vb true)::(51,vb true)::(52,.v undef)::(53,.v undef)::(54,vb true)::(55,vb true)::(56,.v undef)::(57,.v undef)::(58,.v undef)::(59,.v undef)::(60,.v undef)::(61,.v undef)::(62,vb true)::(63,vb true)::(64,.v undef)::(65,.v undef)::(66,.v undef)::(67,.v undef)::(68,.v undef)::(69,.v undef)::(70,vb true)::[]) [0,1,2,3,4,5] [0,1,2,3,4,40] (zq [3] 6 36::zq [6] 7 37::zq [7] 8 38::zq [8,3] 9 39::zq [8,9] 10 40::zq [8,10] 11 41::zq [11] 12 42::zq [12,4] 13 43::zq [12,13] 14 44::zq [12,14] 15 45::zq [15] 16 46::zq [16] 17 47::zq [16] 18 48::zq [16] 19 49::zq [16] 20 50::zq [20] 21 51::zq [21] 22 52::zq [21] 23 53::zq [21] 24 54::zq [24] 25 55::zq [25] 26 56::zq [25] 27 57::zq [25] 28 58::zq [25] 29 59::zq [25] 30 60::zq [25] 31 61::zq [25] 32 62::zq [32] 33 63::zq [33] 34 64::zq [33] 35 65::zq [33] 36 66::zq [33] 37 67::zq [33] 38 68::zq [33] 39 69::zq [33] 40 70::[]) [(_,_),(_,_),(_,_),(_,_),(_,_),(_,_)] rfl ⟨z1 rfl,z4 rfl rfl,z8 hg8_2 rfl,zr' rfl (oM rfl),zr' rfl (oB rfl rfl),z3 false rfl,z8 hg8_6 rfl,zr' rfl (oM rfl),zr' rfl (oB rfl rfl),z3 false rfl,z8 hg8_10 rfl,zf rfl,zf rfl,zf rfl,z3 true rfl,z1 rfl,zf rfl,zf rfl,z3 true rfl,z1 rfl,zf rfl,zf rfl,zf rfl,zf rfl,zf rfl,zf rfl,z3 true rfl,z1 rfl,zf rfl,zf rfl,zf rfl,zf rfl,zf rfl,zf rfl,z3 true rfl,zz⟩ ?_
          exact hl27 _ (Option.some.inj h).symm
         ·refine cond_some h (fun hg8_15 h => ?_) (fun hg8_15 h => ?_)
          ·refine zg hn (_::_::_::_::_::_::(36,vi v10.1)::(37,vb (decide (v10.1 < 3)))::(38,vb false)::(39,vi v10.1)::(40,vb (decide (258 < v10.1)))::(41,vb (decide (258 < v10.1)))::(42,vb false)::(43,vi v10.2)::(44,vb (decide (v10.2 < 1)))::(45,vb (decide (v10.2 < 1)))::(46,vb false)::(47,vi v10.2)::(48,vi v9)::(49,vb (decide (v9 < v10.2)))::(50,vb (decide (v9 < v10.2)))::(51,vb true)::(52,.v undef)::(53,.v undef)::(54,vb true)::(55,vb true)::(56,.v undef)::(57,.v undef)::(58,.v undef)::(59,.v undef)::(60,.v undef)::(61,.v undef)::(62,vb true)::(63,vb true)::(64,.v undef)::(65,.v undef)::(66,.v undef)::(67,.v undef)::(68,.v undef)::(69,.v undef)::(70,vb true)::[]) [0,1,2,3,4,5] [0,1,2,3,4,40] (zq [3] 6 36::zq [6] 7 37::zq [7] 8 38::zq [8,3] 9 39::zq [8,9] 10 40::zq [8,10] 11 41::zq [11] 12 42::zq [12,4] 13 43::zq [12,13] 14 44::zq [12,14] 15 45::zq [15] 16 46::zq [16,4] 17 47::zq [16,2] 18 48::zq [16,17,18] 19 49::zq [16,19] 20 50::zq [20] 21 51::zq [21] 22 52::zq [21] 23 53::zq [21] 24 54::zq [24] 25 55::zq [25] 26 56::zq [25] 27 57::zq [25] 28 58::zq [25] 29 59::zq [25] 30 60::zq [25] 31 61::zq [25] 32 62::zq [32] 33 63::zq [33] 34 64::zq [33] 35 65::zq [33] 36 66::zq [33] 37 67::zq [33] 38 68::zq [33] 39 69::zq [33] 40 70::[]) [(_,_),(_,_),(_,_),(_,_),(_,_),(_,_)] rfl ⟨z1 rfl,z4 rfl rfl,z8 hg8_2 rfl,zr' rfl (oM rfl),zr' rfl (oB rfl rfl),z3 false rfl,z8 hg8_6 rfl,zr' rfl (oM rfl),zr' rfl (oB rfl rfl),z3 false rfl,z8 hg8_10 rfl,zr' rfl (oM rfl),zr' rfl (oM rfl),zr' rfl (oB rfl rfl),z3 false rfl,z8 hg8_15 rfl,zf rfl,zf rfl,z3 true rfl,z1 rfl,zf rfl,zf rfl,zf rfl,zf rfl,zf rfl,zf rfl,z3 true rfl,z1 rfl,zf rfl,zf rfl,zf rfl,zf rfl,zf rfl,zf rfl,z3 true rfl,zz⟩ ?_
           exact hl27 _ (Option.some.inj h).symm
          ·refine cond_some h (fun hg8_19 h => ?_) (fun hg8_19 h => ?_)
           ·refine zg hn (_::_::_::_::_::_::(36,vi v10.1)::(37,vb (decide (v10.1 < 3)))::(38,vb false)::(39,vi v10.1)::(40,vb (decide (258 < v10.1)))::(41,vb (decide (258 < v10.1)))::(42,vb false)::(43,vi v10.2)::(44,vb (decide (v10.2 < 1)))::(45,vb (decide (v10.2 < 1)))::(46,vb false)::(47,vi v10.2)::(48,vi v9)::(49,vb (decide (v9 < v10.2)))::(50,vb (decide (v9 < v10.2)))::(51,vb false)::(52,vi v10.2)::(53,vb (decide (2048 < v10.2)))::(54,vb (decide (2048 < v10.2)))::(55,vb true)::(56,.v undef)::(57,.v undef)::(58,.v undef)::(59,.v undef)::(60,.v undef)::(61,.v undef)::(62,vb true)::(63,vb true)::(64,.v undef)::(65,.v undef)::(66,.v undef)::(67,.v undef)::(68,.v undef)::(69,.v undef)::(70,vb true)::[]) [0,1,2,3,4,5] [0,1,2,3,4,40] (zq [3] 6 36::zq [6] 7 37::zq [7] 8 38::zq [8,3] 9 39::zq [8,9] 10 40::zq [8,10] 11 41::zq [11] 12 42::zq [12,4] 13 43::zq [12,13] 14 44::zq [12,14] 15 45::zq [15] 16 46::zq [16,4] 17 47::zq [16,2] 18 48::zq [16,17,18] 19 49::zq [16,19] 20 50::zq [20] 21 51::zq [21,4] 22 52::zq [21,22] 23 53::zq [21,23] 24 54::zq [24] 25 55::zq [25] 26 56::zq [25] 27 57::zq [25] 28 58::zq [25] 29 59::zq [25] 30 60::zq [25] 31 61::zq [25] 32 62::zq [32] 33 63::zq [33] 34 64::zq [33] 35 65::zq [33] 36 66::zq [33] 37 67::zq [33] 38 68::zq [33] 39 69::zq [33] 40 70::[]) [(_,_),(_,_),(_,_),(_,_),(_,_),(_,_)] rfl ⟨z1 rfl,z4 rfl rfl,z8 hg8_2 rfl,zr' rfl (oM rfl),zr' rfl (oB rfl rfl),z3 false rfl,z8 hg8_6 rfl,zr' rfl (oM rfl),zr' rfl (oB rfl rfl),z3 false rfl,z8 hg8_10 rfl,zr' rfl (oM rfl),zr' rfl (oM rfl),zr' rfl (oB rfl rfl),z3 false rfl,z8 hg8_15 rfl,zr' rfl (oM rfl),zr' rfl (oB rfl rfl),z3 false rfl,z8 hg8_19 rfl,zf rfl,zf rfl,zf rfl,zf rfl,zf rfl,zf rfl,z3 true rfl,z1 rfl,zf rfl,zf rfl,zf rfl,zf rfl,zf rfl,zf rfl,z3 true rfl,zz⟩ ?_
            exact hl27 _ (Option.some.inj h).symm
           ·obtain ⟨v13, hv13, h⟩ := bind_some h
            refine cond_some h (fun hg8_27 h => ?_) (fun hg8_27 h => ?_)
            ·refine zg hn (_::_::_::_::_::_::(36,vi v10.1)::(37,vb (decide (v10.1 < 3)))::(38,vb false)::(39,vi v10.1)::(40,vb (decide (258 < v10.1)))::(41,vb (decide (258 < v10.1)))::(42,vb false)::(43,vi v10.2)::(44,vb (decide (v10.2 < 1)))::(45,vb (decide (v10.2 < 1)))::(46,vb false)::(47,vi v10.2)::(48,vi v9)::(49,vb (decide (v9 < v10.2)))::(50,vb (decide (v9 < v10.2)))::(51,vb false)::(52,vi v10.2)::(53,vb (decide (2048 < v10.2)))::(54,vb (decide (2048 < v10.2)))::(55,vb false)::(56,vi v9)::(57,vi v10.1)::(58,vi v13)::(59,.fl .shr 1 (List.map (Value.int .u8) b))::(60,vi (b.length : Int))::(61,vb (decide ((b.length : Int) < v13)))::(62,vb (decide ((b.length : Int) < v13)))::(63,vb true)::(64,.v undef)::(65,.v undef)::(66,.v undef)::(67,.v undef)::(68,.v undef)::(69,.v undef)::(70,vb true)::[]) [0,1,2,3,4,5] [0,1,2,3,4,40] (zq [3] 6 36::zq [6] 7 37::zq [7] 8 38::zq [8,3] 9 39::zq [8,9] 10 40::zq [8,10] 11 41::zq [11] 12 42::zq [12,4] 13 43::zq [12,13] 14 44::zq [12,14] 15 45::zq [15] 16 46::zq [16,4] 17 47::zq [16,2] 18 48::zq [16,17,18] 19 49::zq [16,19] 20 50::zq [20] 21 51::zq [21,4] 22 52::zq [21,22] 23 53::zq [21,23] 24 54::zq [24] 25 55::zq [25,2] 26 56::zq [25,3] 27 57::zq [25,26,27] 28 58::zq [25,0] 29 59::zq [25,29] 30 60::zq [25,28,30] 31 61::zq [25,31] 32 62::zq [32] 33 63::zq [33] 34 64::zq [33] 35 65::zq [33] 36 66::zq [33] 37 67::zq [33] 38 68::zq [33] 39 69::zq [33] 40 70::[]) [(_,_),(_,_),(_,_),(_,_),(_,_),(_,_)] rfl ⟨z1 rfl,z4 rfl rfl,z8 hg8_2 rfl,zr' rfl (oM rfl),zr' rfl (oB rfl rfl),z3 false rfl,z8 hg8_6 rfl,zr' rfl (oM rfl),zr' rfl (oB rfl rfl),z3 false rfl,z8 hg8_10 rfl,zr' rfl (oM rfl),zr' rfl (oM rfl),zr' rfl (oB rfl rfl),z3 false rfl,z8 hg8_15 rfl,zr' rfl (oM rfl),zr' rfl (oB rfl rfl),z3 false rfl,z8 hg8_19 rfl,zr' rfl (oM rfl),zr' rfl (oM rfl),zr' rfl (oB rfl (ibind (f := Value.int .i64) (Option.some.inj hv13))),zr' rfl (oM rfl),zr' rfl (op_len_fl _ _ _ underlying22 rfl (by decide) (map_len _)),zr' rfl (oB rfl rfl),z3 false rfl,z8 hg8_27 rfl,zf rfl,zf rfl,zf rfl,zf rfl,zf rfl,zf rfl,z3 true rfl,zz⟩ ?_
             exact hl27 _ (Option.some.inj h).symm
            ·obtain ⟨v14, hv14, h⟩ := bind_some h
             refine zg hn (_::_::_::_::_::_::(36,vi v10.1)::(37,vb (decide (v10.1 < 3)))::(38,vb false)::(39,vi v10.1)::(40,vb (decide (258 < v10.1)))::(41,vb (decide (258 < v10.1)))::(42,vb false)::(43,vi v10.2)::(44,vb (decide (v10.2 < 1)))::(45,vb (decide (v10.2 < 1)))::(46,vb false)::(47,vi v10.2)::(48,vi v9)::(49,vb (decide (v9 < v10.2)))::(50,vb (decide (v9 < v10.2)))::(51,vb false)::(52,vi v10.2)::(53,vb (decide (2048 < v10.2)))::(54,vb (decide (2048 < v10.2)))::(55,vb false)::(56,vi v9)::(57,vi v10.1)::(58,vi v13)::(59,.fl .shr 1 (List.map (Value.int .u8) b))::(60,vi (b.length : Int))::(61,vb (decide ((b.length : Int) < v13)))::(62,vb (decide ((b.length : Int) < v13)))::(63,vb false)::(64,.fl .shr 1 (List.map (Value.int .u8) b))::(65,vi v9)::(66,vi v10.2)::(67,vi v14)::(68,vi v10.1)::(69,vb (decide (v14 < v10.1)))::(70,vb (decide (v14 < v10.1)))::[]) [0,1,2,3,4,5] [0,1,2,3,4,40] (zq [3] 6 36::zq [6] 7 37::zq [7] 8 38::zq [8,3] 9 39::zq [8,9] 10 40::zq [8,10] 11 41::zq [11] 12 42::zq [12,4] 13 43::zq [12,13] 14 44::zq [12,14] 15 45::zq [15] 16 46::zq [16,4] 17 47::zq [16,2] 18 48::zq [16,17,18] 19 49::zq [16,19] 20 50::zq [20] 21 51::zq [21,4] 22 52::zq [21,22] 23 53::zq [21,23] 24 54::zq [24] 25 55::zq [25,2] 26 56::zq [25,3] 27 57::zq [25,26,27] 28 58::zq [25,0] 29 59::zq [25,29] 30 60::zq [25,28,30] 31 61::zq [25,31] 32 62::zq [32] 33 63::zq [33,0] 34 64::zq [33,2] 35 65::zq [33,4] 36 66::zq [33,34,35,36] 37 67::zq [33,3] 38 68::zq [33,37,38] 39 69::zq [33,39] 40 70::[]) [(_,_),(_,_),(_,_),(_,_),(_,_),(_,_)] rfl ⟨z1 rfl,z4 rfl rfl,z8 hg8_2 rfl,zr' rfl (oM rfl),zr' rfl (oB rfl rfl),z3 false rfl,z8 hg8_6 rfl,zr' rfl (oM rfl),zr' rfl (oB rfl rfl),z3 false rfl,z8 hg8_10 rfl,zr' rfl (oM rfl),zr' rfl (oM rfl),zr' rfl (oB rfl rfl),z3 false rfl,z8 hg8_15 rfl,zr' rfl (oM rfl),zr' rfl (oB rfl rfl),z3 false rfl,z8 hg8_19 rfl,zr' rfl (oM rfl),zr' rfl (oM rfl),zr' rfl (oB rfl (ibind (f := Value.int .i64) (Option.some.inj hv13))),zr' rfl (oM rfl),zr' rfl (op_len_fl _ _ _ underlying22 rfl (by decide) (map_len _)),zr' rfl (oB rfl rfl),z3 false rfl,z8 hg8_27 rfl,zr' rfl (oM rfl),zr' rfl (oM rfl),zr' rfl (oM rfl),zr' rfl (op_call _ _ 26 _ _ rfl call26 rfl (ok_wherrylaw04_same b v9 v10.2 _ hv14) rfl rfl),zr' rfl (oM rfl),zr' rfl (oB rfl rfl),z3 false rfl,zz⟩ ?_
             exact hl27 _ (Option.some.inj h).symm
  ·intro u2 h hl3 hr4
   refine cond_some h (fun hg1_3 h => ?_) (fun hg1_3 h => ?_)
   ·refine zg hn [_,_,_,(11,.fl .shr 1 (List.map (Value.int .u8) b)),(12,vi (b.length : Int)),(13,vb (decide (1200 < (b.length : Int)))),(14,vb true),(15,.v undef),(16,.v undef),(17,.v undef),(18,vb true)] [0,1,2] [0,1,2,10] [zq [0] 3 11,zq [3] 4 12,zq [4] 5 13,zq [5] 6 14,zq [6] 7 15,zq [6] 8 16,zq [6] 9 17,zq [6] 10 18] [(_,_),(_,_),(_,_),(_,_)] rfl ⟨z1 rfl,zp rfl (op_len_fl _ _ _ underlying22 rfl (by decide) (map_len _)),z4 rfl rfl,z8 hg1_3 rfl,zf rfl,zf rfl,zf rfl,z3 true rfl,zz⟩ ?_
    exact hl3 _ (Option.some.inj h).symm
   ·refine zg hn [_,_,_,(11,.fl .shr 1 (List.map (Value.int .u8) b)),(12,vi (b.length : Int)),(13,vb (decide (1200 < (b.length : Int)))),(14,vb false),(15,.fl .shr 1 (List.map (Value.int .u8) b)),(16,vi (b.length : Int)),(17,vb ((b.length : Int) == 0)),(18,vb ((b.length : Int) == 0))] [0,1,2] [0,1,2,10] [zq [0] 3 11,zq [3] 4 12,zq [4] 5 13,zq [5] 6 14,zq [6,0] 7 15,zq [6,7] 8 16,zq [6,8] 9 17,zq [6,9] 10 18] [(_,_),(_,_),(_,_),(_,_)] rfl ⟨z1 rfl,zp rfl (op_len_fl _ _ _ underlying22 rfl (by decide) (map_len _)),z4 rfl rfl,z8 hg1_3 rfl,zr' rfl (oM rfl),zr' rfl (op_len_fl _ _ _ underlying22 rfl (by decide) (map_len _)),zr' rfl (oB rfl rfl),z3 false rfl,zz⟩ ?_
    exact hl3 _ (Option.some.inj h).symm

end Go.Proofs.Ytepkcpjfogjfhaa
