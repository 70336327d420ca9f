/-
  The model's runs are what is told in Lean.
-/
import Derived.Test.YtepkcpjfogjfhaaProg
import Derived.KernelRfl
import Derived.Test.YtepkcpjfogjfhaaB2
import Derived.Test.YtepkcpjfogjfhaaOkc1
set_option linter.unusedVariables false
set_option linter.unusedSimpArgs false
set_option maxHeartbeats 1000000
namespace Go.Proofs.Ytepkcpjfogjfhaa
open Go.Abs Go.Abs.Sh Try

theorem ok_wherrylaw04_MatchExpands (a : (List Int)) (b : (List Int)) (r : Bool) (h : Sh.wherrylaw04_MatchExpands a b = some r) : FnOK Try.prog 11 [.fl .shr 1 (List.map (Value.int .u8) a), .fl .shr 1 (List.map (Value.int .u8) b)] (.v (.bool r)) := by
  unfold Sh.wherrylaw04_MatchExpands at h
  refine fn_ok func11 rfl (zl rfl) rfl rfl fun g0 hn hio => ?_
  refine zgg hn [_,_,(4,vb false)] [0,1] [0,1] [zq [] 2 4] [(_,_),(_,_)] rfl ⟨z2 rfl,zz⟩ ?_
  refine ht_seq ?_
  refine ht_seq ?_
  refine ht_joinS h (fun (s1 : Bool) => [(0, .fl .shr 1 (List.map (Value.int .u8) a)), (1, .fl .shr 1 (List.map (Value.int .u8) b)), (15, .v (.bool s1))]) ?_ ?_
  ·rintro s1 h
   refine pt_then ?_
   refine ht_cond _ rfl (fun hb5 => ?_) (fun hb5 => ?_)
   ·have h := cond_t hb5 h
    refine zgg hn [_,_,_,(4,vb true)] [0,1,2] [3] [zq [] 3 4] [(_,_)] rfl ⟨z2 rfl,zz⟩ ?_
    refine ht_ret ?_
    refine pt_r_then ?_
    obtain rfl := Option.some.inj h
    exact pt_ret hio rfl (.tmp _ _ .nil) rfl rfl
   ·have h := cond_f hb5 h
    refine ht_skip ?_
    refine pt_then (ht_seq ?_)
    obtain ⟨v6, hv6, h⟩ := bind_some h
    obtain ⟨v7, hv7, h⟩ := bind_some h
    obtain ⟨v8, hv8, h⟩ := bind_some h
    refine zg hn [_,_,_,(16,.fl .shr 1 (List.map (Value.int .u8) a)),(17,.fl (.own 40) 3 (List.flatten (List.map T_Tok.enc v6))),(18,.fl .shr 1 (List.map (Value.int .u8) b)),(19,.fl (.own 40) 3 (List.flatten (List.map T_Tok.enc v7))),(20,.fl (.own 40) 3 (List.flatten (List.map T_Tok.enc v8))),(17,.any),(5,.fl (.own 40) 3 (List.flatten (List.map T_Tok.enc v8)))] [0,1,2] [0,1,9] [zq [0] 3 16,zq [3] 4 17,zq [1] 5 18,zq [5] 6 19,⟨[6],[4],[8,7],[(.slot 20)]⟩,⟨[],[7],[9],[(.slot 5)]⟩] [(_,_),(_,_),(_,_)] rfl ⟨z1 rfl,zp rfl (op_call _ _ 27 _ _ rfl call27 rfl (ok_wherrylaw04_wherryToks a _ hv6) rfl rfl),z1 rfl,zp rfl (op_call _ _ 27 _ _ rfl call27 rfl (ok_wherrylaw04_wherryToks b _ hv7) rfl rfl),zp rfl (op_app _ _ _ _ _ el23 rfl rfl (flat_len T_Tok.len _) (flat_len T_Tok.len _) hv8 (flat_app (app_eq hv8))),zp rfl (op_assign_take _ _ _ _ rfl),zz⟩ ?_
    refine pt_then (ht_seq ?_)
    obtain ⟨v9, hv9, h⟩ := bind_some h
    refine zg hn [_,_,_,(22,.same (.slot 5)),(23,.tup [.fl (.own 5) 1 (List.map (Value.int .u8) v9.1),vi v9.2]),(21,.tup [.fl (.own 5) 1 (List.map (Value.int .u8) v9.1),vi v9.2]),(24,.fl (.own 5) 1 (List.map (Value.int .u8) v9.1)),(21,.tup [.any,vi v9.2]),(25,vi v9.2),(6,.fl (.own 5) 1 (List.map (Value.int .u8) v9.1)),(7,vi v9.2)] [0,1,2] [0,1,2,9,10] [zq [2] 3 22,zq [3,2] 4 23,⟨[],[4],[5],[(.slot 21)]⟩,⟨[],[5],[7,6],[(.slot 24)]⟩,zq [7] 8 25,⟨[],[6],[9],[(.slot 6)]⟩,zq [8] 10 7] [(_,_),(_,_),(_,_),(_,_),(_,_)] rfl ⟨z1 rfl,zp rfl (op_call _ _ 18 _ _ rfl call18 rfl (ok_match_Expand v8 _ hv9) rfl rfl),zp rfl (op_move_take _ _ _ _ rfl),zp rfl (op_extract_take _ _ _ _ _ rfl (zl rfl) rfl rfl (by decide) rfl),zp rfl (oE rfl),zp rfl (op_assign_take _ _ _ _ rfl),z2 rfl,zz⟩ ?_
    refine pt_then (ht_seq ?_)
    refine ht_joinS h (fun (s15 : Bool) => [(4, .v (.bool s15))]) ?_ ?_
    ·rintro s15 h
     refine pt_then (ht_ret ?_)
     obtain rfl := Option.some.inj h
     exact pt_ret hio rfl (.tmp _ _ .nil) rfl rfl
    ·intro u16 h hl17 hr18
     refine cond_some h (fun hg5_2 h => ?_) (fun hg5_2 h => ?_)
     ·obtain ⟨v10, hv10, h⟩ := bind_some h
      refine cond_some h (fun hg5_7 h => ?_) (fun hg5_7 h => ?_)
      ·obtain ⟨v11, hv11, h⟩ := bind_some h
       obtain ⟨v12, hv12, h⟩ := bind_some h
       obtain ⟨v13, hv13, h⟩ := bind_some h
       refine cond_some h (fun hg5_15 h => ?_) (fun hg5_15 h => ?_)
       ·obtain ⟨v14, hv14, h⟩ := bind_some h
        refine zg hn (_::_::_::_::_::(26,vi v9.2)::(27,vb (v9.2 == 0))::(28,vb true)::(29,.fl (.own 40) 3 (List.flatten (List.map T_Tok.enc v8)))::(30,vi v10)::(31,vb (v10 == 0))::(32,vb (v10 == 0))::(33,vb true)::(34,.fl (.own 5) 1 (List.map (Value.int .u8) v9.1))::(35,.fl .shr 1 (List.map (Value.int .u8) a))::(36,.fl (.own 5) 1 (List.map (Value.int .u8) v11))::(37,.fl .shr 1 (List.map (Value.int .u8) b))::(38,.fl (.own 5) 1 (List.map (Value.int .u8) v12))::(36,.any)::(39,vb v13)::(40,vb v13)::(41,vb true)::(42,vb v14)::(43,vb v14)::(4,vb v14)::[]) [0,1,2,3,4] [24] (zq [4] 5 26::zq [5] 6 27::zq [6] 7 28::⟨[7],[2],[8],[(.slot 29)]⟩::zq [7,8] 9 30::zq [7,9] 10 31::zq [7,10] 11 32::zq [11] 12 33::⟨[12],[3],[13],[(.slot 34)]⟩::zq [12,0] 14 35::zq [12,14] 15 36::zq [12,1] 16 37::⟨[12,16],[15],[18,17],[(.slot 38)]⟩::zq [12,13,17] 19 39::zq [12,19] 20 40::zq [20] 21 41::zq [21] 22 42::zq [21,22] 23 43::zq [23] 24 4::[]) [(_,_)] rfl ⟨z1 rfl,z4 rfl rfl,z8 hg5_2 rfl,zr' rfl (op_move_take _ _ _ _ rfl),zr' rfl (op_call _ _ 22 _ _ rfl call22 rfl (ok_match_Check v8 _ hv10) rfl rfl),zr' rfl (oB rfl rfl),z3 true rfl,z8 hg5_7 rfl,zr' rfl (op_move_take _ _ _ _ rfl),zr' rfl (oM rfl),zr' rfl (op_call _ _ 12 _ _ rfl call12 rfl (ok_wherrykeep_Twin a _ hv11) rfl rfl),zr' rfl (oM rfl),zr' rfl (op_app _ _ _ _ _ el22 rfl rfl (map_len _) (map_len _) hv12 ((List.map_append).symm.trans (congrArg (List.map _) (app_eq hv12)))),zr' rfl (op_call _ _ 21 _ _ rfl call21 rfl (ok_wherrykeep_Bytes v9.1 v12 _ hv13) rfl rfl),z3 true rfl,z8 hg5_15 rfl,zr' rfl (op_call _ _ 25 _ _ rfl call25 rfl (ok_wherrylaw04_wakes  _ hv14) rfl rfl),z3 true rfl,z2 rfl,zz⟩ ?_
        exact hl17 _ (Option.some.inj h).symm
       ·refine zg hn (_::_::_::_::_::(26,vi v9.2)::(27,vb (v9.2 == 0))::(28,vb true)::(29,.fl (.own 40) 3 (List.flatten (List.map T_Tok.enc v8)))::(30,vi v10)::(31,vb (v10 == 0))::(32,vb (v10 == 0))::(33,vb true)::(34,.fl (.own 5) 1 (List.map (Value.int .u8) v9.1))::(35,.fl .shr 1 (List.map (Value.int .u8) a))::(36,.fl (.own 5) 1 (List.map (Value.int .u8) v11))::(37,.fl .shr 1 (List.map (Value.int .u8) b))::(38,.fl (.own 5) 1 (List.map (Value.int .u8) v12))::(36,.any)::(39,vb v13)::(40,vb v13)::(41,vb false)::(42,.v undef)::(43,vb false)::(4,vb false)::[]) [0,1,2,3,4] [24] (zq [4] 5 26::zq [5] 6 27::zq [6] 7 28::⟨[7],[2],[8],[(.slot 29)]⟩::zq [7,8] 9 30::zq [7,9] 10 31::zq [7,10] 11 32::zq [11] 12 33::⟨[12],[3],[13],[(.slot 34)]⟩::zq [12,0] 14 35::zq [12,14] 15 36::zq [12,1] 16 37::⟨[12,16],[15],[18,17],[(.slot 38)]⟩::zq [12,13,17] 19 39::zq [12,19] 20 40::zq [20] 21 41::zq [21] 22 42::zq [21] 23 43::zq [23] 24 4::[]) [(_,_)] rfl ⟨z1 rfl,z4 rfl rfl,z8 hg5_2 rfl,zr' rfl (op_move_take _ _ _ _ rfl),zr' rfl (op_call _ _ 22 _ _ rfl call22 rfl (ok_match_Check v8 _ hv10) rfl rfl),zr' rfl (oB rfl rfl),z3 true rfl,z8 hg5_7 rfl,zr' rfl (op_move_take _ _ _ _ rfl),zr' rfl (oM rfl),zr' rfl (op_call _ _ 12 _ _ rfl call12 rfl (ok_wherrykeep_Twin a _ hv11) rfl rfl),zr' rfl (oM rfl),zr' rfl (op_app _ _ _ _ _ el22 rfl rfl (map_len _) (map_len _) hv12 ((List.map_append).symm.trans (congrArg (List.map _) (app_eq hv12)))),zr' rfl (op_call _ _ 21 _ _ rfl call21 rfl (ok_wherrykeep_Bytes v9.1 v12 _ hv13) rfl rfl),z3 true rfl,z8 hg5_15 rfl,zt rfl,z3 false rfl,z2 rfl,zz⟩ ?_
        exact hl17 _ (Option.some.inj h).symm
      ·refine zg hn (_::_::_::_::_::(26,vi v9.2)::(27,vb (v9.2 == 0))::(28,vb true)::(29,.fl (.own 40) 3 (List.flatten (List.map T_Tok.enc v8)))::(30,vi v10)::(31,vb (v10 == 0))::(32,vb (v10 == 0))::(33,vb false)::(34,.v undef)::(35,.v undef)::(36,.v undef)::(37,.v undef)::(38,.v undef)::(39,.v undef)::(40,vb false)::(41,vb false)::(42,.v undef)::(43,vb false)::(4,vb false)::[]) [0,1,2,3,4] [23] (zq [4] 5 26::zq [5] 6 27::zq [6] 7 28::⟨[7],[2],[8],[(.slot 29)]⟩::zq [7,8] 9 30::zq [7,9] 10 31::zq [7,10] 11 32::zq [11] 12 33::zq [12] 13 34::zq [12] 14 35::zq [12] 15 36::zq [12] 16 37::zq [12] 17 38::zq [12] 18 39::zq [12] 19 40::zq [19] 20 41::zq [20] 21 42::zq [20] 22 43::zq [22] 23 4::[]) [(_,_)] rfl ⟨z1 rfl,z4 rfl rfl,z8 hg5_2 rfl,zr' rfl (op_move_take _ _ _ _ rfl),zr' rfl (op_call _ _ 22 _ _ rfl call22 rfl (ok_match_Check v8 _ hv10) rfl rfl),zr' rfl (oB rfl rfl),z3 true rfl,z8 hg5_7 rfl,zt rfl,zt rfl,zt rfl,zt rfl,zt rfl,zt rfl,z3 false rfl,z1 rfl,zt rfl,z3 false rfl,z2 rfl,zz⟩ ?_
       exact hl17 _ (Option.some.inj h).symm
     ·refine zg hn (_::_::_::_::_::(26,vi v9.2)::(27,vb (v9.2 == 0))::(28,vb false)::(29,.v undef)::(30,.v undef)::(31,.v undef)::(32,vb false)::(33,vb false)::(34,.v undef)::(35,.v undef)::(36,.v undef)::(37,.v undef)::(38,.v undef)::(39,.v undef)::(40,vb false)::(41,vb false)::(42,.v undef)::(43,vb false)::(4,vb false)::[]) [0,1,2,3,4] [23] (zq [4] 5 26::zq [5] 6 27::zq [6] 7 28::zq [7] 8 29::zq [7] 9 30::zq [7] 10 31::zq [7] 11 32::zq [11] 12 33::zq [12] 13 34::zq [12] 14 35::zq [12] 15 36::zq [12] 16 37::zq [12] 17 38::zq [12] 18 39::zq [12] 19 40::zq [19] 20 41::zq [20] 21 42::zq [20] 22 43::zq [22] 23 4::[]) [(_,_)] rfl ⟨z1 rfl,z4 rfl rfl,z8 hg5_2 rfl,zt rfl,zt rfl,zt rfl,z3 false rfl,z1 rfl,zt rfl,zt rfl,zt rfl,zt rfl,zt rfl,zt rfl,z3 false rfl,z1 rfl,zt rfl,z3 false rfl,z2 rfl,zz⟩ ?_
      exact hl17 _ (Option.some.inj h).symm
  ·intro u2 h hl3 hr4
   refine cond_some h (fun hg1_3 h => ?_) (fun hg1_3 h => ?_)
   ·refine zg hn [_,_,(8,.fl .shr 1 (List.map (Value.int .u8) a)),(9,vi (a.length : Int)),(10,vb (decide (1200 < (a.length : Int)))),(11,vb true),(12,.v undef),(13,.v undef),(14,.v undef),(15,vb true)] [0,1] [0,1,9] [zq [0] 2 8,zq [2] 3 9,zq [3] 4 10,zq [4] 5 11,zq [5] 6 12,zq [5] 7 13,zq [5] 8 14,zq [5] 9 15] [(_,_),(_,_),(_,_)] rfl ⟨z1 rfl,zp rfl (op_len_fl _ _ _ underlying22 rfl (by decide) (map_len _)),z4 rfl rfl,z8 hg1_3 rfl,zf rfl,zf rfl,zf rfl,z3 true rfl,zz⟩ ?_
    exact hl3 _ (Option.some.inj h).symm
   ·refine zg hn [_,_,(8,.fl .shr 1 (List.map (Value.int .u8) a)),(9,vi (a.length : Int)),(10,vb (decide (1200 < (a.length : Int)))),(11,vb false),(12,.fl .shr 1 (List.map (Value.int .u8) b)),(13,vi (b.length : Int)),(14,vb (decide (1200 < (b.length : Int)))),(15,vb (decide (1200 < (b.length : Int))))] [0,1] [0,1,9] [zq [0] 2 8,zq [2] 3 9,zq [3] 4 10,zq [4] 5 11,zq [5,1] 6 12,zq [5,6] 7 13,zq [5,7] 8 14,zq [5,8] 9 15] [(_,_),(_,_),(_,_)] rfl ⟨z1 rfl,zp rfl (op_len_fl _ _ _ underlying22 rfl (by decide) (map_len _)),z4 rfl rfl,z8 hg1_3 rfl,zr' rfl (oM rfl),zr' rfl (op_len_fl _ _ _ underlying22 rfl (by decide) (map_len _)),zr' rfl (oB rfl rfl),z3 false rfl,zz⟩ ?_
    exact hl3 _ (Option.some.inj h).symm

end Go.Proofs.Ytepkcpjfogjfhaa
