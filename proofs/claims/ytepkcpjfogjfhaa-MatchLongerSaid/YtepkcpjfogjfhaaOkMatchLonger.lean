/-
  The model's runs are what is told in Lean.
-/
import Derived.Test.YtepkcpjfogjfhaaProg
import Derived.KernelRfl
import Derived.Test.YtepkcpjfogjfhaaB2
import Derived.Test.YtepkcpjfogjfhaaOkc2
set_option linter.unusedVariables false
set_option linter.unusedSimpArgs false
set_option maxHeartbeats 1000000
namespace Go.Proofs.Ytepkcpjfogjfhaa
open Go.Abs Go.Abs.Sh Try

theorem ok_wherrylaw04_MatchLonger (b : (List Int)) (r : Bool) (h : Sh.wherrylaw04_MatchLonger b = some r) : FnOK Try.prog 6 [.fl .shr 1 (List.map (Value.int .u8) b)] (.v (.bool r)) := by
  unfold Sh.wherrylaw04_MatchLonger at h
  refine fn_ok func6 rfl (zl rfl) rfl rfl fun g0 hn hio => ?_
  refine zgg hn [_,(2,vb false)] [0] [0] [zq [] 1 2] [(_,_)] rfl ⟨z2 rfl,zz⟩ ?_
  refine ht_seq ?_
  refine ht_seq ?_
  refine ht_joinS h (fun (s1 : Bool) => [(0, .fl .shr 1 (List.map (Value.int .u8) b)), (14, .v (.bool s1))]) ?_ ?_
  ·rintro s1 h
   refine pt_then ?_
   refine ht_cond _ rfl (fun hb5 => ?_) (fun hb5 => ?_)
   ·have h := cond_t hb5 h
    refine zgg hn [_,_,(2,vb true)] [0,1] [2] [zq [] 2 2] [(_,_)] rfl ⟨z2 rfl,zz⟩ ?_
    refine ht_ret ?_
    refine pt_r_then ?_
    obtain rfl := Option.some.inj h
    exact pt_ret hio rfl (.tmp _ _ .nil) rfl rfl
   ·have h := cond_f hb5 h
    refine ht_skip ?_
    refine pt_then (ht_seq ?_)
    obtain ⟨v6, hv6, h⟩ := bind_some h
    obtain ⟨v7, hv7, h⟩ := bind_some h
    obtain ⟨v8, hv8, h⟩ := bind_some h
    refine zg hn [_,_,(16,.fl .shr 1 (List.map (Value.int .u8) b)),(17,.fl (.own 5) 1 (List.map (Value.int .u8) v6)),(18,.fl .shr 1 (List.map (Value.int .u8) b)),(19,.fl (.own 5) 1 (List.map (Value.int .u8) v7)),(17,.any),(20,.tup [.fl (.own 40) 3 (List.flatten (List.map T_Tok.enc v8.1)),vi v8.2]),(15,.tup [.fl (.own 40) 3 (List.flatten (List.map T_Tok.enc v8.1)),vi v8.2]),(21,.fl (.own 40) 3 (List.flatten (List.map T_Tok.enc v8.1))),(15,.tup [.any,vi v8.2]),(22,vi v8.2),(3,.fl (.own 40) 3 (List.flatten (List.map T_Tok.enc v8.1))),(4,vi v8.2)] [0,1] [0,12,13] [zq [0] 2 16,zq [2] 3 17,zq [0] 4 18,⟨[4],[3],[6,5],[(.slot 19)]⟩,zq [5] 7 20,⟨[],[7],[8],[(.slot 15)]⟩,⟨[],[8],[10,9],[(.slot 21)]⟩,zq [10] 11 22,⟨[],[9],[12],[(.slot 3)]⟩,zq [11] 13 4] [(_,_),(_,_),(_,_)] rfl ⟨z1 rfl,zp rfl (op_call _ _ 12 _ _ rfl call12 rfl (ok_wherrykeep_Twin b _ hv6) rfl rfl),z1 rfl,zp rfl (op_app _ _ _ _ _ el22 rfl rfl (map_len _) (map_len _) hv7 ((List.map_append).symm.trans (congrArg (List.map _) (app_eq hv7)))),zp rfl (op_call _ _ 14 _ _ rfl call14 rfl (ok_match_Tokens v7 _ hv8) rfl rfl),zp rfl (op_move_take _ _ _ _ rfl),zp rfl (op_extract_take _ _ _ _ _ rfl (zl rfl) rfl rfl (by decide) rfl),zp rfl (oE rfl),zp rfl (op_assign_take _ _ _ _ rfl),z2 rfl,zz⟩ ?_
    refine pt_then (ht_seq ?_)
    obtain ⟨v9, hv9, h⟩ := bind_some h
    refine zg hn [_,_,_,(24,.fl .shr 1 (List.map (Value.int .u8) b)),(25,.tup [.fl (.own 40) 3 (List.flatten (List.map T_Tok.enc v9.1)),vi v9.2]),(23,.tup [.fl (.own 40) 3 (List.flatten (List.map T_Tok.enc v9.1)),vi v9.2]),(26,.fl (.own 40) 3 (List.flatten (List.map T_Tok.enc v9.1))),(23,.tup [.any,vi v9.2]),(27,vi v9.2),(5,.fl (.own 40) 3 (List.flatten (List.map T_Tok.enc v9.1))),(6,vi v9.2)] [0,1,2] [0,1,2,9,10] [zq [0] 3 24,zq [3] 4 25,⟨[],[4],[5],[(.slot 23)]⟩,⟨[],[5],[7,6],[(.slot 26)]⟩,zq [7] 8 27,⟨[],[6],[9],[(.slot 5)]⟩,zq [8] 10 6] [(_,_),(_,_),(_,_),(_,_),(_,_)] rfl ⟨z1 rfl,zp rfl (op_call _ _ 14 _ _ rfl call14 rfl (ok_match_Tokens b _ hv9) rfl rfl),zp rfl (op_move_take _ _ _ _ rfl),zp rfl (op_extract_take _ _ _ _ _ rfl (zl rfl) rfl rfl (by decide) rfl),zp rfl (oE rfl),zp rfl (op_assign_take _ _ _ _ rfl),z2 rfl,zz⟩ ?_
    refine pt_then (ht_seq ?_)
    refine ht_seq ?_
    refine ht_joinS h (fun (s10 : Bool) => [(0, .fl .shr 1 (List.map (Value.int .u8) b)), (3, .fl (.own 40) 3 (List.flatten (List.map T_Tok.enc v8.1))), (5, .fl (.own 40) 3 (List.flatten (List.map T_Tok.enc v9.1))), (33, .v (.bool s10))]) ?_ ?_
    ·rintro s10 h
     refine pt_then ?_
     refine ht_cond _ rfl (fun hb14 => ?_) (fun hb14 => ?_)
     ·have h := cond_t hb14 h
      refine zgg hn [_,_,_,_,(2,vb false)] [0,1,2,3] [4] [zq [] 4 2] [(_,_)] rfl ⟨z2 rfl,zz⟩ ?_
      refine ht_ret ?_
      refine pt_r_then ?_
      obtain rfl := Option.some.inj h
      exact pt_ret hio rfl (.tmp _ _ .nil) rfl rfl
     ·have h := cond_f hb14 h
      refine ht_skip ?_
      refine pt_then (ht_seq ?_)
      refine ht_joinS h (fun (s19 : Bool) => [(2, .v (.bool s19))]) ?_ ?_
      ·rintro s19 h
       refine pt_then (ht_ret ?_)
       obtain rfl := Option.some.inj h
       exact pt_ret hio rfl (.tmp _ _ .nil) rfl rfl
      ·intro u20 h hl21 hr22
       obtain ⟨v15, hv15, h⟩ := bind_some h
       obtain ⟨v16, hv16, h⟩ := bind_some h
       obtain ⟨v17, hv17, h⟩ := bind_some h
       refine cond_some h (fun hg7_10 h => ?_) (fun hg7_10 h => ?_)
       ·obtain ⟨v18, hv18, h⟩ := bind_some h
        refine zg hn (_::_::_::_::(34,.fl (.own 40) 3 (List.flatten (List.map T_Tok.enc v8.1)))::(35,vi (v8.1.length : Int))::(36,.fl (.own 40) 3 (List.flatten (List.map T_Tok.enc v9.1)))::(37,vi (v9.1.length : Int))::(38,.fl .shr 1 (List.map (Value.int .u8) b))::(39,vi (b.length : Int))::(40,vi v15)::(41,vi v16)::(42,vi v17)::(43,vb (decide ((v8.1.length : Int) ≤ v17)))::(44,vb true)::(45,vb v18)::(46,vb v18)::(2,vb v18)::[]) [0,1,2,3] [17] [⟨[],[1],[4],[(.slot 34)]⟩,zq [4] 5 35,⟨[],[2],[6],[(.slot 36)]⟩,zq [6] 7 37,zq [0] 8 38,zq [8] 9 39,zq [9] 10 40,zq [7,10] 11 41,zq [11] 12 42,zq [5,12] 13 43,zq [13] 14 44,zq [14] 15 45,zq [14,15] 16 46,zq [16] 17 2] [(_,_)] rfl ⟨zp rfl (op_move_take _ _ _ _ rfl),zp rfl (op_len_fl _ _ _ underlying23 rfl (by decide) (flat_len T_Tok.len _)),zp rfl (op_move_take _ _ _ _ rfl),zp rfl (op_len_fl _ _ _ underlying23 rfl (by decide) (flat_len T_Tok.len _)),z1 rfl,zp rfl (op_len_fl _ _ _ underlying22 rfl (by decide) (map_len _)),zp rfl (oB rfl (quo_ok hv15)),zp rfl (oB rfl (ibind (f := Value.int .i64) (Option.some.inj hv16))),zp rfl (oB rfl (ibind (f := Value.int .i64) (Option.some.inj hv17))),z4 rfl rfl,z8 hg7_10 rfl,zr' rfl (op_call _ _ 25 _ _ rfl call25 rfl (ok_wherrylaw04_wakes  _ hv18) rfl rfl),z3 true rfl,z2 rfl,zz⟩ ?_
        exact hl21 _ (Option.some.inj h).symm
       ·refine zg hn (_::_::_::_::(34,.fl (.own 40) 3 (List.flatten (List.map T_Tok.enc v8.1)))::(35,vi (v8.1.length : Int))::(36,.fl (.own 40) 3 (List.flatten (List.map T_Tok.enc v9.1)))::(37,vi (v9.1.length : Int))::(38,.fl .shr 1 (List.map (Value.int .u8) b))::(39,vi (b.length : Int))::(40,vi v15)::(41,vi v16)::(42,vi v17)::(43,vb (decide ((v8.1.length : Int) ≤ v17)))::(44,vb false)::(45,.v undef)::(46,vb false)::(2,vb false)::[]) [0,1,2,3] [17] [⟨[],[1],[4],[(.slot 34)]⟩,zq [4] 5 35,⟨[],[2],[6],[(.slot 36)]⟩,zq [6] 7 37,zq [0] 8 38,zq [8] 9 39,zq [9] 10 40,zq [7,10] 11 41,zq [11] 12 42,zq [5,12] 13 43,zq [13] 14 44,zq [14] 15 45,zq [14] 16 46,zq [16] 17 2] [(_,_)] rfl ⟨zp rfl (op_move_take _ _ _ _ rfl),zp rfl (op_len_fl _ _ _ underlying23 rfl (by decide) (flat_len T_Tok.len _)),zp rfl (op_move_take _ _ _ _ rfl),zp rfl (op_len_fl _ _ _ underlying23 rfl (by decide) (flat_len T_Tok.len _)),z1 rfl,zp rfl (op_len_fl _ _ _ underlying22 rfl (by decide) (map_len _)),zp rfl (oB rfl (quo_ok hv15)),zp rfl (oB rfl (ibind (f := Value.int .i64) (Option.some.inj hv16))),zp rfl (oB rfl (ibind (f := Value.int .i64) (Option.some.inj hv17))),z4 rfl rfl,z8 hg7_10 rfl,zt rfl,z3 false rfl,z2 rfl,zz⟩ ?_
        exact hl21 _ (Option.some.inj h).symm
    ·intro u11 h hl12 hr13
     refine cond_some h (fun hg5_2 h => ?_) (fun hg5_2 h => ?_)
     ·refine zg hn [_,_,_,_,_,(28,vi v8.2),(29,vb (v8.2 != 0)),(30,vb true),(31,.v undef),(32,.v undef),(33,vb true)] [0,1,2,3,4] [0,1,3,10] [zq [2] 5 28,zq [5] 6 29,zq [6] 7 30,zq [7] 8 31,zq [7] 9 32,zq [7] 10 33] [(_,_),(_,_),(_,_),(_,_)] rfl ⟨z1 rfl,z4 rfl rfl,z8 hg5_2 rfl,zf rfl,zf rfl,z3 true rfl,zz⟩ ?_
      exact hl12 _ (Option.some.inj h).symm
     ·refine zg hn [_,_,_,_,_,(28,vi v8.2),(29,vb (v8.2 != 0)),(30,vb false),(31,vi v9.2),(32,vb (v9.2 != 0)),(33,vb (v9.2 != 0))] [0,1,2,3,4] [0,1,3,10] [zq [2] 5 28,zq [5] 6 29,zq [6] 7 30,zq [7,4] 8 31,zq [7,8] 9 32,zq [7,9] 10 33] [(_,_),(_,_),(_,_),(_,_)] rfl ⟨z1 rfl,z4 rfl rfl,z8 hg5_2 rfl,zr' rfl (oM rfl),zr' rfl (oB rfl rfl),z3 false rfl,zz⟩ ?_
      exact hl12 _ (Option.some.inj h).symm
  ·intro u2 h hl3 hr4
   refine cond_some h (fun hg1_3 h => ?_) (fun hg1_3 h => ?_)
   ·refine zg hn [_,(7,.fl .shr 1 (List.map (Value.int .u8) b)),(8,vi (b.length : Int)),(9,vb (decide (600 < (b.length : Int)))),(10,vb true),(11,.v undef),(12,.v undef),(13,.v undef),(14,vb true)] [0] [0,8] [zq [0] 1 7,zq [1] 2 8,zq [2] 3 9,zq [3] 4 10,zq [4] 5 11,zq [4] 6 12,zq [4] 7 13,zq [4] 8 14] [(_,_),(_,_)] rfl ⟨z1 rfl,zp rfl (op_len_fl _ _ _ underlying22 rfl (by decide) (map_len _)),z4 rfl rfl,z8 hg1_3 rfl,zf rfl,zf rfl,zf rfl,z3 true rfl,zz⟩ ?_
    exact hl3 _ (Option.some.inj h).symm
   ·refine zg hn [_,(7,.fl .shr 1 (List.map (Value.int .u8) b)),(8,vi (b.length : Int)),(9,vb (decide (600 < (b.length : Int)))),(10,vb false),(11,.fl .shr 1 (List.map (Value.int .u8) b)),(12,vi (b.length : Int)),(13,vb (decide ((b.length : Int) < 3))),(14,vb (decide ((b.length : Int) < 3)))] [0] [0,8] [zq [0] 1 7,zq [1] 2 8,zq [2] 3 9,zq [3] 4 10,zq [4,0] 5 11,zq [4,5] 6 12,zq [4,6] 7 13,zq [4,7] 8 14] [(_,_),(_,_)] rfl ⟨z1 rfl,zp rfl (op_len_fl _ _ _ underlying22 rfl (by decide) (map_len _)),z4 rfl rfl,z8 hg1_3 rfl,zr' rfl (oM rfl),zr' rfl (op_len_fl _ _ _ underlying22 rfl (by decide) (map_len _)),zr' rfl (oB rfl rfl),z3 false rfl,zz⟩ ?_
    exact hl3 _ (Option.some.inj h).symm

end Go.Proofs.Ytepkcpjfogjfhaa
