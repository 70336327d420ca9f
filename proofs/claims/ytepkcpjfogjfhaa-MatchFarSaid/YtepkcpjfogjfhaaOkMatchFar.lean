/-
  The model's runs are what is told in Lean.
-/
import Derived.Test.YtepkcpjfogjfhaaProg
import Derived.KernelRfl
import Derived.Test.YtepkcpjfogjfhaaB2
import Derived.Test.YtepkcpjfogjfhaaOkc1
set_option linter.unusedVariables false
set_option linter.unusedSimpArgs false
set_option maxHeartbeats 1000000
namespace Go.Proofs.Ytepkcpjfogjfhaa
open Go.Abs Go.Abs.Sh Try

theorem ok_wherrylaw04_MatchFar (more : Int) (r : Bool) (h : Sh.wherrylaw04_MatchFar more = some r) : FnOK Try.prog 10 [.v (.int .i64 more)] (.v (.bool r)) := by
  unfold Sh.wherrylaw04_MatchFar at h
  refine fn_ok func10 rfl (zl rfl) rfl rfl fun g0 hn hio => ?_
  refine zgg hn [_,(2,vb false)] [0] [0] [zq [] 1 2] [(_,_)] rfl ⟨z2 rfl,zz⟩ ?_
  refine ht_seq ?_
  obtain ⟨v1, hv1, h⟩ := bind_some h
  obtain ⟨v2, hv2, h⟩ := bind_some h
  obtain ⟨v3, hv3, h⟩ := bind_some h
  refine zg hn [_,(7,vi more),(8,.v (.int .u64 v1)),(9,.v (.int .u64 v2)),(10,vi v3),(0,vi v3)] [0] [5] [zq [0] 1 7,zq [1] 2 8,zq [2] 3 9,zq [3] 4 10,⟨[4],[0],[5],[(.slot 0)]⟩] [(_,_)] rfl ⟨z1 rfl,zp rfl ((Option.some.inj hv1) ▸ op_conv _ _ _ underlying3 underlying42 rfl),zp rfl (oB rfl (rem_ok hv2)),zp rfl ((Option.some.inj hv3) ▸ op_conv _ _ _ underlying42 underlying3 rfl),zp rfl (LOp.drop [_] (op_assign _ _ _ _ rfl rfl)),zz⟩ ?_
  refine pt_then ?_
  refine zgg hn [_,(11,.fl (.own 5) 1 (List.map (Value.int .u8) [1,2,3])),(3,.fl (.own 5) 1 (List.map (Value.int .u8) [1,2,3]))] [0] [0,2] [zq [] 1 11,⟨[],[1],[2],[(.slot 3)]⟩] [(_,_),(_,_)] rfl ⟨zp rfl (op_buildSlice _ _ 1 (.int .u8 0) (List.map (Value.int .u8) [1, 2, 3]) [(0, .int .u8 1), (1, .int .u8 2), (2, .int .u8 3)] underlying22 sz5 zr5 (fun _ V w o a hv hes => by simp only [List.map_toArray, List.map_cons, List.map_nil]; try rfl) (litfill (by simp [Instr.fill, Value.cells]; rfl) (by simp [List.range, List.range.loop] <;> rfl)) (by simp [Value.oneCell']) rfl (by decide) (by decide) (by decide)),zp rfl (op_assign_take _ _ _ _ rfl),zz⟩ ?_
  refine ht_seq ?_
  refine ht_loopS h (fun (s9 : (List Int)) => [(0, .v (.int .i64 v3)), (3, .fl (.own 5) 1 (List.map (Value.int .u8) s9))]) (fun (s11 : (List Int)) => [(3, .fl (.own 5) 1 (List.map (Value.int .u8) s11))]) ?_ ?_
  ·rintro s11 h
   refine pt_then ?_
   refine zgg hn [_,(20,.same (.slot 3)),(21,vi (s11.length : Int)),(4,vi (s11.length : Int))] [0] [0,3] [zq [0] 1 20,zq [1,0] 2 21,zq [2] 3 4] [(_,_),(_,_)] rfl ⟨z1 rfl,zp rfl (op_len_fl _ _ _ underlying22 rfl (by decide) (map_len _)),z2 rfl,zz⟩ ?_
   refine ht_seq ?_
   obtain ⟨v19, hv19, h⟩ := bind_some h
   refine zg hn [_,_,(22,.fl (.own 5) 1 (List.map (Value.int .u8) s11)),(23,.fl (.own 5) 1 (List.map (Value.int .u8) [1,2,3])),(24,.fl (.own 5) 1 (List.map (Value.int .u8) v19)),(22,.any),(3,.fl (.own 5) 1 (List.map (Value.int .u8) v19))] [0,1] [1,6] [⟨[],[0],[2],[(.slot 22)]⟩,zq [] 3 23,⟨[3],[2],[5,4],[(.slot 24)]⟩,⟨[],[4],[6],[(.slot 3)]⟩] [(_,_),(_,_)] rfl ⟨zp rfl (op_move_take _ _ _ _ rfl),zp rfl (op_buildSlice _ _ 1 (.int .u8 0) (List.map (Value.int .u8) [1, 2, 3]) [(0, .int .u8 1), (1, .int .u8 2), (2, .int .u8 3)] underlying22 sz5 zr5 (fun _ V w o a hv hes => by simp only [List.map_toArray, List.map_cons, List.map_nil]; try rfl) (litfill (by simp [Instr.fill, Value.cells]; rfl) (by simp [List.range, List.range.loop] <;> rfl)) (by simp [Value.oneCell']) rfl (by decide) (by decide) (by decide)),zp rfl (op_app _ _ _ _ _ el22 rfl rfl (map_len _) (map_len _) hv19 ((List.map_append).symm.trans (congrArg (List.map _) (app_eq hv19)))),zp rfl (op_assign_take _ _ _ _ rfl),zz⟩ ?_
   refine pt_then (ht_seq ?_)
   obtain ⟨v20, hv20, h⟩ := bind_some h
   refine zg hn [_,_,(26,.fl (.own 5) 1 (List.map (Value.int .u8) v19)),(27,vi (s11.length : Int)),(28,.tup [vi v20.1,vi v20.2]),(25,.tup [vi v20.1,vi v20.2]),(29,vi v20.1),(30,vi v20.2),(5,vi v20.1),(6,vi v20.2)] [0,1] [0,8,9] [⟨[],[1],[2],[(.slot 26)]⟩,zq [0] 3 27,zq [2,3] 4 28,⟨[],[4],[5],[(.slot 25)]⟩,zq [5] 6 29,zq [5] 7 30,zq [6] 8 5,zq [7] 9 6] [(_,_),(_,_),(_,_)] rfl ⟨zp rfl (op_move_take _ _ _ _ rfl),z1 rfl,zp rfl (op_call _ _ 16 _ _ rfl call16 rfl (ok_match_Best v19 (s11.length : Int) _ hv20) rfl rfl),zp rfl (op_move_take _ _ _ _ rfl),zp rfl (oE rfl),zp rfl (oE rfl),z2 rfl,z2 rfl,zz⟩ ?_
   refine pt_then (ht_seq ?_)
   refine zgg hn [_,_,_,(31,vi (s11.length : Int)),(32,vb (decide (2048 < (s11.length : Int))))] [0,1,2] [0,1,2,4] [zq [0] 3 31,zq [3] 4 32] [(_,_),(_,_),(_,_),(_,_)] rfl ⟨z1 rfl,z4 rfl rfl,zz⟩ ?_
   refine ht_cond _ rfl (fun hb21 => ?_) (fun hb21 => ?_)
   ·have h := cond_t hb21 h
    refine ht_seq ?_
    refine ht_joinS h (fun (s23 : Bool) => [(2, .v (.bool s23))]) ?_ ?_
    ·rintro s23 h
     refine pt_then (ht_ret ?_)
     refine pt_r_then ?_
     obtain rfl := Option.some.inj h
     exact pt_ret hio rfl (.tmp _ _ .nil) rfl rfl
    ·intro u24 h hl25 hr26
     refine cond_some h (fun hg9_2 h => ?_) (fun hg9_2 h => ?_)
     ·refine cond_some h (fun hg9_6 h => ?_) (fun hg9_6 h => ?_)
      ·obtain ⟨v22, hv22, h⟩ := bind_some h
       refine zg hn [_,_,_,_,(33,vi v20.1),(34,vb (v20.1 == 0)),(35,vb true),(36,vi v20.2),(37,vb (v20.2 == 0)),(38,vb (v20.2 == 0)),(39,vb true),(40,vb v22),(41,vb v22),(2,vb v22)] [0,1,2,3] [13] [zq [1] 4 33,zq [4] 5 34,zq [5] 6 35,zq [6,2] 7 36,zq [6,7] 8 37,zq [6,8] 9 38,zq [9] 10 39,zq [10] 11 40,zq [10,11] 12 41,zq [12] 13 2] [(_,_)] rfl ⟨z1 rfl,z4 rfl rfl,z8 hg9_2 rfl,zr' rfl (oM rfl),zr' rfl (oB rfl rfl),z3 true rfl,z8 hg9_6 rfl,zr' rfl (op_call _ _ 25 _ _ rfl call25 rfl (ok_wherrylaw04_wakes  _ hv22) rfl rfl),z3 true rfl,z2 rfl,zz⟩ ?_
       exact hl25 _ (Option.some.inj h).symm
      ·refine zg hn [_,_,_,_,(33,vi v20.1),(34,vb (v20.1 == 0)),(35,vb true),(36,vi v20.2),(37,vb (v20.2 == 0)),(38,vb (v20.2 == 0)),(39,vb false),(40,.v undef),(41,vb false),(2,vb false)] [0,1,2,3] [13] [zq [1] 4 33,zq [4] 5 34,zq [5] 6 35,zq [6,2] 7 36,zq [6,7] 8 37,zq [6,8] 9 38,zq [9] 10 39,zq [10] 11 40,zq [10] 12 41,zq [12] 13 2] [(_,_)] rfl ⟨z1 rfl,z4 rfl rfl,z8 hg9_2 rfl,zr' rfl (oM rfl),zr' rfl (oB rfl rfl),z3 true rfl,z8 hg9_6 rfl,zt rfl,z3 false rfl,z2 rfl,zz⟩ ?_
       exact hl25 _ (Option.some.inj h).symm
     ·refine zg hn [_,_,_,_,(33,vi v20.1),(34,vb (v20.1 == 0)),(35,vb false),(36,.v undef),(37,.v undef),(38,vb false),(39,vb false),(40,.v undef),(41,vb false),(2,vb false)] [0,1,2,3] [13] [zq [1] 4 33,zq [4] 5 34,zq [5] 6 35,zq [6] 7 36,zq [6] 8 37,zq [6] 9 38,zq [9] 10 39,zq [10] 11 40,zq [10] 12 41,zq [12] 13 2] [(_,_)] rfl ⟨z1 rfl,z4 rfl rfl,z8 hg9_2 rfl,zt rfl,zt rfl,z3 false rfl,z1 rfl,zt rfl,z3 false rfl,z2 rfl,zz⟩ ?_
      exact hl25 _ (Option.some.inj h).symm
   ·have h := cond_f hb21 h
    refine ht_skip ?_
    refine pt_then (ht_seq ?_)
    refine ht_joinS h (fun (s28 : Bool) => [(2, .v (.bool s28))]) ?_ ?_
    ·rintro s28 h
     refine pt_then (ht_ret ?_)
     obtain rfl := Option.some.inj h
     exact pt_ret hio rfl (.tmp _ _ .nil) rfl rfl
    ·intro u29 h hl30 hr31
     refine cond_some h (fun hg10_2 h => ?_) (fun hg10_2 h => ?_)
     ·refine cond_some h (fun hg10_7 h => ?_) (fun hg10_7 h => ?_)
      ·obtain ⟨v27, hv27, h⟩ := bind_some h
       refine zg hn (_::_::_::_::(42,vi v20.1)::(43,vb (v20.1 == 3))::(44,vb true)::(45,vi v20.2)::(46,vi (s11.length : Int))::(47,vb (v20.2 == (s11.length : Int)))::(48,vb (v20.2 == (s11.length : Int)))::(49,vb true)::(50,vb v27)::(51,vb v27)::(2,vb v27)::[]) [0,1,2,3] [14] [zq [1] 4 42,zq [4] 5 43,zq [5] 6 44,zq [6,2] 7 45,zq [6,0] 8 46,zq [6,7,8] 9 47,zq [6,9] 10 48,zq [10] 11 49,zq [11] 12 50,zq [11,12] 13 51,zq [13] 14 2] [(_,_)] rfl ⟨z1 rfl,z4 rfl rfl,z8 hg10_2 rfl,zr' rfl (oM rfl),zr' rfl (oM rfl),zr' rfl (oB rfl rfl),z3 true rfl,z8 hg10_7 rfl,zr' rfl (op_call _ _ 25 _ _ rfl call25 rfl (ok_wherrylaw04_wakes  _ hv27) rfl rfl),z3 true rfl,z2 rfl,zz⟩ ?_
       exact hl30 _ (Option.some.inj h).symm
      ·refine zg hn (_::_::_::_::(42,vi v20.1)::(43,vb (v20.1 == 3))::(44,vb true)::(45,vi v20.2)::(46,vi (s11.length : Int))::(47,vb (v20.2 == (s11.length : Int)))::(48,vb (v20.2 == (s11.length : Int)))::(49,vb false)::(50,.v undef)::(51,vb false)::(2,vb false)::[]) [0,1,2,3] [14] [zq [1] 4 42,zq [4] 5 43,zq [5] 6 44,zq [6,2] 7 45,zq [6,0] 8 46,zq [6,7,8] 9 47,zq [6,9] 10 48,zq [10] 11 49,zq [11] 12 50,zq [11] 13 51,zq [13] 14 2] [(_,_)] rfl ⟨z1 rfl,z4 rfl rfl,z8 hg10_2 rfl,zr' rfl (oM rfl),zr' rfl (oM rfl),zr' rfl (oB rfl rfl),z3 true rfl,z8 hg10_7 rfl,zt rfl,z3 false rfl,z2 rfl,zz⟩ ?_
       exact hl30 _ (Option.some.inj h).symm
     ·refine zg hn (_::_::_::_::(42,vi v20.1)::(43,vb (v20.1 == 3))::(44,vb false)::(45,.v undef)::(46,.v undef)::(47,.v undef)::(48,vb false)::(49,vb false)::(50,.v undef)::(51,vb false)::(2,vb false)::[]) [0,1,2,3] [14] [zq [1] 4 42,zq [4] 5 43,zq [5] 6 44,zq [6] 7 45,zq [6] 8 46,zq [6] 9 47,zq [6] 10 48,zq [10] 11 49,zq [11] 12 50,zq [11] 13 51,zq [13] 14 2] [(_,_)] rfl ⟨z1 rfl,z4 rfl rfl,z8 hg10_2 rfl,zt rfl,zt rfl,zt rfl,z3 false rfl,z1 rfl,zt rfl,z3 false rfl,z2 rfl,zz⟩ ?_
      exact hl30 _ (Option.some.inj h).symm
  ·rintro u12 hl13 hr14 s9 rr17 h ho15
   refine ht_seq ?_
   refine ht_seq ?_
   obtain ⟨v4, hv4, h⟩ := bind_some h
   refine zg hn [_,_,(12,.same (.slot 3)),(13,vi (s9.length : Int)),(14,vi v3),(15,vi v4),(16,vb (decide ((s9.length : Int) < v4)))] [0,1] [0,1,6] [zq [1] 2 12,zq [2,1] 3 13,zq [0] 4 14,zq [4] 5 15,zq [3,5] 6 16] [(_,_),(_,_),(_,_)] rfl ⟨z1 rfl,zp rfl (op_len_fl _ _ _ underlying22 rfl (by decide) (map_len _)),z1 rfl,zp rfl (oB rfl (ibind (f := Value.int .i64) (Option.some.inj hv4))),z4 rfl rfl,zz⟩ ?_
   refine pt_then ?_
   refine ht_cond _ rfl (fun hb18 => ?_) (fun hb18 => ?_)
   ·have h := cond_t hb18 h
    refine ht_skip ?_
    refine pt_then ?_
    refine ht_block ?_
    obtain ⟨v6, hv6, h⟩ := bind_some h
    refine zg hn [_,_,_,(17,.fl (.own 5) 1 (List.map (Value.int .u8) s9)),(18,.fl (.own 5) 1 (List.map (Value.int .u8) [0])),(19,.fl (.own 5) 1 (List.map (Value.int .u8) v6)),(17,.any),(3,.fl (.own 5) 1 (List.map (Value.int .u8) v6))] [0,1,2] [0,7] [⟨[],[1],[3],[(.slot 17)]⟩,zq [] 4 18,⟨[4],[3],[6,5],[(.slot 19)]⟩,⟨[],[5],[7],[(.slot 3)]⟩] [(_,_),(_,_)] rfl ⟨zp rfl (op_move_take _ _ _ _ rfl),zp rfl (op_buildSlice _ _ 1 (.int .u8 0) (List.map (Value.int .u8) [0]) [(0, .int .u8 0)] underlying22 sz5 zr5 (fun _ V w o a hv hes => by simp only [List.map_toArray, List.map_cons, List.map_nil]; try rfl) (litfill (by simp [Instr.fill, Value.cells]; rfl) (by simp [List.range, List.range.loop] <;> rfl)) (by simp [Value.oneCell']) rfl (by decide) (by decide) (by decide)),zp rfl (op_app _ _ _ _ _ el22 rfl rfl (map_len _) (map_len _) hv6 ((List.map_append).symm.trans (congrArg (List.map _) (app_eq hv6)))),zp rfl (op_assign_take _ _ _ _ rfl),zz⟩ ?_
    refine pt_inb ?_
    exact pt_next _ (Option.some.inj h).symm rfl
   ·have h := cond_f hb18 h
    refine ht_exit ?_
    refine pt_x_then ?_
    refine pt_x_then ?_
    refine pt_x_in ?_
    refine pt_pick [1] (by kernel_rfl) (es' := [(_,_)]) rfl ?_
    exact hl13 _ (ho15 _ (Option.some.inj h).symm).symm

end Go.Proofs.Ytepkcpjfogjfhaa
