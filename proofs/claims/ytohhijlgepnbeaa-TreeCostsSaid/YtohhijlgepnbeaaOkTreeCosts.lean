/-
  The model's runs are what is told in Lean.
-/
import Derived.Test.YtohhijlgepnbeaaProg
import Derived.KernelRfl
import Derived.Test.YtohhijlgepnbeaaShelf
import Derived.Test.YtohhijlgepnbeaaB4
import Derived.Test.YtohhijlgepnbeaaB5
import Derived.Test.YtohhijlgepnbeaaB8
import Derived.Test.YtohhijlgepnbeaaSrt
import Derived.Test.YtohhijlgepnbeaaOkc1
set_option linter.unusedVariables false
set_option linter.unusedSimpArgs false
set_option maxHeartbeats 1000000
namespace Go.Proofs.Ytohhijlgepnbeaa
open Go.Abs Go.Abs.Sh Try

theorem ok_wherrylaw03_TreeCosts (w : (List Int)) (l : (List Int)) (v : (List Int)) (k : (List Int)) (r : Bool) (h : Sh.wherrylaw03_TreeCosts w l v k = some r) : FnOK Try.prog 10 [.fl .shr 1 (List.map (Value.int .i64) w), .fl .shr 1 (List.map (Value.int .i64) l), .fl .shr 1 (List.map (Value.int .i64) v), .fl .shr 1 (List.map (Value.int .i64) k)] (.v (.bool r)) := by
  unfold Sh.wherrylaw03_TreeCosts at h
  refine fn_ok func10 rfl (zl rfl) rfl rfl fun g0 hn hio => ?_
  refine zgg hn [_,_,_,_,(8,vb false)] [0,1,2,3] [0,1,2,3] [zq [] 4 8] [(_,_),(_,_),(_,_),(_,_)] rfl ⟨z2 rfl,zz⟩ ?_
  refine ht_seq ?_
  refine ht_seq ?_
  refine ht_joinS h (fun (s1 : Bool) => [(0, .fl .shr 1 (List.map (Value.int .i64) w)), (1, .fl .shr 1 (List.map (Value.int .i64) l)), (2, .fl .shr 1 (List.map (Value.int .i64) v)), (3, .fl .shr 1 (List.map (Value.int .i64) k)), (34, .v (.bool s1))]) ?_ ?_
  ·rintro s1 h
   refine pt_then ?_
   refine ht_cond _ rfl (fun hb5 => ?_) (fun hb5 => ?_)
   ·have h := cond_t hb5 h
    refine zgg hn [_,_,_,_,_,(8,vb true)] [0,1,2,3,4] [5] [zq [] 5 8] [(_,_)] rfl ⟨z2 rfl,zz⟩ ?_
    refine ht_ret ?_
    refine pt_r_then ?_
    obtain rfl := Option.some.inj h
    exact pt_ret hio rfl (.tmp _ _ .nil) rfl rfl
   ·have h := cond_f hb5 h
    refine ht_skip ?_
    refine pt_then (ht_seq ?_)
    obtain ⟨v6, hv6, h⟩ := bind_some h
    refine zg hn [_,_,_,_,_,(36,.fl .shr 1 (List.map (Value.int .i64) w)),(37,.fl .shr 1 (List.map (Value.int .i64) l)),(38,.tup [vi v6.1,vi v6.2]),(35,.tup [vi v6.1,vi v6.2]),(39,vi v6.1),(40,vi v6.2),(9,vi v6.1),(10,vi v6.2)] [0,1,2,3,4] [0,1,2,3,11,12] [zq [0] 5 36,zq [1] 6 37,zq [5,6] 7 38,⟨[],[7],[8],[(.slot 35)]⟩,zq [8] 9 39,zq [8] 10 40,zq [9] 11 9,zq [10] 12 10] [(_,_),(_,_),(_,_),(_,_),(_,_),(_,_)] rfl ⟨z1 rfl,z1 rfl,zp rfl (op_call _ _ 14 _ _ rfl call14 rfl (ok_tree_Cost w l _ hv6) rfl rfl),zp rfl (op_move_take _ _ _ _ rfl),zp rfl (oE rfl),zp rfl (oE rfl),z2 rfl,z2 rfl,zz⟩ ?_
    refine pt_then (ht_seq ?_)
    obtain ⟨v7, hv7, h⟩ := bind_some h
    refine zg hn [_,_,_,_,_,_,(42,.fl .shr 1 (List.map (Value.int .i64) v)),(43,.fl .shr 1 (List.map (Value.int .i64) k)),(44,.tup [vi v7.1,vi v7.2]),(41,.tup [vi v7.1,vi v7.2]),(45,vi v7.1),(46,vi v7.2),(11,vi v7.1),(12,vi v7.2)] [0,1,2,3,4,5] [0,1,2,3,4,5,12,13] [zq [2] 6 42,zq [3] 7 43,zq [6,7] 8 44,⟨[],[8],[9],[(.slot 41)]⟩,zq [9] 10 45,zq [9] 11 46,zq [10] 12 11,zq [11] 13 12] [(_,_),(_,_),(_,_),(_,_),(_,_),(_,_),(_,_),(_,_)] rfl ⟨z1 rfl,z1 rfl,zp rfl (op_call _ _ 14 _ _ rfl call14 rfl (ok_tree_Cost v k _ hv7) rfl rfl),zp rfl (op_move_take _ _ _ _ rfl),zp rfl (oE rfl),zp rfl (oE rfl),z2 rfl,z2 rfl,zz⟩ ?_
    refine pt_then (ht_seq ?_)
    refine ht_seq ?_
    refine ht_joinS h (fun (s8 : Bool) => [(0, .fl .shr 1 (List.map (Value.int .i64) w)), (1, .fl .shr 1 (List.map (Value.int .i64) l)), (2, .fl .shr 1 (List.map (Value.int .i64) v)), (3, .fl .shr 1 (List.map (Value.int .i64) k)), (9, .v (.int .i64 v6.1)), (10, .v (.int .i64 v6.2)), (11, .v (.int .i64 v7.1)), (12, .v (.int .i64 v7.2)), (52, .v (.bool s8))]) ?_ ?_
    ·rintro s8 h
     refine pt_then ?_
     refine ht_cond _ rfl (fun hb12 => ?_) (fun hb12 => ?_)
     ·have h := cond_t hb12 h
      refine ht_seq ?_
      refine ht_joinS h (fun (s17 : Bool) => [(8, .v (.bool s17))]) ?_ ?_
      ·rintro s17 h
       refine pt_then (ht_ret ?_)
       refine pt_r_then ?_
       obtain rfl := Option.some.inj h
       exact pt_ret hio rfl (.tmp _ _ .nil) rfl rfl
      ·intro u18 h hl19 hr20
       refine cond_some h (fun hg6_2 h => ?_) (fun hg6_2 h => ?_)
       ·refine cond_some h (fun hg6_9 h => ?_) (fun hg6_9 h => ?_)
        ·obtain ⟨v13, hv13, h⟩ := bind_some h
         refine zg hn (_::_::_::_::_::_::_::_::_::(53,vi v6.2)::(54,vb (v6.2 == 0))::(55,vb true)::(56,.v undef)::(57,.v undef)::(58,vb true)::(59,vb true)::(60,vi v7.2)::(61,vb (v7.2 == 0))::(62,vb true)::(63,.v undef)::(64,.v undef)::(65,vb true)::(66,vb true)::(67,vb true)::(68,vb v13)::(69,vb v13)::(8,vb v13)::[]) [0,1,2,3,4,5,6,7,8] [26] (zq [5] 9 53::zq [9] 10 54::zq [10] 11 55::zq [11] 12 56::zq [11] 13 57::zq [11] 14 58::zq [14] 15 59::zq [15,7] 16 60::zq [15,16] 17 61::zq [15,17] 18 62::zq [18] 19 63::zq [18] 20 64::zq [15,18] 21 65::zq [15,21] 22 66::zq [22] 23 67::zq [23] 24 68::zq [23,24] 25 69::zq [25] 26 8::[]) [(_,_)] rfl ⟨z1 rfl,z4 rfl rfl,z8 hg6_2 rfl,zf rfl,zf rfl,z3 true rfl,z1 rfl,zr' rfl (oM rfl),zr' rfl (oB rfl rfl),zr' rfl (op_move _ _ _ _ (zb hg6_9) rfl),zf rfl,zf rfl,zr' rfl (op_pick _ _ true _ rfl rfl),z3 true rfl,z1 rfl,zr' rfl (op_call _ _ 17 _ _ rfl call17 rfl (ok_wherrylaw03_wakes  _ hv13) rfl rfl),z3 true rfl,z2 rfl,zz⟩ ?_
         exact hl19 _ (Option.some.inj h).symm
        ·refine cond_some h (fun hg6_14 h => ?_) (fun hg6_14 h => ?_)
         ·obtain ⟨v14, hv14, h⟩ := bind_some h
          refine zg hn (_::_::_::_::_::_::_::_::_::(53,vi v6.2)::(54,vb (v6.2 == 0))::(55,vb true)::(56,.v undef)::(57,.v undef)::(58,vb true)::(59,vb true)::(60,vi v7.2)::(61,vb (v7.2 == 0))::(62,vb false)::(63,vi v7.1)::(64,vb (v7.1 == 0))::(65,vb (v7.1 == 0))::(66,vb (v7.1 == 0))::(67,vb true)::(68,vb v14)::(69,vb v14)::(8,vb v14)::[]) [0,1,2,3,4,5,6,7,8] [26] (zq [5] 9 53::zq [9] 10 54::zq [10] 11 55::zq [11] 12 56::zq [11] 13 57::zq [11] 14 58::zq [14] 15 59::zq [15,7] 16 60::zq [15,16] 17 61::zq [15,17] 18 62::zq [18,6] 19 63::zq [18,19] 20 64::zq [15,18,20] 21 65::zq [15,21] 22 66::zq [22] 23 67::zq [23] 24 68::zq [23,24] 25 69::zq [25] 26 8::[]) [(_,_)] rfl ⟨z1 rfl,z4 rfl rfl,z8 hg6_2 rfl,zf rfl,zf rfl,z3 true rfl,z1 rfl,zr' rfl (oM rfl),zr' rfl (oB rfl rfl),zr' rfl (op_move _ _ _ _ (zb hg6_9) rfl),zr' rfl (oM rfl),zr' rfl (oB rfl rfl),zr' rfl (op_pick _ _ false _ rfl rfl),z3 true rfl,z8 hg6_14 rfl,zr' rfl (op_call _ _ 17 _ _ rfl call17 rfl (ok_wherrylaw03_wakes  _ hv14) rfl rfl),z3 true rfl,z2 rfl,zz⟩ ?_
          exact hl19 _ (Option.some.inj h).symm
         ·refine zg hn (_::_::_::_::_::_::_::_::_::(53,vi v6.2)::(54,vb (v6.2 == 0))::(55,vb true)::(56,.v undef)::(57,.v undef)::(58,vb true)::(59,vb true)::(60,vi v7.2)::(61,vb (v7.2 == 0))::(62,vb false)::(63,vi v7.1)::(64,vb (v7.1 == 0))::(65,vb (v7.1 == 0))::(66,vb (v7.1 == 0))::(67,vb false)::(68,.v undef)::(69,vb false)::(8,vb false)::[]) [0,1,2,3,4,5,6,7,8] [26] (zq [5] 9 53::zq [9] 10 54::zq [10] 11 55::zq [11] 12 56::zq [11] 13 57::zq [11] 14 58::zq [14] 15 59::zq [15,7] 16 60::zq [15,16] 17 61::zq [15,17] 18 62::zq [18,6] 19 63::zq [18,19] 20 64::zq [15,18,20] 21 65::zq [15,21] 22 66::zq [22] 23 67::zq [23] 24 68::zq [23] 25 69::zq [25] 26 8::[]) [(_,_)] rfl ⟨z1 rfl,z4 rfl rfl,z8 hg6_2 rfl,zf rfl,zf rfl,z3 true rfl,z1 rfl,zr' rfl (oM rfl),zr' rfl (oB rfl rfl),zr' rfl (op_move _ _ _ _ (zb hg6_9) rfl),zr' rfl (oM rfl),zr' rfl (oB rfl rfl),zr' rfl (op_pick _ _ false _ rfl rfl),z3 true rfl,z8 hg6_14 rfl,zt rfl,z3 false rfl,z2 rfl,zz⟩ ?_
          exact hl19 _ (Option.some.inj h).symm
       ·refine cond_some h (fun hg6_6 h => ?_) (fun hg6_6 h => ?_)
        ·refine cond_some h (fun hg6_9 h => ?_) (fun hg6_9 h => ?_)
         ·obtain ⟨v15, hv15, h⟩ := bind_some h
          refine zg hn (_::_::_::_::_::_::_::_::_::(53,vi v6.2)::(54,vb (v6.2 == 0))::(55,vb false)::(56,vi v6.1)::(57,vb (v6.1 == 0))::(58,vb (v6.1 == 0))::(59,vb true)::(60,vi v7.2)::(61,vb (v7.2 == 0))::(62,vb true)::(63,.v undef)::(64,.v undef)::(65,vb true)::(66,vb true)::(67,vb true)::(68,vb v15)::(69,vb v15)::(8,vb v15)::[]) [0,1,2,3,4,5,6,7,8] [26] (zq [5] 9 53::zq [9] 10 54::zq [10] 11 55::zq [11,4] 12 56::zq [11,12] 13 57::zq [11,13] 14 58::zq [14] 15 59::zq [15,7] 16 60::zq [15,16] 17 61::zq [15,17] 18 62::zq [18] 19 63::zq [18] 20 64::zq [15,18] 21 65::zq [15,21] 22 66::zq [22] 23 67::zq [23] 24 68::zq [23,24] 25 69::zq [25] 26 8::[]) [(_,_)] rfl ⟨z1 rfl,z4 rfl rfl,z8 hg6_2 rfl,zr' rfl (oM rfl),zr' rfl (oB rfl rfl),z3 false rfl,z8 hg6_6 rfl,zr' rfl (oM rfl),zr' rfl (oB rfl rfl),zr' rfl (op_move _ _ _ _ (zb hg6_9) rfl),zf rfl,zf rfl,zr' rfl (op_pick _ _ true _ rfl rfl),z3 true rfl,z1 rfl,zr' rfl (op_call _ _ 17 _ _ rfl call17 rfl (ok_wherrylaw03_wakes  _ hv15) rfl rfl),z3 true rfl,z2 rfl,zz⟩ ?_
          exact hl19 _ (Option.some.inj h).symm
         ·refine cond_some h (fun hg6_14 h => ?_) (fun hg6_14 h => ?_)
          ·obtain ⟨v16, hv16, h⟩ := bind_some h
           refine zg hn (_::_::_::_::_::_::_::_::_::(53,vi v6.2)::(54,vb (v6.2 == 0))::(55,vb false)::(56,vi v6.1)::(57,vb (v6.1 == 0))::(58,vb (v6.1 == 0))::(59,vb true)::(60,vi v7.2)::(61,vb (v7.2 == 0))::(62,vb false)::(63,vi v7.1)::(64,vb (v7.1 == 0))::(65,vb (v7.1 == 0))::(66,vb (v7.1 == 0))::(67,vb true)::(68,vb v16)::(69,vb v16)::(8,vb v16)::[]) [0,1,2,3,4,5,6,7,8] [26] (zq [5] 9 53::zq [9] 10 54::zq [10] 11 55::zq [11,4] 12 56::zq [11,12] 13 57::zq [11,13] 14 58::zq [14] 15 59::zq [15,7] 16 60::zq [15,16] 17 61::zq [15,17] 18 62::zq [18,6] 19 63::zq [18,19] 20 64::zq [15,18,20] 21 65::zq [15,21] 22 66::zq [22] 23 67::zq [23] 24 68::zq [23,24] 25 69::zq [25] 26 8::[]) [(_,_)] rfl ⟨z1 rfl,z4 rfl rfl,z8 hg6_2 rfl,zr' rfl (oM rfl),zr' rfl (oB rfl rfl),z3 false rfl,z8 hg6_6 rfl,zr' rfl (oM rfl),zr' rfl (oB rfl rfl),zr' rfl (op_move _ _ _ _ (zb hg6_9) rfl),zr' rfl (oM rfl),zr' rfl (oB rfl rfl),zr' rfl (op_pick _ _ false _ rfl rfl),z3 true rfl,z8 hg6_14 rfl,zr' rfl (op_call _ _ 17 _ _ rfl call17 rfl (ok_wherrylaw03_wakes  _ hv16) rfl rfl),z3 true rfl,z2 rfl,zz⟩ ?_
           exact hl19 _ (Option.some.inj h).symm
          ·refine zg hn (_::_::_::_::_::_::_::_::_::(53,vi v6.2)::(54,vb (v6.2 == 0))::(55,vb false)::(56,vi v6.1)::(57,vb (v6.1 == 0))::(58,vb (v6.1 == 0))::(59,vb true)::(60,vi v7.2)::(61,vb (v7.2 == 0))::(62,vb false)::(63,vi v7.1)::(64,vb (v7.1 == 0))::(65,vb (v7.1 == 0))::(66,vb (v7.1 == 0))::(67,vb false)::(68,.v undef)::(69,vb false)::(8,vb false)::[]) [0,1,2,3,4,5,6,7,8] [26] (zq [5] 9 53::zq [9] 10 54::zq [10] 11 55::zq [11,4] 12 56::zq [11,12] 13 57::zq [11,13] 14 58::zq [14] 15 59::zq [15,7] 16 60::zq [15,16] 17 61::zq [15,17] 18 62::zq [18,6] 19 63::zq [18,19] 20 64::zq [15,18,20] 21 65::zq [15,21] 22 66::zq [22] 23 67::zq [23] 24 68::zq [23] 25 69::zq [25] 26 8::[]) [(_,_)] rfl ⟨z1 rfl,z4 rfl rfl,z8 hg6_2 rfl,zr' rfl (oM rfl),zr' rfl (oB rfl rfl),z3 false rfl,z8 hg6_6 rfl,zr' rfl (oM rfl),zr' rfl (oB rfl rfl),zr' rfl (op_move _ _ _ _ (zb hg6_9) rfl),zr' rfl (oM rfl),zr' rfl (oB rfl rfl),zr' rfl (op_pick _ _ false _ rfl rfl),z3 true rfl,z8 hg6_14 rfl,zt rfl,z3 false rfl,z2 rfl,zz⟩ ?_
           exact hl19 _ (Option.some.inj h).symm
        ·refine zg hn (_::_::_::_::_::_::_::_::_::(53,vi v6.2)::(54,vb (v6.2 == 0))::(55,vb false)::(56,vi v6.1)::(57,vb (v6.1 == 0))::(58,vb (v6.1 == 0))::(59,vb false)::(60,.v undef)::(61,.v undef)::(62,.v undef)::(63,.v undef)::(64,.v undef)::(65,.v undef)::(66,vb false)::(67,vb false)::(68,.v undef)::(69,vb false)::(8,vb false)::[]) [0,1,2,3,4,5,6,7,8] [26] (zq [5] 9 53::zq [9] 10 54::zq [10] 11 55::zq [11,4] 12 56::zq [11,12] 13 57::zq [11,13] 14 58::zq [14] 15 59::zq [15] 16 60::zq [15] 17 61::zq [15] 18 62::zq [18] 19 63::zq [18] 20 64::zq [15] 21 65::zq [15] 22 66::zq [22] 23 67::zq [23] 24 68::zq [23] 25 69::zq [25] 26 8::[]) [(_,_)] rfl ⟨z1 rfl,z4 rfl rfl,z8 hg6_2 rfl,zr' rfl (oM rfl),zr' rfl (oB rfl rfl),z3 false rfl,z8 hg6_6 rfl,zt rfl,zt rfl,zt rfl,zu' rfl,zu' rfl,zt rfl,z3 false rfl,z1 rfl,zt rfl,z3 false rfl,z2 rfl,zz⟩ ?_
         exact hl19 _ (Option.some.inj h).symm
     ·have h := cond_f hb12 h
      refine ht_skip ?_
      refine pt_then (ht_seq ?_)
      obtain ⟨v21, hv21, h⟩ := bind_some h
      obtain ⟨v22, hv22, h⟩ := bind_some h
      obtain ⟨v23, hv23, h⟩ := bind_some h
      obtain ⟨v24, hv24, h⟩ := bind_some h
      obtain ⟨v25, hv25, h⟩ := bind_some h
      refine zg hn (_::_::_::_::_::_::_::_::_::(71,.fl .shr 1 (List.map (Value.int .i64) w))::(72,.fl (.own 3) 1 (List.map (Value.int .i64) v21))::(73,.fl .shr 1 (List.map (Value.int .i64) v))::(74,.fl (.own 3) 1 (List.map (Value.int .i64) v22))::(72,.any)::(75,.fl .shr 1 (List.map (Value.int .i64) l))::(76,.fl (.own 3) 1 (List.map (Value.int .i64) v23))::(77,.fl .shr 1 (List.map (Value.int .i64) k))::(78,.fl (.own 3) 1 (List.map (Value.int .i64) v24))::(76,.any)::(79,.tup [vi v25.1,vi v25.2])::(70,.tup [vi v25.1,vi v25.2])::(80,vi v25.1)::(81,vi v25.2)::(13,vi v25.1)::(14,vi v25.2)::[]) [0,1,2,3,4,5,6,7,8] [0,1,4,6,23,24] [zq [0] 9 71,zq [9] 10 72,zq [2] 11 73,⟨[11],[10],[13,12],[(.slot 74)]⟩,zq [1] 14 75,zq [14] 15 76,zq [3] 16 77,⟨[16],[15],[18,17],[(.slot 78)]⟩,zq [12,17] 19 79,⟨[],[19],[20],[(.slot 70)]⟩,zq [20] 21 80,zq [20] 22 81,zq [21] 23 13,zq [22] 24 14] [(_,_),(_,_),(_,_),(_,_),(_,_),(_,_)] rfl ⟨z1 rfl,zp rfl (op_call _ _ 11 _ _ rfl call11 rfl (ok_wherrykeep_TwinInts w _ hv21) rfl rfl),z1 rfl,zp rfl (op_app _ _ _ _ _ el22 rfl rfl (map_len _) (map_len _) hv22 ((List.map_append).symm.trans (congrArg (List.map _) (app_eq hv22)))),z1 rfl,zp rfl (op_call _ _ 11 _ _ rfl call11 rfl (ok_wherrykeep_TwinInts l _ hv23) rfl rfl),z1 rfl,zp rfl (op_app _ _ _ _ _ el22 rfl rfl (map_len _) (map_len _) hv24 ((List.map_append).symm.trans (congrArg (List.map _) (app_eq hv24)))),zp rfl (op_call _ _ 14 _ _ rfl call14 rfl (ok_tree_Cost v22 v24 _ hv25) rfl rfl),zp rfl (op_move_take _ _ _ _ rfl),zp rfl (oE rfl),zp rfl (oE rfl),z2 rfl,z2 rfl,zz⟩ ?_
      refine pt_then (ht_seq ?_)
      obtain ⟨v26, hv26, h⟩ := bind_some h
      obtain ⟨v27, hv27, h⟩ := bind_some h
      obtain ⟨v28, hv28, h⟩ := bind_some h
      refine zg hn (_::_::_::_::_::_::(83,.fl .shr 1 (List.map (Value.int .i64) w))::(84,.fl (.own 3) 1 (List.map (Value.int .i64) v26))::(85,.fl (.own 3) 1 (List.map (Value.int .i64) [1]))::(86,.fl (.own 3) 1 (List.map (Value.int .i64) v27))::(84,.any)::(87,.fl .shr 1 (List.map (Value.int .i64) l))::(88,.tup [vi v28.1,vi v28.2])::(82,.tup [vi v28.1,vi v28.2])::(89,vi v28.1)::(90,vi v28.2)::(15,vi v28.1)::(16,vi v28.2)::[]) [0,1,2,3,4,5] [2,3,4,5,17] [zq [0] 6 83,zq [6] 7 84,zq [] 8 85,⟨[8],[7],[10,9],[(.slot 86)]⟩,zq [1] 11 87,zq [9,11] 12 88,⟨[],[12],[13],[(.slot 82)]⟩,zq [13] 14 89,zq [13] 15 90,zq [14] 16 15,zq [15] 17 16] [(_,_),(_,_),(_,_),(_,_),(_,_)] rfl ⟨z1 rfl,zp rfl (op_call _ _ 11 _ _ rfl call11 rfl (ok_wherrykeep_TwinInts w _ hv26) rfl rfl),zp rfl (op_buildSlice _ _ 1 (.int .i64 0) (List.map (Value.int .i64) [1]) [(0, .int .i64 1)] underlying22 sz3 zr3 (fun _ V w o a hv hes => by simp only [List.map_toArray, List.map_cons, List.map_nil]; try rfl) (litfill (by simp [Instr.fill, Value.cells]; rfl) (by simp [List.range, List.range.loop] <;> rfl)) (by simp [Value.oneCell']) rfl (by decide) (by decide) (by decide)),zp rfl (op_app _ _ _ _ _ el22 rfl rfl (map_len _) (map_len _) hv27 ((List.map_append).symm.trans (congrArg (List.map _) (app_eq hv27)))),z1 rfl,zp rfl (op_call _ _ 14 _ _ rfl call14 rfl (ok_tree_Cost v27 l _ hv28) rfl rfl),zp rfl (op_move_take _ _ _ _ rfl),zp rfl (oE rfl),zp rfl (oE rfl),z2 rfl,z2 rfl,zz⟩ ?_
      refine pt_then (ht_seq ?_)
      refine ht_joinS h (fun (s31 : Bool) => [(8, .v (.bool s31))]) ?_ ?_
      ·rintro s31 h
       refine pt_then (ht_ret ?_)
       obtain rfl := Option.some.inj h
       exact pt_ret hio rfl (.tmp _ _ .nil) rfl rfl
      ·intro u32 h hl33 hr34
       refine cond_some h (fun hg9_2 h => ?_) (fun hg9_2 h => ?_)
       ·obtain ⟨v29, hv29, h⟩ := bind_some h
        refine cond_some h (fun hg9_9 h => ?_) (fun hg9_9 h => ?_)
        ·refine cond_some h (fun hg9_13 h => ?_) (fun hg9_13 h => ?_)
         ·obtain ⟨v30, hv30, h⟩ := bind_some h
          refine zg hn (_::_::_::_::_::(91,vi v25.2)::(92,vb (v25.2 == 0))::(93,vb true)::(94,vi v25.1)::(95,vi v6.1)::(96,vi v7.1)::(97,vi v29)::(98,vb (v25.1 == v29))::(99,vb (v25.1 == v29))::(100,vb true)::(101,vi v28.2)::(102,vb (v28.2 == 2))::(103,vb (v28.2 == 2))::(104,vb true)::(105,vb v30)::(106,vb v30)::(8,vb v30)::[]) [0,1,2,3,4] [21] (zq [3] 5 91::zq [5] 6 92::zq [6] 7 93::zq [7,2] 8 94::zq [7,0] 9 95::zq [7,1] 10 96::zq [7,9,10] 11 97::zq [7,8,11] 12 98::zq [7,12] 13 99::zq [13] 14 100::zq [14,4] 15 101::zq [14,15] 16 102::zq [14,16] 17 103::zq [17] 18 104::zq [18] 19 105::zq [18,19] 20 106::zq [20] 21 8::[]) [(_,_)] rfl ⟨z1 rfl,z4 rfl rfl,z8 hg9_2 rfl,zr' rfl (oM rfl),zr' rfl (oM rfl),zr' rfl (oM rfl),zr' rfl (oB rfl (ibind (f := Value.int .i64) (Option.some.inj hv29))),zr' rfl (oB rfl rfl),z3 true rfl,z8 hg9_9 rfl,zr' rfl (oM rfl),zr' rfl (oB rfl rfl),z3 true rfl,z8 hg9_13 rfl,zr' rfl (op_call _ _ 17 _ _ rfl call17 rfl (ok_wherrylaw03_wakes  _ hv30) rfl rfl),z3 true rfl,z2 rfl,zz⟩ ?_
          exact hl33 _ (Option.some.inj h).symm
         ·refine zg hn (_::_::_::_::_::(91,vi v25.2)::(92,vb (v25.2 == 0))::(93,vb true)::(94,vi v25.1)::(95,vi v6.1)::(96,vi v7.1)::(97,vi v29)::(98,vb (v25.1 == v29))::(99,vb (v25.1 == v29))::(100,vb true)::(101,vi v28.2)::(102,vb (v28.2 == 2))::(103,vb (v28.2 == 2))::(104,vb false)::(105,.v undef)::(106,vb false)::(8,vb false)::[]) [0,1,2,3,4] [21] (zq [3] 5 91::zq [5] 6 92::zq [6] 7 93::zq [7,2] 8 94::zq [7,0] 9 95::zq [7,1] 10 96::zq [7,9,10] 11 97::zq [7,8,11] 12 98::zq [7,12] 13 99::zq [13] 14 100::zq [14,4] 15 101::zq [14,15] 16 102::zq [14,16] 17 103::zq [17] 18 104::zq [18] 19 105::zq [18] 20 106::zq [20] 21 8::[]) [(_,_)] rfl ⟨z1 rfl,z4 rfl rfl,z8 hg9_2 rfl,zr' rfl (oM rfl),zr' rfl (oM rfl),zr' rfl (oM rfl),zr' rfl (oB rfl (ibind (f := Value.int .i64) (Option.some.inj hv29))),zr' rfl (oB rfl rfl),z3 true rfl,z8 hg9_9 rfl,zr' rfl (oM rfl),zr' rfl (oB rfl rfl),z3 true rfl,z8 hg9_13 rfl,zt rfl,z3 false rfl,z2 rfl,zz⟩ ?_
          exact hl33 _ (Option.some.inj h).symm
        ·refine zg hn (_::_::_::_::_::(91,vi v25.2)::(92,vb (v25.2 == 0))::(93,vb true)::(94,vi v25.1)::(95,vi v6.1)::(96,vi v7.1)::(97,vi v29)::(98,vb (v25.1 == v29))::(99,vb (v25.1 == v29))::(100,vb false)::(101,.v undef)::(102,.v undef)::(103,vb false)::(104,vb false)::(105,.v undef)::(106,vb false)::(8,vb false)::[]) [0,1,2,3,4] [21] (zq [3] 5 91::zq [5] 6 92::zq [6] 7 93::zq [7,2] 8 94::zq [7,0] 9 95::zq [7,1] 10 96::zq [7,9,10] 11 97::zq [7,8,11] 12 98::zq [7,12] 13 99::zq [13] 14 100::zq [14] 15 101::zq [14] 16 102::zq [14] 17 103::zq [17] 18 104::zq [18] 19 105::zq [18] 20 106::zq [20] 21 8::[]) [(_,_)] rfl ⟨z1 rfl,z4 rfl rfl,z8 hg9_2 rfl,zr' rfl (oM rfl),zr' rfl (oM rfl),zr' rfl (oM rfl),zr' rfl (oB rfl (ibind (f := Value.int .i64) (Option.some.inj hv29))),zr' rfl (oB rfl rfl),z3 true rfl,z8 hg9_9 rfl,zt rfl,zt rfl,z3 false rfl,z1 rfl,zt rfl,z3 false rfl,z2 rfl,zz⟩ ?_
         exact hl33 _ (Option.some.inj h).symm
       ·refine zg hn (_::_::_::_::_::(91,vi v25.2)::(92,vb (v25.2 == 0))::(93,vb false)::(94,.v undef)::(95,.v undef)::(96,.v undef)::(97,.v undef)::(98,.v undef)::(99,vb false)::(100,vb false)::(101,.v undef)::(102,.v undef)::(103,vb false)::(104,vb false)::(105,.v undef)::(106,vb false)::(8,vb false)::[]) [0,1,2,3,4] [21] (zq [3] 5 91::zq [5] 6 92::zq [6] 7 93::zq [7] 8 94::zq [7] 9 95::zq [7] 10 96::zq [7] 11 97::zq [7] 12 98::zq [7] 13 99::zq [13] 14 100::zq [14] 15 101::zq [14] 16 102::zq [14] 17 103::zq [17] 18 104::zq [18] 19 105::zq [18] 20 106::zq [20] 21 8::[]) [(_,_)] rfl ⟨z1 rfl,z4 rfl rfl,z8 hg9_2 rfl,zt rfl,zt rfl,zt rfl,zt rfl,zt rfl,z3 false rfl,z1 rfl,zt rfl,zt rfl,z3 false rfl,z1 rfl,zt rfl,z3 false rfl,z2 rfl,zz⟩ ?_
        exact hl33 _ (Option.some.inj h).symm
    ·intro u9 h hl10 hr11
     refine cond_some h (fun hg5_2 h => ?_) (fun hg5_2 h => ?_)
     ·refine zg hn [_,_,_,_,_,_,_,_,(47,vi v6.2),(48,vb (v6.2 != 0)),(49,vb true),(50,.v undef),(51,.v undef),(52,vb true)] [0,1,2,3,4,5,6,7] [0,1,2,3,4,5,6,7,13] [zq [5] 8 47,zq [8] 9 48,zq [9] 10 49,zq [10] 11 50,zq [10] 12 51,zq [10] 13 52] [(_,_),(_,_),(_,_),(_,_),(_,_),(_,_),(_,_),(_,_),(_,_)] rfl ⟨z1 rfl,z4 rfl rfl,z8 hg5_2 rfl,zf rfl,zf rfl,z3 true rfl,zz⟩ ?_
      exact hl10 _ (Option.some.inj h).symm
     ·refine zg hn [_,_,_,_,_,_,_,_,(47,vi v6.2),(48,vb (v6.2 != 0)),(49,vb false),(50,vi v7.2),(51,vb (v7.2 != 0)),(52,vb (v7.2 != 0))] [0,1,2,3,4,5,6,7] [0,1,2,3,4,5,6,7,13] [zq [5] 8 47,zq [8] 9 48,zq [9] 10 49,zq [10,7] 11 50,zq [10,11] 12 51,zq [10,12] 13 52] [(_,_),(_,_),(_,_),(_,_),(_,_),(_,_),(_,_),(_,_),(_,_)] rfl ⟨z1 rfl,z4 rfl rfl,z8 hg5_2 rfl,zr' rfl (oM rfl),zr' rfl (oB rfl rfl),z3 false rfl,zz⟩ ?_
      exact hl10 _ (Option.some.inj h).symm
  ·intro u2 h hl3 hr4
   refine cond_some h (fun hg1_3 h => ?_) (fun hg1_3 h => ?_)
   ·refine zg hn (_::_::_::_::(17,.fl .shr 1 (List.map (Value.int .i64) w))::(18,vi (w.length : Int))::(19,vb (decide (100 < (w.length : Int))))::(20,vb true)::(21,.v undef)::(22,.v undef)::(23,.v undef)::(24,vb true)::(25,vb true)::(26,.v undef)::(27,.v undef)::(28,.v undef)::(29,vb true)::(30,vb true)::(31,.v undef)::(32,.v undef)::(33,.v undef)::(34,vb true)::[]) [0,1,2,3] [0,1,2,3,21] (zq [0] 4 17::zq [4] 5 18::zq [5] 6 19::zq [6] 7 20::zq [7] 8 21::zq [7] 9 22::zq [7] 10 23::zq [7] 11 24::zq [11] 12 25::zq [12] 13 26::zq [12] 14 27::zq [12] 15 28::zq [12] 16 29::zq [16] 17 30::zq [17] 18 31::zq [17] 19 32::zq [17] 20 33::zq [17] 21 34::[]) [(_,_),(_,_),(_,_),(_,_),(_,_)] rfl ⟨z1 rfl,zp rfl (op_len_fl _ _ _ underlying22 rfl (by decide) (map_len _)),z4 rfl rfl,z8 hg1_3 rfl,zf rfl,zf rfl,zf rfl,z3 true rfl,z1 rfl,zf rfl,zf rfl,zf rfl,z3 true rfl,z1 rfl,zf rfl,zf rfl,zf rfl,z3 true rfl,zz⟩ ?_
    exact hl3 _ (Option.some.inj h).symm
   ·refine cond_some h (fun hg1_8 h => ?_) (fun hg1_8 h => ?_)
    ·refine zg hn (_::_::_::_::(17,.fl .shr 1 (List.map (Value.int .i64) w))::(18,vi (w.length : Int))::(19,vb (decide (100 < (w.length : Int))))::(20,vb false)::(21,.fl .shr 1 (List.map (Value.int .i64) v))::(22,vi (v.length : Int))::(23,vb (decide (100 < (v.length : Int))))::(24,vb (decide (100 < (v.length : Int))))::(25,vb true)::(26,.v undef)::(27,.v undef)::(28,.v undef)::(29,vb true)::(30,vb true)::(31,.v undef)::(32,.v undef)::(33,.v undef)::(34,vb true)::[]) [0,1,2,3] [0,1,2,3,21] (zq [0] 4 17::zq [4] 5 18::zq [5] 6 19::zq [6] 7 20::zq [7,2] 8 21::zq [7,8] 9 22::zq [7,9] 10 23::zq [7,10] 11 24::zq [11] 12 25::zq [12] 13 26::zq [12] 14 27::zq [12] 15 28::zq [12] 16 29::zq [16] 17 30::zq [17] 18 31::zq [17] 19 32::zq [17] 20 33::zq [17] 21 34::[]) [(_,_),(_,_),(_,_),(_,_),(_,_)] rfl ⟨z1 rfl,zp rfl (op_len_fl _ _ _ underlying22 rfl (by decide) (map_len _)),z4 rfl rfl,z8 hg1_3 rfl,zr' rfl (oM rfl),zr' rfl (op_len_fl _ _ _ underlying22 rfl (by decide) (map_len _)),zr' rfl (oB rfl rfl),z3 false rfl,z8 hg1_8 rfl,zf rfl,zf rfl,zf rfl,z3 true rfl,z1 rfl,zf rfl,zf rfl,zf rfl,z3 true rfl,zz⟩ ?_
     exact hl3 _ (Option.some.inj h).symm
    ·refine cond_some h (fun hg1_13 h => ?_) (fun hg1_13 h => ?_)
     ·refine zg hn (_::_::_::_::(17,.fl .shr 1 (List.map (Value.int .i64) w))::(18,vi (w.length : Int))::(19,vb (decide (100 < (w.length : Int))))::(20,vb false)::(21,.fl .shr 1 (List.map (Value.int .i64) v))::(22,vi (v.length : Int))::(23,vb (decide (100 < (v.length : Int))))::(24,vb (decide (100 < (v.length : Int))))::(25,vb false)::(26,.fl .shr 1 (List.map (Value.int .i64) l))::(27,vi (l.length : Int))::(28,vb (decide (100 < (l.length : Int))))::(29,vb (decide (100 < (l.length : Int))))::(30,vb true)::(31,.v undef)::(32,.v undef)::(33,.v undef)::(34,vb true)::[]) [0,1,2,3] [0,1,2,3,21] (zq [0] 4 17::zq [4] 5 18::zq [5] 6 19::zq [6] 7 20::zq [7,2] 8 21::zq [7,8] 9 22::zq [7,9] 10 23::zq [7,10] 11 24::zq [11] 12 25::zq [12,1] 13 26::zq [12,13] 14 27::zq [12,14] 15 28::zq [12,15] 16 29::zq [16] 17 30::zq [17] 18 31::zq [17] 19 32::zq [17] 20 33::zq [17] 21 34::[]) [(_,_),(_,_),(_,_),(_,_),(_,_)] rfl ⟨z1 rfl,zp rfl (op_len_fl _ _ _ underlying22 rfl (by decide) (map_len _)),z4 rfl rfl,z8 hg1_3 rfl,zr' rfl (oM rfl),zr' rfl (op_len_fl _ _ _ underlying22 rfl (by decide) (map_len _)),zr' rfl (oB rfl rfl),z3 false rfl,z8 hg1_8 rfl,zr' rfl (oM rfl),zr' rfl (op_len_fl _ _ _ underlying22 rfl (by decide) (map_len _)),zr' rfl (oB rfl rfl),z3 false rfl,z8 hg1_13 rfl,zf rfl,zf rfl,zf rfl,z3 true rfl,zz⟩ ?_
      exact hl3 _ (Option.some.inj h).symm
     ·refine zg hn (_::_::_::_::(17,.fl .shr 1 (List.map (Value.int .i64) w))::(18,vi (w.length : Int))::(19,vb (decide (100 < (w.length : Int))))::(20,vb false)::(21,.fl .shr 1 (List.map (Value.int .i64) v))::(22,vi (v.length : Int))::(23,vb (decide (100 < (v.length : Int))))::(24,vb (decide (100 < (v.length : Int))))::(25,vb false)::(26,.fl .shr 1 (List.map (Value.int .i64) l))::(27,vi (l.length : Int))::(28,vb (decide (100 < (l.length : Int))))::(29,vb (decide (100 < (l.length : Int))))::(30,vb false)::(31,.fl .shr 1 (List.map (Value.int .i64) k))::(32,vi (k.length : Int))::(33,vb (decide (100 < (k.length : Int))))::(34,vb (decide (100 < (k.length : Int))))::[]) [0,1,2,3] [0,1,2,3,21] (zq [0] 4 17::zq [4] 5 18::zq [5] 6 19::zq [6] 7 20::zq [7,2] 8 21::zq [7,8] 9 22::zq [7,9] 10 23::zq [7,10] 11 24::zq [11] 12 25::zq [12,1] 13 26::zq [12,13] 14 27::zq [12,14] 15 28::zq [12,15] 16 29::zq [16] 17 30::zq [17,3] 18 31::zq [17,18] 19 32::zq [17,19] 20 33::zq [17,20] 21 34::[]) [(_,_),(_,_),(_,_),(_,_),(_,_)] rfl ⟨z1 rfl,zp rfl (op_len_fl _ _ _ underlying22 rfl (by decide) (map_len _)),z4 rfl rfl,z8 hg1_3 rfl,zr' rfl (oM rfl),zr' rfl (op_len_fl _ _ _ underlying22 rfl (by decide) (map_len _)),zr' rfl (oB rfl rfl),z3 false rfl,z8 hg1_8 rfl,zr' rfl (oM rfl),zr' rfl (op_len_fl _ _ _ underlying22 rfl (by decide) (map_len _)),zr' rfl (oB rfl rfl),z3 false rfl,z8 hg1_13 rfl,zr' rfl (oM rfl),zr' rfl (op_len_fl _ _ _ underlying22 rfl (by decide) (map_len _)),zr' rfl (oB rfl rfl),z3 false rfl,zz⟩ ?_
      exact hl3 _ (Option.some.inj h).symm

end Go.Proofs.Ytohhijlgepnbeaa
