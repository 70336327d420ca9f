/-
  The model's runs are what is told in Lean.
-/
import Derived.Test.YtohhijlgepnbeaaProg
import Derived.KernelRfl
import Derived.Test.YtohhijlgepnbeaaShelf
import Derived.Test.YtohhijlgepnbeaaB4
import Derived.Test.YtohhijlgepnbeaaB5
import Derived.Test.YtohhijlgepnbeaaB8
import Derived.Test.YtohhijlgepnbeaaSrt
import Derived.Test.YtohhijlgepnbeaaOkc1
set_option linter.unusedVariables false
set_option linter.unusedSimpArgs false
set_option maxHeartbeats 1000000
namespace Go.Proofs.Ytohhijlgepnbeaa
open Go.Abs Go.Abs.Sh Try

theorem ok_wherrylaw03_TreeExact (w : (List Int)) (limit : Int) (l : (List Int)) (r : Bool) (h : Sh.wherrylaw03_TreeExact w limit l = some r) : FnOK Try.prog 3 [.fl .shr 1 (List.map (Value.int .i64) w), .v (.int .i64 limit), .fl .shr 1 (List.map (Value.int .i64) l)] (.v (.bool r)) := by
  unfold Sh.wherrylaw03_TreeExact at h
  refine fn_ok func3 rfl (zl rfl) rfl rfl fun g0 hn hio => ?_
  refine zgg hn [_,_,_,(6,vb false)] [0,1,2] [0,1,2] [zq [] 3 6] [(_,_),(_,_),(_,_)] rfl ⟨z2 rfl,zz⟩ ?_
  refine ht_seq ?_
  refine ht_seq ?_
  refine ht_joinS h (fun (s1 : Bool) => [(0, .fl .shr 1 (List.map (Value.int .i64) w)), (1, .v (.int .i64 limit)), (2, .fl .shr 1 (List.map (Value.int .i64) l)), (25, .v (.bool s1))]) ?_ ?_
  ·rintro s1 h
   refine pt_then ?_
   refine ht_cond _ rfl (fun hb5 => ?_) (fun hb5 => ?_)
   ·have h := cond_t hb5 h
    refine zgg hn [_,_,_,_,(6,vb true)] [0,1,2,3] [4] [zq [] 4 6] [(_,_)] rfl ⟨z2 rfl,zz⟩ ?_
    refine ht_ret ?_
    refine pt_r_then ?_
    obtain rfl := Option.some.inj h
    exact pt_ret hio rfl (.tmp _ _ .nil) rfl rfl
   ·have h := cond_f hb5 h
    refine ht_skip ?_
    refine pt_then (ht_seq ?_)
    obtain ⟨v6, hv6, h⟩ := bind_some h
    obtain ⟨v7, hv7, h⟩ := bind_some h
    refine zg hn [_,_,_,_,(26,.fl .shr 1 (List.map (Value.int .i64) w)),(27,.fl (.own 3) 1 (List.map (Value.int .i64) v6)),(28,.fl .shr 1 (List.map (Value.int .i64) l)),(29,.fl (.own 3) 1 (List.map (Value.int .i64) v7)),(7,.fl (.own 3) 1 (List.map (Value.int .i64) v6)),(8,.fl (.own 3) 1 (List.map (Value.int .i64) v7))] [0,1,2,3] [0,1,2,8,9] [zq [0] 4 26,zq [4] 5 27,zq [2] 6 28,zq [6] 7 29,⟨[],[5],[8],[(.slot 7)]⟩,⟨[],[7],[9],[(.slot 8)]⟩] [(_,_),(_,_),(_,_),(_,_),(_,_)] rfl ⟨z1 rfl,zp rfl (op_call _ _ 11 _ _ rfl call11 rfl (ok_wherrykeep_TwinInts w _ hv6) rfl rfl),z1 rfl,zp rfl (op_call _ _ 11 _ _ rfl call11 rfl (ok_wherrykeep_TwinInts l _ hv7) rfl rfl),zp rfl (op_assign_take _ _ _ _ rfl),zp rfl (op_assign_take _ _ _ _ rfl),zz⟩ ?_
    refine pt_then (ht_seq ?_)
    obtain ⟨v8, hv8, h⟩ := bind_some h
    refine zg hn [_,_,_,_,_,(31,.same (.slot 7)),(32,vi limit),(33,.tup [.fl (.own 3) 1 (List.map (Value.int .i64) v8.1),vi v8.2]),(30,.tup [.fl (.own 3) 1 (List.map (Value.int .i64) v8.1),vi v8.2]),(34,.fl (.own 3) 1 (List.map (Value.int .i64) v8.1)),(30,.tup [.any,vi v8.2]),(35,vi v8.2),(9,.fl (.own 3) 1 (List.map (Value.int .i64) v8.1)),(10,vi v8.2)] [0,1,2,3,4] [0,1,2,3,4,12,13] [zq [3] 5 31,zq [1] 6 32,zq [5,3,6] 7 33,⟨[],[7],[8],[(.slot 30)]⟩,⟨[],[8],[10,9],[(.slot 34)]⟩,zq [10] 11 35,⟨[],[9],[12],[(.slot 9)]⟩,zq [11] 13 10] [(_,_),(_,_),(_,_),(_,_),(_,_),(_,_),(_,_)] rfl ⟨z1 rfl,z1 rfl,zp rfl (op_call _ _ 12 _ _ rfl call12 rfl (ok_tree_Lengths v6 limit _ hv8) rfl rfl),zp rfl (op_move_take _ _ _ _ rfl),zp rfl (op_extract_take _ _ _ _ _ rfl (zl rfl) rfl rfl (by decide) rfl),zp rfl (oE rfl),zp rfl (op_assign_take _ _ _ _ rfl),z2 rfl,zz⟩ ?_
    refine pt_then (ht_seq ?_)
    obtain ⟨v9, hv9, h⟩ := bind_some h
    refine zg hn (_::_::_::_::_::_::_::(37,.fl .shr 1 (List.map (Value.int .i64) w))::(38,vi limit)::(39,.tup [.fl (.own 3) 1 (List.map (Value.int .i64) v9.1),vi v9.2])::(36,.tup [.fl (.own 3) 1 (List.map (Value.int .i64) v9.1),vi v9.2])::(40,.fl (.own 3) 1 (List.map (Value.int .i64) v9.1))::(36,.tup [.any,vi v9.2])::(41,vi v9.2)::(11,.fl (.own 3) 1 (List.map (Value.int .i64) v9.1))::(12,vi v9.2)::[]) [0,1,2,3,4,5,6] [0,2,3,4,5,6,14,15] [zq [0] 7 37,zq [1] 8 38,zq [7,8] 9 39,⟨[],[9],[10],[(.slot 36)]⟩,⟨[],[10],[12,11],[(.slot 40)]⟩,zq [12] 13 41,⟨[],[11],[14],[(.slot 11)]⟩,zq [13] 15 12] [(_,_),(_,_),(_,_),(_,_),(_,_),(_,_),(_,_),(_,_)] rfl ⟨z1 rfl,z1 rfl,zp rfl (op_call _ _ 13 _ _ rfl call13 rfl (ok_wherryref01_Lengths w limit _ hv9) rfl rfl),zp rfl (op_move_take _ _ _ _ rfl),zp rfl (op_extract_take _ _ _ _ _ rfl (zl rfl) rfl rfl (by decide) rfl),zp rfl (oE rfl),zp rfl (op_assign_take _ _ _ _ rfl),z2 rfl,zz⟩ ?_
    refine pt_then (ht_seq ?_)
    obtain ⟨v10, hv10, h⟩ := bind_some h
    refine zg hn (_::_::_::_::_::_::_::_::(43,.same (.slot 7))::(44,.same (.slot 8))::(45,.tup [vi v10.1,vi v10.2])::(42,.tup [vi v10.1,vi v10.2])::(46,vi v10.1)::(47,vi v10.2)::(13,vi v10.1)::(14,vi v10.2)::[]) [0,1,2,3,4,5,6,7] [0,1,2,3,4,5,6,7,14,15] [zq [2] 8 43,zq [3] 9 44,zq [8,2,9,3] 10 45,⟨[],[10],[11],[(.slot 42)]⟩,zq [11] 12 46,zq [11] 13 47,zq [12] 14 13,zq [13] 15 14] [(_,_),(_,_),(_,_),(_,_),(_,_),(_,_),(_,_),(_,_),(_,_),(_,_)] rfl ⟨z1 rfl,z1 rfl,zp rfl (op_call _ _ 14 _ _ rfl call14 rfl (ok_tree_Cost v6 v7 _ hv10) rfl rfl),zp rfl (op_move_take _ _ _ _ rfl),zp rfl (oE rfl),zp rfl (oE rfl),z2 rfl,z2 rfl,zz⟩ ?_
    refine pt_then (ht_seq ?_)
    obtain ⟨v11, hv11, h⟩ := bind_some h
    refine zg hn (_::_::_::_::_::_::_::_::_::_::(49,.fl .shr 1 (List.map (Value.int .i64) w))::(50,.fl .shr 1 (List.map (Value.int .i64) l))::(51,.tup [vi v11.1,vi v11.2])::(48,.tup [vi v11.1,vi v11.2])::(52,vi v11.1)::(53,vi v11.2)::(15,vi v11.1)::(16,vi v11.2)::[]) [0,1,2,3,4,5,6,7,8,9] [0,1,2,3,4,5,6,7,8,9,16,17] [zq [0] 10 49,zq [1] 11 50,zq [10,11] 12 51,⟨[],[12],[13],[(.slot 48)]⟩,zq [13] 14 52,zq [13] 15 53,zq [14] 16 15,zq [15] 17 16] [(_,_),(_,_),(_,_),(_,_),(_,_),(_,_),(_,_),(_,_),(_,_),(_,_),(_,_),(_,_)] rfl ⟨z1 rfl,z1 rfl,zp rfl (op_call _ _ 15 _ _ rfl call15 rfl (ok_wherryref01_Cost w l _ hv11) rfl rfl),zp rfl (op_move_take _ _ _ _ rfl),zp rfl (oE rfl),zp rfl (oE rfl),z2 rfl,z2 rfl,zz⟩ ?_
    refine pt_then (ht_seq ?_)
    refine ht_seq ?_
    refine ht_joinS h (fun (s13 : Bool) => [(0, .fl .shr 1 (List.map (Value.int .i64) w)), (2, .fl .shr 1 (List.map (Value.int .i64) l)), (7, .fl (.own 3) 1 (List.map (Value.int .i64) v6)), (8, .fl (.own 3) 1 (List.map (Value.int .i64) v7)), (9, .fl (.own 3) 1 (List.map (Value.int .i64) v8.1)), (72, .v (.bool s13))]) ?_ ?_
    ·rintro s13 h
     refine pt_then ?_
     refine ht_cond _ rfl (fun hb17 => ?_) (fun hb17 => ?_)
     ·have h := cond_t hb17 h
      refine zgg hn [_,_,_,_,_,_,(6,vb false)] [0,1,2,3,4,5] [6] [zq [] 6 6] [(_,_)] rfl ⟨z2 rfl,zz⟩ ?_
      refine ht_ret ?_
      refine pt_r_then ?_
      obtain rfl := Option.some.inj h
      exact pt_ret hio rfl (.tmp _ _ .nil) rfl rfl
     ·have h := cond_f hb17 h
      refine ht_skip ?_
      refine pt_then (ht_seq ?_)
      refine zgg hn [_,_,_,_,_,_,(17,vi 0)] [0,1,2,3,4,5] [0,1,2,3,4,6] [zq [] 6 17] [(_,_),(_,_),(_,_),(_,_),(_,_),(_,_)] rfl ⟨z2 rfl,zz⟩ ?_
      refine ht_loopS h (fun ((s28, s29) : (List Int) × Int) => [(0, .fl .shr 1 (List.map (Value.int .i64) w)), (2, .fl .shr 1 (List.map (Value.int .i64) l)), (7, .fl (.own 3) 1 (List.map (Value.int .i64) v6)), (8, .fl (.own 3) 1 (List.map (Value.int .i64) v7)), (9, .fl (.own 3) 1 (List.map (Value.int .i64) s28)), (17, .v (.int .i64 s29))]) (fun (() : Unit) => [(0, .fl .shr 1 (List.map (Value.int .i64) w)), (2, .fl .shr 1 (List.map (Value.int .i64) l)), (7, .fl (.own 3) 1 (List.map (Value.int .i64) v6)), (8, .fl (.own 3) 1 (List.map (Value.int .i64) v7))]) ?_ ?_
      ·rintro ⟨⟩ h
       refine pt_then (ht_seq ?_)
       refine ht_joinS h (fun (s41 : Bool) => [(6, .v (.bool s41))]) ?_ ?_
       ·rintro s41 h
        refine pt_then (ht_ret ?_)
        obtain rfl := Option.some.inj h
        exact pt_ret hio rfl (.tmp _ _ .nil) rfl rfl
       ·intro u42 h hl43 hr44
        obtain ⟨v38, hv38, h⟩ := bind_some h
        refine cond_some h (fun hg14_3 h => ?_) (fun hg14_3 h => ?_)
        ·obtain ⟨v39, hv39, h⟩ := bind_some h
         refine cond_some h (fun hg14_8 h => ?_) (fun hg14_8 h => ?_)
         ·obtain ⟨v40, hv40, h⟩ := bind_some h
          refine zg hn (_::_::_::_::(87,.fl (.own 3) 1 (List.map (Value.int .i64) v6))::(88,.fl .shr 1 (List.map (Value.int .i64) w))::(89,vb v38)::(90,vb true)::(91,.fl (.own 3) 1 (List.map (Value.int .i64) v7))::(92,.fl .shr 1 (List.map (Value.int .i64) l))::(93,vb v39)::(94,vb v39)::(95,vb true)::(96,vb v40)::(97,vb v40)::(6,vb v40)::[]) [0,1,2,3] [15] [⟨[],[2],[4],[(.slot 87)]⟩,zq [0] 5 88,zq [4,5] 6 89,zq [6] 7 90,⟨[7],[3],[8],[(.slot 91)]⟩,zq [7,1] 9 92,zq [7,8,9] 10 93,zq [7,10] 11 94,zq [11] 12 95,zq [12] 13 96,zq [12,13] 14 97,zq [14] 15 6] [(_,_)] rfl ⟨zp rfl (op_move_take _ _ _ _ rfl),z1 rfl,zp rfl (op_call _ _ 16 _ _ rfl call16 rfl (ok_wherrykeep_Ints v6 w _ hv38) rfl rfl),z8 hg14_3 rfl,zr' rfl (op_move_take _ _ _ _ rfl),zr' rfl (oM rfl),zr' rfl (op_call _ _ 16 _ _ rfl call16 rfl (ok_wherrykeep_Ints v7 l _ hv39) rfl rfl),z3 true rfl,z8 hg14_8 rfl,zr' rfl (op_call _ _ 17 _ _ rfl call17 rfl (ok_wherrylaw03_wakes  _ hv40) rfl rfl),z3 true rfl,z2 rfl,zz⟩ ?_
          exact hl43 _ (Option.some.inj h).symm
         ·refine zg hn (_::_::_::_::(87,.fl (.own 3) 1 (List.map (Value.int .i64) v6))::(88,.fl .shr 1 (List.map (Value.int .i64) w))::(89,vb v38)::(90,vb true)::(91,.fl (.own 3) 1 (List.map (Value.int .i64) v7))::(92,.fl .shr 1 (List.map (Value.int .i64) l))::(93,vb v39)::(94,vb v39)::(95,vb false)::(96,.v undef)::(97,vb false)::(6,vb false)::[]) [0,1,2,3] [15] [⟨[],[2],[4],[(.slot 87)]⟩,zq [0] 5 88,zq [4,5] 6 89,zq [6] 7 90,⟨[7],[3],[8],[(.slot 91)]⟩,zq [7,1] 9 92,zq [7,8,9] 10 93,zq [7,10] 11 94,zq [11] 12 95,zq [12] 13 96,zq [12] 14 97,zq [14] 15 6] [(_,_)] rfl ⟨zp rfl (op_move_take _ _ _ _ rfl),z1 rfl,zp rfl (op_call _ _ 16 _ _ rfl call16 rfl (ok_wherrykeep_Ints v6 w _ hv38) rfl rfl),z8 hg14_3 rfl,zr' rfl (op_move_take _ _ _ _ rfl),zr' rfl (oM rfl),zr' rfl (op_call _ _ 16 _ _ rfl call16 rfl (ok_wherrykeep_Ints v7 l _ hv39) rfl rfl),z3 true rfl,z8 hg14_8 rfl,zt rfl,z3 false rfl,z2 rfl,zz⟩ ?_
          exact hl43 _ (Option.some.inj h).symm
        ·refine zg hn (_::_::_::_::(87,.fl (.own 3) 1 (List.map (Value.int .i64) v6))::(88,.fl .shr 1 (List.map (Value.int .i64) w))::(89,vb v38)::(90,vb false)::(91,.v undef)::(92,.v undef)::(93,.v undef)::(94,vb false)::(95,vb false)::(96,.v undef)::(97,vb false)::(6,vb false)::[]) [0,1,2,3] [15] [⟨[],[2],[4],[(.slot 87)]⟩,zq [0] 5 88,zq [4,5] 6 89,zq [6] 7 90,zq [7] 8 91,zq [7] 9 92,zq [7] 10 93,zq [7] 11 94,zq [11] 12 95,zq [12] 13 96,zq [12] 14 97,zq [14] 15 6] [(_,_)] rfl ⟨zp rfl (op_move_take _ _ _ _ rfl),z1 rfl,zp rfl (op_call _ _ 16 _ _ rfl call16 rfl (ok_wherrykeep_Ints v6 w _ hv38) rfl rfl),z8 hg14_3 rfl,zt rfl,zt rfl,zt rfl,z3 false rfl,z1 rfl,zt rfl,z3 false rfl,z2 rfl,zz⟩ ?_
         exact hl43 _ (Option.some.inj h).symm
      ·rintro u31 hl32 hr33 ⟨s28, s29⟩ rr36 h ho34
       refine ht_seq ?_
       refine zgg hn [_,_,_,_,_,_,(73,vi s29),(74,.same (.slot 9)),(75,vi (s28.length : Int)),(76,vb (decide (s29 < (s28.length : Int))))] [0,1,2,3,4,5] [0,1,2,3,4,5,9] [zq [5] 6 73,zq [4] 7 74,zq [7,4] 8 75,zq [6,8] 9 76] [(_,_),(_,_),(_,_),(_,_),(_,_),(_,_),(_,_)] rfl ⟨z1 rfl,z1 rfl,zp rfl (op_len_fl _ _ _ underlying22 rfl (by decide) (map_len _)),z4 rfl rfl,zz⟩ ?_
       refine ht_cond _ rfl (fun hb37 => ?_) (fun hb37 => ?_)
       ·have h := cond_t hb37 h
        refine ht_skip ?_
        refine pt_then (ht_seq ?_)
        refine ht_block ?_
        obtain ⟨v19, hv19, h⟩ := bind_some h
        obtain ⟨v20, hv20, h⟩ := bind_some h
        obtain ⟨v21, hv21, h⟩ := bind_some h
        obtain ⟨v22, hv22, h⟩ := bind_some h
        obtain ⟨v23, hv23, h⟩ := bind_some h
        refine zg hn (_::_::_::_::_::_::_::(79,.same (.slot 9))::(80,vi s29)::(81,.same (.slot 9))::(82,vi s29)::(83,.eref (.slot 9) (v19 * 1))::(84,vi v20)::(85,vi v21)::(86,.eref (.slot 9) (v22 * 1))::(9,.fl (.own 3) 1 (List.map (Value.int .i64) v23))::[]) [0,1,2,3,4,5,6] [0,1,2,3,15,5] [zq [4] 7 79,zq [5] 8 80,zq [4] 9 81,zq [5] 10 82,zq [9,4,10] 11 83,zq [11,4] 12 84,zq [12] 13 85,zq [7,4,8] 14 86,⟨[14,13],[4],[15],[]⟩] [(_,_),(_,_),(_,_),(_,_),(_,_),(_,_)] rfl ⟨z1 rfl,z1 rfl,z1 rfl,z1 rfl,zp rfl (op_ix _ _ _ _ _ _ _ _ underlying22 sz3 (by decide) rfl rfl rfl (ix_ok hv19).1 (map_lt (ix_ok hv19).2) rfl),zp rfl (op_load_e _ _ _ _ _ _ underlying3 rfl rfl rfl (map_get hv20)),zp rfl (oB rfl (ibind (f := Value.int .i64) (Option.some.inj hv21))),zp rfl (op_ix _ _ _ _ _ _ _ _ underlying22 sz3 (by decide) rfl rfl rfl (ix_ok hv22).1 (map_lt (ix_ok hv22).2) rfl),zp rfl (op_store_e _ _ _ _ _ _ _ _ sz3 rfl rfl rfl (by decide) (map_lt (ix_ok hv22).2) ((map_set (f := Value.int .i64) _ (ix_ok hv22).2).trans (congrArg (List.map _) (Option.some.inj hv23)))),zz⟩ ?_
        refine pt_inb ?_
        refine pt_then ?_
        obtain ⟨v24, hv24, h⟩ := bind_some h
        refine zg hn [_,_,_,_,_,_,(77,vi s29),(78,vi v24),(17,vi v24)] [0,1,2,3,4,5] [0,1,2,3,4,8] [zq [5] 6 77,zq [6] 7 78,⟨[7],[5],[8],[(.slot 17)]⟩] [(_,_),(_,_),(_,_),(_,_),(_,_),(_,_)] rfl ⟨z1 rfl,zp rfl (oB rfl (ibind (f := Value.int .i64) (Option.some.inj hv24))),zp rfl (LOp.drop [_] (op_assign _ _ _ _ rfl rfl)),zz⟩ ?_
        exact pt_next _ (Option.some.inj h).symm rfl
       ·have h := cond_f hb37 h
        refine ht_exit ?_
        refine pt_x_then ?_
        refine pt_x_then ?_
        refine pt_x_in ?_
        refine pt_pick [0, 1, 2, 3] (by kernel_rfl) (es' := [(_,_),(_,_),(_,_),(_,_)]) rfl ?_
        exact hl32 _ (ho34 _ (Option.some.inj h).symm).symm
    ·intro u14 h hl15 hr16
     refine cond_some h (fun hg8_3 h => ?_) (fun hg8_3 h => ?_)
     ·refine zg hn (_::_::_::_::_::_::_::_::_::_::_::_::(54,vi v8.2)::(55,vi v9.2)::(56,vb (v8.2 != v9.2))::(57,vb true)::(58,.v undef)::(59,.v undef)::(60,.v undef)::(61,.v undef)::(62,vb true)::(63,vb true)::(64,.v undef)::(65,.v undef)::(66,.v undef)::(67,vb true)::(68,vb true)::(69,.v undef)::(70,.v undef)::(71,.v undef)::(72,vb true)::[]) [0,1,2,3,4,5,6,7,8,9,10,11] [0,1,2,3,4,30] (zq [5] 12 54::zq [7] 13 55::zq [12,13] 14 56::zq [14] 15 57::zq [15] 16 58::zq [15] 17 59::zq [15] 18 60::zq [15] 19 61::zq [15] 20 62::zq [20] 21 63::zq [21] 22 64::zq [21] 23 65::zq [21] 24 66::zq [21] 25 67::zq [25] 26 68::zq [26] 27 69::zq [26] 28 70::zq [26] 29 71::zq [26] 30 72::[]) [(_,_),(_,_),(_,_),(_,_),(_,_),(_,_)] rfl ⟨z1 rfl,z1 rfl,z4 rfl rfl,z8 hg8_3 rfl,zf rfl,zf rfl,zf rfl,zf rfl,z3 true rfl,z1 rfl,zf rfl,zf rfl,zf rfl,z3 true rfl,z1 rfl,zf rfl,zf rfl,zf rfl,z3 true rfl,zz⟩ ?_
      exact hl15 _ (Option.some.inj h).symm
     ·obtain ⟨v12, hv12, h⟩ := bind_some h
      refine cond_some h (fun hg8_9 h => ?_) (fun hg8_9 h => ?_)
      ·refine zg hn (_::_::_::_::_::_::_::_::_::_::_::_::(54,vi v8.2)::(55,vi v9.2)::(56,vb (v8.2 != v9.2))::(57,vb false)::(58,.same (.slot 9))::(59,.fl (.own 3) 1 (List.map (Value.int .i64) v9.1))::(60,vb v12)::(61,vb (!v12))::(62,vb (!v12))::(63,vb true)::(64,.v undef)::(65,.v undef)::(66,.v undef)::(67,vb true)::(68,vb true)::(69,.v undef)::(70,.v undef)::(71,.v undef)::(72,vb true)::[]) [0,1,2,3,4,5,6,7,8,9,10,11] [0,1,2,3,4,30] (zq [5] 12 54::zq [7] 13 55::zq [12,13] 14 56::zq [14] 15 57::zq [15,4] 16 58::⟨[15],[6],[17],[(.slot 59)]⟩::zq [15,16,4,17] 18 60::zq [15,18] 19 61::zq [15,19] 20 62::zq [20] 21 63::zq [21] 22 64::zq [21] 23 65::zq [21] 24 66::zq [21] 25 67::zq [25] 26 68::zq [26] 27 69::zq [26] 28 70::zq [26] 29 71::zq [26] 30 72::[]) [(_,_),(_,_),(_,_),(_,_),(_,_),(_,_)] rfl ⟨z1 rfl,z1 rfl,z4 rfl rfl,z8 hg8_3 rfl,zr' rfl (oM rfl),zr' rfl (op_move_take _ _ _ _ rfl),zr' rfl (op_call _ _ 16 _ _ rfl call16 rfl (ok_wherrykeep_Ints v8.1 v9.1 _ hv12) rfl rfl),zr' rfl (op_un _ _ _ _ rfl rfl),z3 false rfl,z8 hg8_9 rfl,zf rfl,zf rfl,zf rfl,z3 true rfl,z1 rfl,zf rfl,zf rfl,zf rfl,z3 true rfl,zz⟩ ?_
       exact hl15 _ (Option.some.inj h).symm
      ·refine cond_some h (fun hg8_14 h => ?_) (fun hg8_14 h => ?_)
       ·refine zg hn (_::_::_::_::_::_::_::_::_::_::_::_::(54,vi v8.2)::(55,vi v9.2)::(56,vb (v8.2 != v9.2))::(57,vb false)::(58,.same (.slot 9))::(59,.fl (.own 3) 1 (List.map (Value.int .i64) v9.1))::(60,vb v12)::(61,vb (!v12))::(62,vb (!v12))::(63,vb false)::(64,vi v10.2)::(65,vi v11.2)::(66,vb (v10.2 != v11.2))::(67,vb (v10.2 != v11.2))::(68,vb true)::(69,.v undef)::(70,.v undef)::(71,.v undef)::(72,vb true)::[]) [0,1,2,3,4,5,6,7,8,9,10,11] [0,1,2,3,4,30] (zq [5] 12 54::zq [7] 13 55::zq [12,13] 14 56::zq [14] 15 57::zq [15,4] 16 58::⟨[15],[6],[17],[(.slot 59)]⟩::zq [15,16,4,17] 18 60::zq [15,18] 19 61::zq [15,19] 20 62::zq [20] 21 63::zq [21,9] 22 64::zq [21,11] 23 65::zq [21,22,23] 24 66::zq [21,24] 25 67::zq [25] 26 68::zq [26] 27 69::zq [26] 28 70::zq [26] 29 71::zq [26] 30 72::[]) [(_,_),(_,_),(_,_),(_,_),(_,_),(_,_)] rfl ⟨z1 rfl,z1 rfl,z4 rfl rfl,z8 hg8_3 rfl,zr' rfl (oM rfl),zr' rfl (op_move_take _ _ _ _ rfl),zr' rfl (op_call _ _ 16 _ _ rfl call16 rfl (ok_wherrykeep_Ints v8.1 v9.1 _ hv12) rfl rfl),zr' rfl (op_un _ _ _ _ rfl rfl),z3 false rfl,z8 hg8_9 rfl,zr' rfl (oM rfl),zr' rfl (oM rfl),zr' rfl (oB rfl rfl),z3 false rfl,z8 hg8_14 rfl,zf rfl,zf rfl,zf rfl,z3 true rfl,zz⟩ ?_
        exact hl15 _ (Option.some.inj h).symm
       ·refine zg hn (_::_::_::_::_::_::_::_::_::_::_::_::(54,vi v8.2)::(55,vi v9.2)::(56,vb (v8.2 != v9.2))::(57,vb false)::(58,.same (.slot 9))::(59,.fl (.own 3) 1 (List.map (Value.int .i64) v9.1))::(60,vb v12)::(61,vb (!v12))::(62,vb (!v12))::(63,vb false)::(64,vi v10.2)::(65,vi v11.2)::(66,vb (v10.2 != v11.2))::(67,vb (v10.2 != v11.2))::(68,vb false)::(69,vi v10.1)::(70,vi v11.1)::(71,vb (v10.1 != v11.1))::(72,vb (v10.1 != v11.1))::[]) [0,1,2,3,4,5,6,7,8,9,10,11] [0,1,2,3,4,30] (zq [5] 12 54::zq [7] 13 55::zq [12,13] 14 56::zq [14] 15 57::zq [15,4] 16 58::⟨[15],[6],[17],[(.slot 59)]⟩::zq [15,16,4,17] 18 60::zq [15,18] 19 61::zq [15,19] 20 62::zq [20] 21 63::zq [21,9] 22 64::zq [21,11] 23 65::zq [21,22,23] 24 66::zq [21,24] 25 67::zq [25] 26 68::zq [26,8] 27 69::zq [26,10] 28 70::zq [26,27,28] 29 71::zq [26,29] 30 72::[]) [(_,_),(_,_),(_,_),(_,_),(_,_),(_,_)] rfl ⟨z1 rfl,z1 rfl,z4 rfl rfl,z8 hg8_3 rfl,zr' rfl (oM rfl),zr' rfl (op_move_take _ _ _ _ rfl),zr' rfl (op_call _ _ 16 _ _ rfl call16 rfl (ok_wherrykeep_Ints v8.1 v9.1 _ hv12) rfl rfl),zr' rfl (op_un _ _ _ _ rfl rfl),z3 false rfl,z8 hg8_9 rfl,zr' rfl (oM rfl),zr' rfl (oM rfl),zr' rfl (oB rfl rfl),z3 false rfl,z8 hg8_14 rfl,zr' rfl (oM rfl),zr' rfl (oM rfl),zr' rfl (oB rfl rfl),z3 false rfl,zz⟩ ?_
        exact hl15 _ (Option.some.inj h).symm
  ·intro u2 h hl3 hr4
   refine cond_some h (fun hg1_3 h => ?_) (fun hg1_3 h => ?_)
   ·refine zg hn [_,_,_,(18,.fl .shr 1 (List.map (Value.int .i64) w)),(19,vi (w.length : Int)),(20,vb (decide (320 < (w.length : Int)))),(21,vb true),(22,.v undef),(23,.v undef),(24,.v undef),(25,vb true)] [0,1,2] [0,1,2,10] [zq [0] 3 18,zq [3] 4 19,zq [4] 5 20,zq [5] 6 21,zq [6] 7 22,zq [6] 8 23,zq [6] 9 24,zq [6] 10 25] [(_,_),(_,_),(_,_),(_,_)] rfl ⟨z1 rfl,zp rfl (op_len_fl _ _ _ underlying22 rfl (by decide) (map_len _)),z4 rfl rfl,z8 hg1_3 rfl,zf rfl,zf rfl,zf rfl,z3 true rfl,zz⟩ ?_
    exact hl3 _ (Option.some.inj h).symm
   ·refine zg hn [_,_,_,(18,.fl .shr 1 (List.map (Value.int .i64) w)),(19,vi (w.length : Int)),(20,vb (decide (320 < (w.length : Int)))),(21,vb false),(22,.fl .shr 1 (List.map (Value.int .i64) l)),(23,vi (l.length : Int)),(24,vb (decide (320 < (l.length : Int)))),(25,vb (decide (320 < (l.length : Int))))] [0,1,2] [0,1,2,10] [zq [0] 3 18,zq [3] 4 19,zq [4] 5 20,zq [5] 6 21,zq [6,2] 7 22,zq [6,7] 8 23,zq [6,8] 9 24,zq [6,9] 10 25] [(_,_),(_,_),(_,_),(_,_)] rfl ⟨z1 rfl,zp rfl (op_len_fl _ _ _ underlying22 rfl (by decide) (map_len _)),z4 rfl rfl,z8 hg1_3 rfl,zr' rfl (oM rfl),zr' rfl (op_len_fl _ _ _ underlying22 rfl (by decide) (map_len _)),zr' rfl (oB rfl rfl),z3 false rfl,zz⟩ ?_
    exact hl3 _ (Option.some.inj h).symm

end Go.Proofs.Ytohhijlgepnbeaa
