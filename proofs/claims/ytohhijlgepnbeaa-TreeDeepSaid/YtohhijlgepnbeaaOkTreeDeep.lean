/-
  The model's runs are what is told in Lean.
-/
import Derived.Test.YtohhijlgepnbeaaProg
import Derived.KernelRfl
import Derived.Test.YtohhijlgepnbeaaShelf
import Derived.Test.YtohhijlgepnbeaaB4
import Derived.Test.YtohhijlgepnbeaaB5
import Derived.Test.YtohhijlgepnbeaaB8
import Derived.Test.YtohhijlgepnbeaaSrt
import Derived.Test.YtohhijlgepnbeaaOkc1
set_option linter.unusedVariables false
set_option linter.unusedSimpArgs false
set_option maxHeartbeats 1000000
namespace Go.Proofs.Ytohhijlgepnbeaa
open Go.Abs Go.Abs.Sh Try

theorem ok_wherrylaw03_TreeDeep (n : Int) (limit : Int) (r : Bool) (h : Sh.wherrylaw03_TreeDeep n limit = some r) : FnOK Try.prog 7 [.v (.int .i64 n), .v (.int .i64 limit)] (.v (.bool r)) := by
  unfold Sh.wherrylaw03_TreeDeep at h
  refine fn_ok func7 rfl (zl rfl) rfl rfl fun g0 hn hio => ?_
  refine zgg hn [_,_,(4,vb false)] [0,1] [0,1] [zq [] 2 4] [(_,_),(_,_)] rfl ⟨z2 rfl,zz⟩ ?_
  refine ht_seq ?_
  obtain ⟨v1, hv1, h⟩ := bind_some h
  obtain ⟨v2, hv2, h⟩ := bind_some h
  obtain ⟨v3, hv3, h⟩ := bind_some h
  obtain ⟨v4, hv4, h⟩ := bind_some h
  obtain ⟨v5, hv5, h⟩ := bind_some h
  obtain ⟨v6, hv6, h⟩ := bind_some h
  obtain ⟨v7, hv7, h⟩ := bind_some h
  obtain ⟨v8, hv8, h⟩ := bind_some h
  refine zg hn [_,_,(13,vi n),(14,.v (.int .u64 v1)),(15,.v (.int .u64 v2)),(16,vi v3),(17,vi v4),(18,vi limit),(19,.v (.int .u64 v5)),(20,.v (.int .u64 v6)),(21,vi v7),(22,vi v8),(0,vi v4),(1,vi v8)] [0,1] [12,13] [zq [0] 2 13,zq [2] 3 14,zq [3] 4 15,zq [4] 5 16,zq [5] 6 17,zq [1] 7 18,zq [7] 8 19,zq [8] 9 20,zq [9] 10 21,zq [10] 11 22,⟨[6],[0],[12],[(.slot 0)]⟩,⟨[11],[1],[13],[(.slot 1)]⟩] [(_,_),(_,_)] rfl ⟨z1 rfl,zp rfl ((Option.some.inj hv1) ▸ op_conv _ _ _ underlying3 underlying33 rfl),zp rfl (oB rfl (rem_ok hv2)),zp rfl ((Option.some.inj hv3) ▸ op_conv _ _ _ underlying33 underlying3 rfl),zp rfl (oB rfl (ibind (f := Value.int .i64) (Option.some.inj hv4))),z1 rfl,zp rfl ((Option.some.inj hv5) ▸ op_conv _ _ _ underlying3 underlying33 rfl),zp rfl (oB rfl (rem_ok hv6)),zp rfl ((Option.some.inj hv7) ▸ op_conv _ _ _ underlying33 underlying3 rfl),zp rfl (oB rfl (ibind (f := Value.int .i64) (Option.some.inj hv8))),zp rfl (LOp.drop [_] (op_assign _ _ _ _ rfl rfl)),zp rfl (LOp.drop [_] (op_assign _ _ _ _ rfl rfl)),zz⟩ ?_
  refine pt_then ?_
  refine zgg hn [_,_,(5,vi 1),(6,vi 1)] [0,1] [0,1,2,3] [zq [] 2 5,zq [] 3 6] [(_,_),(_,_),(_,_),(_,_)] rfl ⟨z2 rfl,z2 rfl,zz⟩ ?_
  refine zgg hn [_,_,_,_,(7,.v (.slice none 0 0))] [0,1,2,3] [0,1,2,3,4] [zq [] 4 7] [(_,_),(_,_),(_,_),(_,_),(_,_)] rfl ⟨z2 rfl,zz⟩ ?_
  refine ht_seq ?_
  refine zgg hn [_,_,_,_,_,(8,vi 0)] [0,1,2,3,4] [0,1,2,3,4,5] [zq [] 5 8] [(_,_),(_,_),(_,_),(_,_),(_,_),(_,_)] rfl ⟨z2 rfl,zz⟩ ?_
  refine ht_sub (fs := [(0, .v (.int .i64 v4)), (1, .v (.int .i64 v8)), (5, .v (.int .i64 1)), (6, .v (.int .i64 1)), (7, .fl (.own 3) 1 (List.map (Value.int .i64) [])), (8, .v (.int .i64 0))]) (.same _ (.same _ (.same _ (.same _ (.sub _ (sub_nil 3 1) rfl (.same _ .nil)))))) ?_
  refine ht_loopS h (fun ((s22, s23, s24, s25) : Int × Int × (List Int) × Int) => [(0, .v (.int .i64 v4)), (1, .v (.int .i64 v8)), (5, .v (.int .i64 s22)), (6, .v (.int .i64 s23)), (7, .fl (.own 3) 1 (List.map (Value.int .i64) s24)), (8, .v (.int .i64 s25))]) (fun (s27 : (List Int)) => [(0, .v (.int .i64 v4)), (1, .v (.int .i64 v8)), (7, .fl (.own 3) 1 (List.map (Value.int .i64) s27))]) ?_ ?_
  ·rintro s27 h
   refine pt_then (ht_seq ?_)
   obtain ⟨v35, hv35, h⟩ := bind_some h
   refine zg hn [_,_,_,(37,.fl (.own 3) 1 (List.map (Value.int .i64) s27)),(38,vi v8),(39,.tup [.fl (.own 3) 1 (List.map (Value.int .i64) v35.1),vi v35.2]),(36,.tup [.fl (.own 3) 1 (List.map (Value.int .i64) v35.1),vi v35.2]),(40,.fl (.own 3) 1 (List.map (Value.int .i64) v35.1)),(36,.tup [.any,vi v35.2]),(41,vi v35.2),(9,.fl (.own 3) 1 (List.map (Value.int .i64) v35.1)),(10,vi v35.2)] [0,1,2] [0,1,10,11] [⟨[],[2],[3],[(.slot 37)]⟩,zq [1] 4 38,zq [3,4] 5 39,⟨[],[5],[6],[(.slot 36)]⟩,⟨[],[6],[8,7],[(.slot 40)]⟩,zq [8] 9 41,⟨[],[7],[10],[(.slot 9)]⟩,zq [9] 11 10] [(_,_),(_,_),(_,_),(_,_)] rfl ⟨zp rfl (op_move_take _ _ _ _ rfl),z1 rfl,zp rfl (op_call _ _ 12 _ _ rfl call12 rfl (ok_tree_Lengths s27 v8 _ hv35) rfl rfl),zp rfl (op_move_take _ _ _ _ rfl),zp rfl (op_extract_take _ _ _ _ _ rfl (zl rfl) rfl rfl (by decide) rfl),zp rfl (oE rfl),zp rfl (op_assign_take _ _ _ _ rfl),z2 rfl,zz⟩ ?_
   refine pt_then (ht_seq ?_)
   refine ht_seq ?_
   refine ht_joinS h (fun (s37 : Bool) => [(0, .v (.int .i64 v4)), (1, .v (.int .i64 v8)), (9, .fl (.own 3) 1 (List.map (Value.int .i64) v35.1)), (54, .v (.bool s37))]) ?_ ?_
   ·rintro s37 h
    refine pt_then ?_
    refine ht_cond _ rfl (fun hb41 => ?_) (fun hb41 => ?_)
    ·have h := cond_t hb41 h
     refine zgg hn [_,_,_,_,(4,vb false)] [0,1,2,3] [4] [zq [] 4 4] [(_,_)] rfl ⟨z2 rfl,zz⟩ ?_
     refine ht_ret ?_
     refine pt_r_then ?_
     obtain rfl := Option.some.inj h
     exact pt_ret hio rfl (.tmp _ _ .nil) rfl rfl
    ·have h := cond_f hb41 h
     refine ht_skip ?_
     refine pt_then ?_
     refine zgg hn [_,_,_,_,(11,vi 0)] [0,1,2,3] [0,1,2,4] [zq [] 4 11] [(_,_),(_,_),(_,_),(_,_)] rfl ⟨z2 rfl,zz⟩ ?_
     refine ht_seq ?_
     refine zgg hn [_,_,_,_,(12,vi 0)] [0,1,2,3] [0,1,2,3,4] [zq [] 4 12] [(_,_),(_,_),(_,_),(_,_),(_,_)] rfl ⟨z2 rfl,zz⟩ ?_
     refine ht_loopS h (fun ((s50, s51) : Int × Int) => [(0, .v (.int .i64 v4)), (1, .v (.int .i64 v8)), (9, .fl (.own 3) 1 (List.map (Value.int .i64) v35.1)), (11, .v (.int .i64 s50)), (12, .v (.int .i64 s51))]) (fun (s53 : Int) => [(0, .v (.int .i64 v4)), (1, .v (.int .i64 v8)), (11, .v (.int .i64 s53))]) ?_ ?_
     ·rintro s53 h
      refine pt_then (ht_seq ?_)
      refine ht_joinS h (fun (s65 : Bool) => [(4, .v (.bool s65))]) ?_ ?_
      ·rintro s65 h
       refine pt_then (ht_ret ?_)
       obtain rfl := Option.some.inj h
       exact pt_ret hio rfl (.tmp _ _ .nil) rfl rfl
      ·intro u66 h hl67 hr68
       obtain ⟨v61, hv61, h⟩ := bind_some h
       refine cond_some h (fun hg17_4 h => ?_) (fun hg17_4 h => ?_)
       ·refine cond_some h (fun hg17_15 h => ?_) (fun hg17_15 h => ?_)
        ·obtain ⟨v62, hv62, h⟩ := bind_some h
         refine zg hn (_::_::_::(66,vi v4)::(67,vi v61)::(68,vi v8)::(69,vb (decide (v8 < v61)))::(70,vb true)::(71,.v undef)::(72,.v undef)::(73,.v undef)::(74,.v undef)::(75,vb true)::(76,vb true)::(77,vi s53)::(78,vi v8)::(79,vb (decide (s53 ≤ v8)))::(80,vb (decide (s53 ≤ v8)))::(81,vb true)::(82,vb v62)::(83,vb v62)::(4,vb v62)::[]) [0,1,2] [21] (zq [0] 3 66::zq [3] 4 67::zq [1] 5 68::zq [4,5] 6 69::zq [6] 7 70::zq [7] 8 71::zq [7] 9 72::zq [7] 10 73::zq [7] 11 74::zq [7] 12 75::zq [12] 13 76::zq [13,2] 14 77::zq [13,1] 15 78::zq [13,14,15] 16 79::zq [13,16] 17 80::zq [17] 18 81::zq [18] 19 82::zq [18,19] 20 83::zq [20] 21 4::[]) [(_,_)] rfl ⟨z1 rfl,zp rfl (oB rfl (ibind (f := Value.int .i64) (Option.some.inj hv61))),z1 rfl,z4 rfl rfl,z8 hg17_4 rfl,zf rfl,zf rfl,zf rfl,zf rfl,z3 true rfl,z1 rfl,zr' rfl (oM rfl),zr' rfl (oM rfl),zr' rfl (oB rfl rfl),z3 true rfl,z8 hg17_15 rfl,zr' rfl (op_call _ _ 17 _ _ rfl call17 rfl (ok_wherrylaw03_wakes  _ hv62) rfl rfl),z3 true rfl,z2 rfl,zz⟩ ?_
         exact hl67 _ (Option.some.inj h).symm
        ·refine zg hn (_::_::_::(66,vi v4)::(67,vi v61)::(68,vi v8)::(69,vb (decide (v8 < v61)))::(70,vb true)::(71,.v undef)::(72,.v undef)::(73,.v undef)::(74,.v undef)::(75,vb true)::(76,vb true)::(77,vi s53)::(78,vi v8)::(79,vb (decide (s53 ≤ v8)))::(80,vb (decide (s53 ≤ v8)))::(81,vb false)::(82,.v undef)::(83,vb false)::(4,vb false)::[]) [0,1,2] [21] (zq [0] 3 66::zq [3] 4 67::zq [1] 5 68::zq [4,5] 6 69::zq [6] 7 70::zq [7] 8 71::zq [7] 9 72::zq [7] 10 73::zq [7] 11 74::zq [7] 12 75::zq [12] 13 76::zq [13,2] 14 77::zq [13,1] 15 78::zq [13,14,15] 16 79::zq [13,16] 17 80::zq [17] 18 81::zq [18] 19 82::zq [18] 20 83::zq [20] 21 4::[]) [(_,_)] rfl ⟨z1 rfl,zp rfl (oB rfl (ibind (f := Value.int .i64) (Option.some.inj hv61))),z1 rfl,z4 rfl rfl,z8 hg17_4 rfl,zf rfl,zf rfl,zf rfl,zf rfl,z3 true rfl,z1 rfl,zr' rfl (oM rfl),zr' rfl (oM rfl),zr' rfl (oB rfl rfl),z3 true rfl,z8 hg17_15 rfl,zt rfl,z3 false rfl,z2 rfl,zz⟩ ?_
         exact hl67 _ (Option.some.inj h).symm
       ·obtain ⟨v63, hv63, h⟩ := bind_some h
        refine cond_some h (fun hg17_10 h => ?_) (fun hg17_10 h => ?_)
        ·refine cond_some h (fun hg17_15 h => ?_) (fun hg17_15 h => ?_)
         ·obtain ⟨v64, hv64, h⟩ := bind_some h
          refine zg hn (_::_::_::(66,vi v4)::(67,vi v61)::(68,vi v8)::(69,vb (decide (v8 < v61)))::(70,vb false)::(71,vi s53)::(72,vi v4)::(73,vi v63)::(74,vb (s53 == v63))::(75,vb (s53 == v63))::(76,vb true)::(77,vi s53)::(78,vi v8)::(79,vb (decide (s53 ≤ v8)))::(80,vb (decide (s53 ≤ v8)))::(81,vb true)::(82,vb v64)::(83,vb v64)::(4,vb v64)::[]) [0,1,2] [21] (zq [0] 3 66::zq [3] 4 67::zq [1] 5 68::zq [4,5] 6 69::zq [6] 7 70::zq [7,2] 8 71::zq [7,0] 9 72::zq [7,9] 10 73::zq [7,8,10] 11 74::zq [7,11] 12 75::zq [12] 13 76::zq [13,2] 14 77::zq [13,1] 15 78::zq [13,14,15] 16 79::zq [13,16] 17 80::zq [17] 18 81::zq [18] 19 82::zq [18,19] 20 83::zq [20] 21 4::[]) [(_,_)] rfl ⟨z1 rfl,zp rfl (oB rfl (ibind (f := Value.int .i64) (Option.some.inj hv61))),z1 rfl,z4 rfl rfl,z8 hg17_4 rfl,zr' rfl (oM rfl),zr' rfl (oM rfl),zr' rfl (oB rfl (ibind (f := Value.int .i64) (Option.some.inj hv63))),zr' rfl (oB rfl rfl),z3 false rfl,z8 hg17_10 rfl,zr' rfl (oM rfl),zr' rfl (oM rfl),zr' rfl (oB rfl rfl),z3 true rfl,z8 hg17_15 rfl,zr' rfl (op_call _ _ 17 _ _ rfl call17 rfl (ok_wherrylaw03_wakes  _ hv64) rfl rfl),z3 true rfl,z2 rfl,zz⟩ ?_
          exact hl67 _ (Option.some.inj h).symm
         ·refine zg hn (_::_::_::(66,vi v4)::(67,vi v61)::(68,vi v8)::(69,vb (decide (v8 < v61)))::(70,vb false)::(71,vi s53)::(72,vi v4)::(73,vi v63)::(74,vb (s53 == v63))::(75,vb (s53 == v63))::(76,vb true)::(77,vi s53)::(78,vi v8)::(79,vb (decide (s53 ≤ v8)))::(80,vb (decide (s53 ≤ v8)))::(81,vb false)::(82,.v undef)::(83,vb false)::(4,vb false)::[]) [0,1,2] [21] (zq [0] 3 66::zq [3] 4 67::zq [1] 5 68::zq [4,5] 6 69::zq [6] 7 70::zq [7,2] 8 71::zq [7,0] 9 72::zq [7,9] 10 73::zq [7,8,10] 11 74::zq [7,11] 12 75::zq [12] 13 76::zq [13,2] 14 77::zq [13,1] 15 78::zq [13,14,15] 16 79::zq [13,16] 17 80::zq [17] 18 81::zq [18] 19 82::zq [18] 20 83::zq [20] 21 4::[]) [(_,_)] rfl ⟨z1 rfl,zp rfl (oB rfl (ibind (f := Value.int .i64) (Option.some.inj hv61))),z1 rfl,z4 rfl rfl,z8 hg17_4 rfl,zr' rfl (oM rfl),zr' rfl (oM rfl),zr' rfl (oB rfl (ibind (f := Value.int .i64) (Option.some.inj hv63))),zr' rfl (oB rfl rfl),z3 false rfl,z8 hg17_10 rfl,zr' rfl (oM rfl),zr' rfl (oM rfl),zr' rfl (oB rfl rfl),z3 true rfl,z8 hg17_15 rfl,zt rfl,z3 false rfl,z2 rfl,zz⟩ ?_
          exact hl67 _ (Option.some.inj h).symm
        ·refine zg hn (_::_::_::(66,vi v4)::(67,vi v61)::(68,vi v8)::(69,vb (decide (v8 < v61)))::(70,vb false)::(71,vi s53)::(72,vi v4)::(73,vi v63)::(74,vb (s53 == v63))::(75,vb (s53 == v63))::(76,vb false)::(77,.v undef)::(78,.v undef)::(79,.v undef)::(80,vb false)::(81,vb false)::(82,.v undef)::(83,vb false)::(4,vb false)::[]) [0,1,2] [21] (zq [0] 3 66::zq [3] 4 67::zq [1] 5 68::zq [4,5] 6 69::zq [6] 7 70::zq [7,2] 8 71::zq [7,0] 9 72::zq [7,9] 10 73::zq [7,8,10] 11 74::zq [7,11] 12 75::zq [12] 13 76::zq [13] 14 77::zq [13] 15 78::zq [13] 16 79::zq [13] 17 80::zq [17] 18 81::zq [18] 19 82::zq [18] 20 83::zq [20] 21 4::[]) [(_,_)] rfl ⟨z1 rfl,zp rfl (oB rfl (ibind (f := Value.int .i64) (Option.some.inj hv61))),z1 rfl,z4 rfl rfl,z8 hg17_4 rfl,zr' rfl (oM rfl),zr' rfl (oM rfl),zr' rfl (oB rfl (ibind (f := Value.int .i64) (Option.some.inj hv63))),zr' rfl (oB rfl rfl),z3 false rfl,z8 hg17_10 rfl,zt rfl,zt rfl,zt rfl,z3 false rfl,z1 rfl,zt rfl,z3 false rfl,z2 rfl,zz⟩ ?_
         exact hl67 _ (Option.some.inj h).symm
     ·rintro u54 hl55 hr56 ⟨s50, s51⟩ rr59 h ho57
      refine ht_seq ?_
      refine zgg hn [_,_,_,_,_,(55,vi s51),(56,vi v4),(57,vb (decide (s51 < v4)))] [0,1,2,3,4] [0,1,2,3,4,7] [zq [4] 5 55,zq [0] 6 56,zq [5,6] 7 57] [(_,_),(_,_),(_,_),(_,_),(_,_),(_,_)] rfl ⟨z1 rfl,z1 rfl,z4 rfl rfl,zz⟩ ?_
      refine ht_cond _ rfl (fun hb60 => ?_) (fun hb60 => ?_)
      ·have h := cond_t hb60 h
       refine ht_skip ?_
       refine pt_then (ht_seq ?_)
       refine ht_block ?_
       obtain ⟨v43, hv43, h⟩ := bind_some h
       obtain ⟨v44, hv44, h⟩ := bind_some h
       obtain ⟨v45, hv45, h⟩ := bind_some h
       refine zg hn [_,_,_,_,_,_,(60,vi s50),(61,.same (.slot 9)),(62,vi s51),(63,.eref (.slot 9) (v43 * 1)),(64,vi v44),(65,vi v45),(11,vi v45)] [0,1,2,3,4,5] [0,1,2,4,12] [zq [3] 6 60,zq [2] 7 61,zq [4] 8 62,zq [7,2,8] 9 63,zq [9,2] 10 64,zq [6,10] 11 65,⟨[11],[3],[12],[(.slot 11)]⟩] [(_,_),(_,_),(_,_),(_,_),(_,_)] rfl ⟨z1 rfl,z1 rfl,z1 rfl,zp rfl (op_ix _ _ _ _ _ _ _ _ underlying22 sz3 (by decide) rfl rfl rfl (ix_ok hv43).1 (map_lt (ix_ok hv43).2) rfl),zp rfl (op_load_e _ _ _ _ _ _ underlying3 rfl rfl rfl (map_get hv44)),zp rfl ((Option.some.inj hv45) ▸ op_max _ _ _ _ rfl rfl),zp rfl (LOp.drop [_] (op_assign _ _ _ _ rfl rfl)),zz⟩ ?_
       refine pt_inb ?_
       refine pt_then ?_
       obtain ⟨v46, hv46, h⟩ := bind_some h
       refine zg hn [_,_,_,_,_,(58,vi s51),(59,vi v46),(12,vi v46)] [0,1,2,3,4] [0,1,2,4,7] [zq [3] 5 58,zq [5] 6 59,⟨[6],[3],[7],[(.slot 12)]⟩] [(_,_),(_,_),(_,_),(_,_),(_,_)] rfl ⟨z1 rfl,zp rfl (oB rfl (ibind (f := Value.int .i64) (Option.some.inj hv46))),zp rfl (LOp.drop [_] (op_assign _ _ _ _ rfl rfl)),zz⟩ ?_
       exact pt_next _ (Option.some.inj h).symm rfl
      ·have h := cond_f hb60 h
       refine ht_exit ?_
       refine pt_x_then ?_
       refine pt_x_then ?_
       refine pt_x_in ?_
       refine pt_pick [0, 1, 3] (by kernel_rfl) (es' := [(_,_),(_,_),(_,_)]) rfl ?_
       exact hl55 _ (ho57 _ (Option.some.inj h).symm).symm
   ·intro u38 h hl39 hr40
    refine cond_some h (fun hg10_2 h => ?_) (fun hg10_2 h => ?_)
    ·refine zg hn (_::_::_::_::(42,vi v35.2)::(43,vb (v35.2 != 0))::(44,vb true)::(45,.v undef)::(46,.v undef)::(47,.v undef)::(48,.v undef)::(49,vb true)::(50,vb true)::(51,.v undef)::(52,.v undef)::(53,.v undef)::(54,vb true)::[]) [0,1,2,3] [0,1,2,16] [zq [3] 4 42,zq [4] 5 43,zq [5] 6 44,zq [6] 7 45,zq [6] 8 46,zq [6] 9 47,zq [6] 10 48,zq [6] 11 49,zq [11] 12 50,zq [12] 13 51,zq [12] 14 52,zq [12] 15 53,zq [12] 16 54] [(_,_),(_,_),(_,_),(_,_)] rfl ⟨z1 rfl,z4 rfl rfl,z8 hg10_2 rfl,zf rfl,zf rfl,zf rfl,zf rfl,z3 true rfl,z1 rfl,zf rfl,zf rfl,zf rfl,z3 true rfl,zz⟩ ?_
     exact hl39 _ (Option.some.inj h).symm
    ·refine cond_some h (fun hg10_8 h => ?_) (fun hg10_8 h => ?_)
     ·refine zg hn (_::_::_::_::(42,vi v35.2)::(43,vb (v35.2 != 0))::(44,vb false)::(45,.same (.slot 9))::(46,vi (v35.1.length : Int))::(47,vi v4)::(48,vb ((v35.1.length : Int) != v4))::(49,vb ((v35.1.length : Int) != v4))::(50,vb true)::(51,.v undef)::(52,.v undef)::(53,.v undef)::(54,vb true)::[]) [0,1,2,3] [0,1,2,16] [zq [3] 4 42,zq [4] 5 43,zq [5] 6 44,zq [6,2] 7 45,zq [6,7,2] 8 46,zq [6,0] 9 47,zq [6,8,9] 10 48,zq [6,10] 11 49,zq [11] 12 50,zq [12] 13 51,zq [12] 14 52,zq [12] 15 53,zq [12] 16 54] [(_,_),(_,_),(_,_),(_,_)] rfl ⟨z1 rfl,z4 rfl rfl,z8 hg10_2 rfl,zr' rfl (oM rfl),zr' rfl (op_len_fl _ _ _ underlying22 rfl (by decide) (map_len _)),zr' rfl (oM rfl),zr' rfl (oB rfl rfl),z3 false rfl,z8 hg10_8 rfl,zf rfl,zf rfl,zf rfl,z3 true rfl,zz⟩ ?_
      exact hl39 _ (Option.some.inj h).symm
     ·obtain ⟨v36, hv36, h⟩ := bind_some h
      refine zg hn (_::_::_::_::(42,vi v35.2)::(43,vb (v35.2 != 0))::(44,vb false)::(45,.same (.slot 9))::(46,vi (v35.1.length : Int))::(47,vi v4)::(48,vb ((v35.1.length : Int) != v4))::(49,vb ((v35.1.length : Int) != v4))::(50,vb false)::(51,.same (.slot 9))::(52,vi v36)::(53,vb (v36 != 0))::(54,vb (v36 != 0))::[]) [0,1,2,3] [0,1,2,16] [zq [3] 4 42,zq [4] 5 43,zq [5] 6 44,zq [6,2] 7 45,zq [6,7,2] 8 46,zq [6,0] 9 47,zq [6,8,9] 10 48,zq [6,10] 11 49,zq [11] 12 50,zq [12,2] 13 51,zq [12,13,2] 14 52,zq [12,14] 15 53,zq [12,15] 16 54] [(_,_),(_,_),(_,_),(_,_)] rfl ⟨z1 rfl,z4 rfl rfl,z8 hg10_2 rfl,zr' rfl (oM rfl),zr' rfl (op_len_fl _ _ _ underlying22 rfl (by decide) (map_len _)),zr' rfl (oM rfl),zr' rfl (oB rfl rfl),z3 false rfl,z8 hg10_8 rfl,zr' rfl (oM rfl),zr' rfl (op_call _ _ 18 _ _ rfl call18 rfl (ok_canon_Check v35.1 _ hv36) rfl rfl),zr' rfl (oB rfl rfl),z3 false rfl,zz⟩ ?_
      exact hl39 _ (Option.some.inj h).symm
  ·rintro u28 hl29 hr30 ⟨s22, s23, s24, s25⟩ rr33 h ho31
   refine ht_seq ?_
   refine zgg hn [_,_,_,_,_,_,(23,vi s25),(24,vi v4),(25,vb (decide (s25 < v4)))] [0,1,2,3,4,5] [0,1,2,3,4,5,8] [zq [5] 6 23,zq [0] 7 24,zq [6,7] 8 25] [(_,_),(_,_),(_,_),(_,_),(_,_),(_,_),(_,_)] rfl ⟨z1 rfl,z1 rfl,z4 rfl rfl,zz⟩ ?_
   refine ht_cond _ rfl (fun hb34 => ?_) (fun hb34 => ?_)
   ·have h := cond_t hb34 h
    refine ht_skip ?_
    refine pt_then (ht_seq ?_)
    refine ht_block ?_
    refine ht_seq ?_
    obtain ⟨v10, hv10, h⟩ := bind_some h
    refine zg hn [_,_,_,_,_,_,_,(28,.fl (.own 3) 1 (List.map (Value.int .i64) s24)),(29,vi s22),(30,.fl (.own 3) 1 (List.map (Value.int .i64) [s22])),(31,.fl (.own 3) 1 (List.map (Value.int .i64) v10)),(28,.any),(7,.fl (.own 3) 1 (List.map (Value.int .i64) v10))] [0,1,2,3,4,5,6] [0,1,2,3,5,12] [⟨[],[4],[7],[(.slot 28)]⟩,zq [2] 8 29,zq [8] 9 30,⟨[9],[7],[11,10],[(.slot 31)]⟩,⟨[],[10],[12],[(.slot 7)]⟩] [(_,_),(_,_),(_,_),(_,_),(_,_),(_,_)] rfl ⟨zp rfl (op_move_take _ _ _ _ rfl),z1 rfl,zp rfl (op_buildSlice _ _ 1 (.int .i64 0) (List.map (Value.int .i64) [s22]) [(0, .int .i64 s22)] underlying22 sz3 zr3 (fun _ V w o a hv hes => by have e0 := rd_v hv hes (x := .tmp 29) rfl; simp only [List.map_toArray, List.map_cons, List.map_nil, e0]; try rfl) (litfill (by simp [Instr.fill, Value.cells]; rfl) (by simp [List.range, List.range.loop] <;> rfl)) (by simp [Value.oneCell']) rfl (by decide) (by decide) (by decide)),zp rfl (op_app _ _ _ _ _ el22 rfl rfl (map_len _) (map_len _) hv10 ((List.map_append).symm.trans (congrArg (List.map _) (app_eq hv10)))),zp rfl (op_assign_take _ _ _ _ rfl),zz⟩ ?_
    refine pt_then ?_
    obtain ⟨v11, hv11, h⟩ := bind_some h
    refine zg hn [_,_,_,_,_,_,(32,vi s23),(33,vi s22),(34,vi s23),(35,vi v11),(5,vi s23),(6,vi v11)] [0,1,2,3,4,5] [0,1,4,5,10,11] [zq [3] 6 32,zq [2] 7 33,zq [3] 8 34,zq [7,8] 9 35,⟨[6],[2],[10],[(.slot 5)]⟩,⟨[9],[3],[11],[(.slot 6)]⟩] [(_,_),(_,_),(_,_),(_,_),(_,_),(_,_)] rfl ⟨z1 rfl,z1 rfl,z1 rfl,zp rfl (oB rfl (ibind (f := Value.int .i64) (Option.some.inj hv11))),zp rfl (LOp.drop [_] (op_assign _ _ _ _ rfl rfl)),zp rfl (LOp.drop [_] (op_assign _ _ _ _ rfl rfl)),zz⟩ ?_
    refine pt_inb ?_
    refine pt_then ?_
    obtain ⟨v12, hv12, h⟩ := bind_some h
    refine zg hn [_,_,_,_,_,_,(26,vi s25),(27,vi v12),(8,vi v12)] [0,1,2,3,4,5] [0,1,3,4,5,8] [zq [2] 6 26,zq [6] 7 27,⟨[7],[2],[8],[(.slot 8)]⟩] [(_,_),(_,_),(_,_),(_,_),(_,_),(_,_)] rfl ⟨z1 rfl,zp rfl (oB rfl (ibind (f := Value.int .i64) (Option.some.inj hv12))),zp rfl (LOp.drop [_] (op_assign _ _ _ _ rfl rfl)),zz⟩ ?_
    refine pt_pick [0, 1, 3, 4, 2, 5] (by kernel_rfl) (es' := [(_,_),(_,_),(_,_),(_,_),(_,_),(_,_)]) rfl ?_
    exact pt_next _ (Option.some.inj h).symm rfl
   ·have h := cond_f hb34 h
    refine ht_exit ?_
    refine pt_x_then ?_
    refine pt_x_then ?_
    refine pt_x_in ?_
    refine pt_pick [0, 1, 4] (by kernel_rfl) (es' := [(_,_),(_,_),(_,_)]) rfl ?_
    exact hl29 _ (ho31 _ (Option.some.inj h).symm).symm

end Go.Proofs.Ytohhijlgepnbeaa
