/-
  The model's runs are what is told in Lean.
-/
import Derived.Test.YtohhijlgepnbeaaProg
import Derived.KernelRfl
import Derived.Test.YtohhijlgepnbeaaShelf
import Derived.Test.YtohhijlgepnbeaaB4
import Derived.Test.YtohhijlgepnbeaaB5
import Derived.Test.YtohhijlgepnbeaaB8
import Derived.Test.YtohhijlgepnbeaaSrt
import Derived.Test.YtohhijlgepnbeaaOkc1
set_option linter.unusedVariables false
set_option linter.unusedSimpArgs false
set_option maxHeartbeats 1000000
namespace Go.Proofs.Ytohhijlgepnbeaa
open Go.Abs Go.Abs.Sh Try

theorem ok_wherrylaw03_TreeScales (w : (List Int)) (by_ : Int) (r : Bool) (h : Sh.wherrylaw03_TreeScales w by_ = some r) : FnOK Try.prog 8 [.fl .shr 1 (List.map (Value.int .i64) w), .v (.int .i64 by_)] (.v (.bool r)) := by
  unfold Sh.wherrylaw03_TreeScales at h
  refine fn_ok func8 rfl (zl rfl) rfl rfl fun g0 hn hio => ?_
  refine zgg hn [_,_,(4,vb false)] [0,1] [0,1] [zq [] 2 4] [(_,_),(_,_)] rfl ⟨z2 rfl,zz⟩ ?_
  refine ht_seq ?_
  refine zgg hn [_,_,(12,.fl .shr 1 (List.map (Value.int .i64) w)),(13,vi (w.length : Int)),(14,vb (decide (60 < (w.length : Int))))] [0,1] [0,1,4] [zq [0] 2 12,zq [2] 3 13,zq [3] 4 14] [(_,_),(_,_),(_,_)] rfl ⟨z1 rfl,zp rfl (op_len_fl _ _ _ underlying22 rfl (by decide) (map_len _)),z4 rfl rfl,zz⟩ ?_
  refine ht_cond _ rfl (fun hb1 => ?_) (fun hb1 => ?_)
  ·have h := cond_t hb1 h
   refine zgg hn [_,_,_,(4,vb true)] [0,1,2] [3] [zq [] 3 4] [(_,_)] rfl ⟨z2 rfl,zz⟩ ?_
   refine ht_ret ?_
   refine pt_r_then ?_
   obtain rfl := Option.some.inj h
   exact pt_ret hio rfl (.tmp _ _ .nil) rfl rfl
  ·have h := cond_f hb1 h
   refine ht_skip ?_
   refine pt_then (ht_seq ?_)
   obtain ⟨v2, hv2, h⟩ := bind_some h
   obtain ⟨v3, hv3, h⟩ := bind_some h
   obtain ⟨v4, hv4, h⟩ := bind_some h
   obtain ⟨v5, hv5, h⟩ := bind_some h
   refine zg hn [_,_,_,(15,vi by_),(16,.v (.int .u64 v2)),(17,.v (.int .u64 v3)),(18,vi v4),(19,vi v5),(1,vi v5)] [0,1,2] [0,8] [zq [1] 3 15,zq [3] 4 16,zq [4] 5 17,zq [5] 6 18,zq [6] 7 19,⟨[7],[1],[8],[(.slot 1)]⟩] [(_,_),(_,_)] rfl ⟨z1 rfl,zp rfl ((Option.some.inj hv2) ▸ op_conv _ _ _ underlying3 underlying33 rfl),zp rfl (oB rfl (rem_ok hv3)),zp rfl ((Option.some.inj hv4) ▸ op_conv _ _ _ underlying33 underlying3 rfl),zp rfl (oB rfl (ibind (f := Value.int .i64) (Option.some.inj hv5))),zp rfl (LOp.drop [_] (op_assign _ _ _ _ rfl rfl)),zz⟩ ?_
   refine pt_then ?_
   refine zgg hn [_,_,(5,vi 0)] [0,1] [0,1,2] [zq [] 2 5] [(_,_),(_,_),(_,_)] rfl ⟨z2 rfl,zz⟩ ?_
   refine zgg hn [_,_,_,(6,.v (.slice none 0 0))] [0,1,2] [0,1,2,3] [zq [] 3 6] [(_,_),(_,_),(_,_),(_,_)] rfl ⟨z2 rfl,zz⟩ ?_
   refine ht_seq ?_
   refine zgg hn [_,_,_,_,(7,vi 0)] [0,1,2,3] [0,1,2,3,4] [zq [] 4 7] [(_,_),(_,_),(_,_),(_,_),(_,_)] rfl ⟨z2 rfl,zz⟩ ?_
   refine ht_sub (fs := [(0, .fl .shr 1 (List.map (Value.int .i64) w)), (1, .v (.int .i64 v5)), (5, .v (.int .i64 0)), (6, .fl (.own 3) 1 (List.map (Value.int .i64) [])), (7, .v (.int .i64 0))]) (.same _ (.same _ (.same _ (.sub _ (sub_nil 3 1) rfl (.same _ .nil))))) ?_
   refine ht_loopS h (fun ((s33, s34, s35) : Int × (List Int) × Int) => [(0, .fl .shr 1 (List.map (Value.int .i64) w)), (1, .v (.int .i64 v5)), (5, .v (.int .i64 s33)), (6, .fl (.own 3) 1 (List.map (Value.int .i64) s34)), (7, .v (.int .i64 s35))]) (fun ((s42, s43) : Int × (List Int)) => [(0, .fl .shr 1 (List.map (Value.int .i64) w)), (5, .v (.int .i64 s42)), (6, .fl (.own 3) 1 (List.map (Value.int .i64) s43))]) ?_ ?_
   ·rintro ⟨s42, s43⟩ h
    refine pt_then (ht_seq ?_)
    refine zgg hn [_,_,_,(53,vi s42),(54,vb (decide (1500 ≤ s42)))] [0,1,2] [0,2,4] [zq [1] 3 53,zq [3] 4 54] [(_,_),(_,_),(_,_)] rfl ⟨z1 rfl,z4 rfl rfl,zz⟩ ?_
    refine ht_cond _ rfl (fun hb56 => ?_) (fun hb56 => ?_)
    ·have h := cond_t hb56 h
     refine zgg hn [_,_,_,(4,vb true)] [0,1,2] [3] [zq [] 3 4] [(_,_)] rfl ⟨z2 rfl,zz⟩ ?_
     refine ht_ret ?_
     refine pt_r_then ?_
     obtain rfl := Option.some.inj h
     exact pt_ret hio rfl (.tmp _ _ .nil) rfl rfl
    ·have h := cond_f hb56 h
     refine ht_skip ?_
     refine pt_then (ht_seq ?_)
     obtain ⟨v57, hv57, h⟩ := bind_some h
     refine zg hn [_,_,_,(56,.fl .shr 1 (List.map (Value.int .i64) w)),(57,.tup [.fl (.own 3) 1 (List.map (Value.int .i64) v57.1),vi v57.2]),(55,.tup [.fl (.own 3) 1 (List.map (Value.int .i64) v57.1),vi v57.2]),(58,.fl (.own 3) 1 (List.map (Value.int .i64) v57.1)),(55,.tup [.any,vi v57.2]),(59,vi v57.2),(8,.fl (.own 3) 1 (List.map (Value.int .i64) v57.1)),(9,vi v57.2)] [0,1,2] [1,9,10] [zq [0] 3 56,zq [3] 4 57,⟨[],[4],[5],[(.slot 55)]⟩,⟨[],[5],[7,6],[(.slot 58)]⟩,zq [7] 8 59,⟨[],[6],[9],[(.slot 8)]⟩,zq [8] 10 9] [(_,_),(_,_),(_,_)] rfl ⟨z1 rfl,zp rfl (op_call _ _ 12 _ _ rfl call12 rfl (ok_tree_Lengths w 15 _ hv57) rfl rfl),zp rfl (op_move_take _ _ _ _ rfl),zp rfl (op_extract_take _ _ _ _ _ rfl (zl rfl) rfl rfl (by decide) rfl),zp rfl (oE rfl),zp rfl (op_assign_take _ _ _ _ rfl),z2 rfl,zz⟩ ?_
     refine pt_then (ht_seq ?_)
     obtain ⟨v58, hv58, h⟩ := bind_some h
     refine zg hn [_,_,_,(61,.fl (.own 3) 1 (List.map (Value.int .i64) s43)),(62,.tup [.fl (.own 3) 1 (List.map (Value.int .i64) v58.1),vi v58.2]),(60,.tup [.fl (.own 3) 1 (List.map (Value.int .i64) v58.1),vi v58.2]),(63,.fl (.own 3) 1 (List.map (Value.int .i64) v58.1)),(60,.tup [.any,vi v58.2]),(64,vi v58.2),(10,.fl (.own 3) 1 (List.map (Value.int .i64) v58.1)),(11,vi v58.2)] [0,1,2] [1,2,9,10] [⟨[],[0],[3],[(.slot 61)]⟩,zq [3] 4 62,⟨[],[4],[5],[(.slot 60)]⟩,⟨[],[5],[7,6],[(.slot 63)]⟩,zq [7] 8 64,⟨[],[6],[9],[(.slot 10)]⟩,zq [8] 10 11] [(_,_),(_,_),(_,_),(_,_)] rfl ⟨zp rfl (op_move_take _ _ _ _ rfl),zp rfl (op_call _ _ 12 _ _ rfl call12 rfl (ok_tree_Lengths s43 15 _ hv58) rfl rfl),zp rfl (op_move_take _ _ _ _ rfl),zp rfl (op_extract_take _ _ _ _ _ rfl (zl rfl) rfl rfl (by decide) rfl),zp rfl (oE rfl),zp rfl (op_assign_take _ _ _ _ rfl),z2 rfl,zz⟩ ?_
     refine pt_then (ht_seq ?_)
     refine ht_joinS h (fun (s61 : Bool) => [(4, .v (.bool s61))]) ?_ ?_
     ·rintro s61 h
      refine pt_then (ht_ret ?_)
      obtain rfl := Option.some.inj h
      exact pt_ret hio rfl (.tmp _ _ .nil) rfl rfl
     ·intro u62 h hl63 hr64
      refine cond_some h (fun hg17_2 h => ?_) (fun hg17_2 h => ?_)
      ·refine cond_some h (fun hg17_6 h => ?_) (fun hg17_6 h => ?_)
       ·obtain ⟨v59, hv59, h⟩ := bind_some h
        refine cond_some h (fun hg17_11 h => ?_) (fun hg17_11 h => ?_)
        ·obtain ⟨v60, hv60, h⟩ := bind_some h
         refine zg hn (_::_::_::_::(65,vi v57.2)::(66,vb (v57.2 == 0))::(67,vb true)::(68,vi v58.2)::(69,vb (v58.2 == 0))::(70,vb (v58.2 == 0))::(71,vb true)::(72,.fl (.own 3) 1 (List.map (Value.int .i64) v57.1))::(73,.fl (.own 3) 1 (List.map (Value.int .i64) v58.1))::(74,vb v59)::(75,vb v59)::(76,vb true)::(77,vb v60)::(78,vb v60)::(4,vb v60)::[]) [0,1,2,3] [18] (zq [1] 4 65::zq [4] 5 66::zq [5] 6 67::zq [6,3] 7 68::zq [6,7] 8 69::zq [6,8] 9 70::zq [9] 10 71::⟨[10],[0],[11],[(.slot 72)]⟩::⟨[10],[2],[12],[(.slot 73)]⟩::zq [10,11,12] 13 74::zq [10,13] 14 75::zq [14] 15 76::zq [15] 16 77::zq [15,16] 17 78::zq [17] 18 4::[]) [(_,_)] rfl ⟨z1 rfl,z4 rfl rfl,z8 hg17_2 rfl,zr' rfl (oM rfl),zr' rfl (oB rfl rfl),z3 true rfl,z8 hg17_6 rfl,zr' rfl (op_move_take _ _ _ _ rfl),zr' rfl (op_move_take _ _ _ _ rfl),zr' rfl (op_call _ _ 16 _ _ rfl call16 rfl (ok_wherrykeep_Ints v57.1 v58.1 _ hv59) rfl rfl),z3 true rfl,z8 hg17_11 rfl,zr' rfl (op_call _ _ 17 _ _ rfl call17 rfl (ok_wherrylaw03_wakes  _ hv60) rfl rfl),z3 true rfl,z2 rfl,zz⟩ ?_
         exact hl63 _ (Option.some.inj h).symm
        ·refine zg hn (_::_::_::_::(65,vi v57.2)::(66,vb (v57.2 == 0))::(67,vb true)::(68,vi v58.2)::(69,vb (v58.2 == 0))::(70,vb (v58.2 == 0))::(71,vb true)::(72,.fl (.own 3) 1 (List.map (Value.int .i64) v57.1))::(73,.fl (.own 3) 1 (List.map (Value.int .i64) v58.1))::(74,vb v59)::(75,vb v59)::(76,vb false)::(77,.v undef)::(78,vb false)::(4,vb false)::[]) [0,1,2,3] [18] (zq [1] 4 65::zq [4] 5 66::zq [5] 6 67::zq [6,3] 7 68::zq [6,7] 8 69::zq [6,8] 9 70::zq [9] 10 71::⟨[10],[0],[11],[(.slot 72)]⟩::⟨[10],[2],[12],[(.slot 73)]⟩::zq [10,11,12] 13 74::zq [10,13] 14 75::zq [14] 15 76::zq [15] 16 77::zq [15] 17 78::zq [17] 18 4::[]) [(_,_)] rfl ⟨z1 rfl,z4 rfl rfl,z8 hg17_2 rfl,zr' rfl (oM rfl),zr' rfl (oB rfl rfl),z3 true rfl,z8 hg17_6 rfl,zr' rfl (op_move_take _ _ _ _ rfl),zr' rfl (op_move_take _ _ _ _ rfl),zr' rfl (op_call _ _ 16 _ _ rfl call16 rfl (ok_wherrykeep_Ints v57.1 v58.1 _ hv59) rfl rfl),z3 true rfl,z8 hg17_11 rfl,zt rfl,z3 false rfl,z2 rfl,zz⟩ ?_
         exact hl63 _ (Option.some.inj h).symm
       ·refine zg hn (_::_::_::_::(65,vi v57.2)::(66,vb (v57.2 == 0))::(67,vb true)::(68,vi v58.2)::(69,vb (v58.2 == 0))::(70,vb (v58.2 == 0))::(71,vb false)::(72,.v undef)::(73,.v undef)::(74,.v undef)::(75,vb false)::(76,vb false)::(77,.v undef)::(78,vb false)::(4,vb false)::[]) [0,1,2,3] [18] (zq [1] 4 65::zq [4] 5 66::zq [5] 6 67::zq [6,3] 7 68::zq [6,7] 8 69::zq [6,8] 9 70::zq [9] 10 71::zq [10] 11 72::zq [10] 12 73::zq [10] 13 74::zq [10] 14 75::zq [14] 15 76::zq [15] 16 77::zq [15] 17 78::zq [17] 18 4::[]) [(_,_)] rfl ⟨z1 rfl,z4 rfl rfl,z8 hg17_2 rfl,zr' rfl (oM rfl),zr' rfl (oB rfl rfl),z3 true rfl,z8 hg17_6 rfl,zt rfl,zt rfl,zt rfl,z3 false rfl,z1 rfl,zt rfl,z3 false rfl,z2 rfl,zz⟩ ?_
        exact hl63 _ (Option.some.inj h).symm
      ·refine zg hn (_::_::_::_::(65,vi v57.2)::(66,vb (v57.2 == 0))::(67,vb false)::(68,.v undef)::(69,.v undef)::(70,vb false)::(71,vb false)::(72,.v undef)::(73,.v undef)::(74,.v undef)::(75,vb false)::(76,vb false)::(77,.v undef)::(78,vb false)::(4,vb false)::[]) [0,1,2,3] [18] (zq [1] 4 65::zq [4] 5 66::zq [5] 6 67::zq [6] 7 68::zq [6] 8 69::zq [6] 9 70::zq [9] 10 71::zq [10] 11 72::zq [10] 12 73::zq [10] 13 74::zq [10] 14 75::zq [14] 15 76::zq [15] 16 77::zq [15] 17 78::zq [17] 18 4::[]) [(_,_)] rfl ⟨z1 rfl,z4 rfl rfl,z8 hg17_2 rfl,zt rfl,zt rfl,z3 false rfl,z1 rfl,zt rfl,zt rfl,zt rfl,z3 false rfl,z1 rfl,zt rfl,z3 false rfl,z2 rfl,zz⟩ ?_
       exact hl63 _ (Option.some.inj h).symm
   ·rintro u44 hl45 hr46 ⟨s33, s34, s35⟩ rr49 h ho47
    refine ht_seq ?_
    refine zgg hn [_,_,_,_,_,(20,vi s35),(21,.fl .shr 1 (List.map (Value.int .i64) w)),(22,vi (w.length : Int)),(23,vb (decide (s35 < (w.length : Int))))] [0,1,2,3,4] [0,1,2,3,4,8] [zq [4] 5 20,zq [0] 6 21,zq [6] 7 22,zq [5,7] 8 23] [(_,_),(_,_),(_,_),(_,_),(_,_),(_,_)] rfl ⟨z1 rfl,z1 rfl,zp rfl (op_len_fl _ _ _ underlying22 rfl (by decide) (map_len _)),z4 rfl rfl,zz⟩ ?_
    refine ht_cond _ rfl (fun hb50 => ?_) (fun hb50 => ?_)
    ·have h := cond_t hb50 h
     refine ht_skip ?_
     refine pt_then (ht_seq ?_)
     refine ht_block ?_
     refine ht_seq ?_
     refine ht_seq ?_
     refine ht_joinS h (fun (s51 : Bool) => [(0, .fl .shr 1 (List.map (Value.int .i64) w)), (1, .v (.int .i64 v5)), (5, .v (.int .i64 s33)), (6, .fl (.own 3) 1 (List.map (Value.int .i64) s34)), (7, .v (.int .i64 s35)), (37, .v (.bool s51))]) ?_ ?_
     ·rintro s51 h
      refine pt_then ?_
      refine ht_cond _ rfl (fun hb55 => ?_) (fun hb55 => ?_)
      ·have h := cond_t hb55 h
       refine zgg hn [_,_,_,_,_,_,(4,vb true)] [0,1,2,3,4,5] [6] [zq [] 6 4] [(_,_)] rfl ⟨z2 rfl,zz⟩ ?_
       refine ht_ret ?_
       refine pt_r_then ?_
       refine pt_r_in ?_
       refine pt_r_then ?_
       refine pt_r_then ?_
       refine pt_r_in ?_
       refine pt_r_then ?_
       have h := hr46 _ (ho47 _ (Option.some.inj h).symm).symm
       obtain rfl := Option.some.inj h
       exact pt_ret hio rfl (.tmp _ _ .nil) rfl rfl
      ·have h := cond_f hb55 h
       refine ht_skip ?_
       refine pt_then (ht_seq ?_)
       obtain ⟨v16, hv16, h⟩ := bind_some h
       obtain ⟨v17, hv17, h⟩ := bind_some h
       obtain ⟨v18, hv18, h⟩ := bind_some h
       refine zg hn [_,_,_,_,_,_,(38,vi s33),(39,.fl .shr 1 (List.map (Value.int .i64) w)),(40,vi s35),(41,.eref (.slot 39) (v16 * 1)),(42,vi v17),(43,vi v18),(5,vi v18)] [0,1,2,3,4,5] [0,1,3,4,12] [zq [2] 6 38,zq [0] 7 39,zq [4] 8 40,zq [7,8] 9 41,zq [9,7] 10 42,zq [6,10] 11 43,⟨[11],[2],[12],[(.slot 5)]⟩] [(_,_),(_,_),(_,_),(_,_),(_,_)] rfl ⟨z1 rfl,z1 rfl,z1 rfl,zp rfl (op_ix _ _ _ _ _ _ _ _ underlying22 sz3 (by decide) rfl rfl rfl (ix_ok hv16).1 (map_lt (ix_ok hv16).2) rfl),zp rfl (op_load_e _ _ _ _ _ _ underlying3 rfl rfl rfl (map_get hv17)),zp rfl (oB rfl (ibind (f := Value.int .i64) (Option.some.inj hv18))),zp rfl (LOp.drop [_] (op_assign _ _ _ _ rfl rfl)),zz⟩ ?_
       refine pt_then ?_
       obtain ⟨v19, hv19, h⟩ := bind_some h
       obtain ⟨v20, hv20, h⟩ := bind_some h
       obtain ⟨v21, hv21, h⟩ := bind_some h
       obtain ⟨v22, hv22, h⟩ := bind_some h
       refine zg hn (_::_::_::_::_::(44,.fl (.own 3) 1 (List.map (Value.int .i64) s34))::(45,vi v5)::(46,.fl .shr 1 (List.map (Value.int .i64) w))::(47,vi s35)::(48,.eref (.slot 46) (v19 * 1))::(49,vi v20)::(50,vi v21)::(51,.fl (.own 3) 1 (List.map (Value.int .i64) [v21]))::(52,.fl (.own 3) 1 (List.map (Value.int .i64) v22))::(44,.any)::(6,.fl (.own 3) 1 (List.map (Value.int .i64) v22))::[]) [0,1,2,3,4] [0,1,3,4,15] [⟨[],[2],[5],[(.slot 44)]⟩,zq [1] 6 45,zq [0] 7 46,zq [3] 8 47,zq [7,8] 9 48,zq [9,7] 10 49,zq [6,10] 11 50,zq [11] 12 51,⟨[12],[5],[14,13],[(.slot 52)]⟩,⟨[],[13],[15],[(.slot 6)]⟩] [(_,_),(_,_),(_,_),(_,_),(_,_)] rfl ⟨zp rfl (op_move_take _ _ _ _ rfl),z1 rfl,z1 rfl,z1 rfl,zp rfl (op_ix _ _ _ _ _ _ _ _ underlying22 sz3 (by decide) rfl rfl rfl (ix_ok hv19).1 (map_lt (ix_ok hv19).2) rfl),zp rfl (op_load_e _ _ _ _ _ _ underlying3 rfl rfl rfl (map_get hv20)),zp rfl (oB rfl (ibind (f := Value.int .i64) (Option.some.inj hv21))),zp rfl (op_buildSlice _ _ 1 (.int .i64 0) (List.map (Value.int .i64) [v21]) [(0, .int .i64 v21)] underlying22 sz3 zr3 (fun _ V w o a hv hes => by have e0 := rd_v hv hes (x := .tmp 50) rfl; simp only [List.map_toArray, List.map_cons, List.map_nil, e0]; try rfl) (litfill (by simp [Instr.fill, Value.cells]; rfl) (by simp [List.range, List.range.loop] <;> rfl)) (by simp [Value.oneCell']) rfl (by decide) (by decide) (by decide)),zp rfl (op_app _ _ _ _ _ el22 rfl rfl (map_len _) (map_len _) hv22 ((List.map_append).symm.trans (congrArg (List.map _) (app_eq hv22)))),zp rfl (op_assign_take _ _ _ _ rfl),zz⟩ ?_
       refine pt_inb ?_
       refine pt_then ?_
       obtain ⟨v23, hv23, h⟩ := bind_some h
       refine zg hn [_,_,_,_,_,(24,vi s35),(25,vi v23),(7,vi v23)] [0,1,2,3,4] [0,1,3,4,7] [zq [2] 5 24,zq [5] 6 25,⟨[6],[2],[7],[(.slot 7)]⟩] [(_,_),(_,_),(_,_),(_,_),(_,_)] rfl ⟨z1 rfl,zp rfl (oB rfl (ibind (f := Value.int .i64) (Option.some.inj hv23))),zp rfl (LOp.drop [_] (op_assign _ _ _ _ rfl rfl)),zz⟩ ?_
       exact pt_next _ (Option.some.inj h).symm rfl
     ·intro u52 h hl53 hr54
      obtain ⟨v7, hv7, h⟩ := bind_some h
      obtain ⟨v8, hv8, h⟩ := bind_some h
      refine cond_some h (fun hg9_5 h => ?_) (fun hg9_5 h => ?_)
      ·refine zg hn (_::_::_::_::_::_::(26,.fl .shr 1 (List.map (Value.int .i64) w))::(27,vi s35)::(28,.eref (.slot 26) (v7 * 1))::(29,vi v8)::(30,vb (decide (v8 < 0)))::(31,vb true)::(32,.v undef)::(33,.v undef)::(34,.v undef)::(35,.v undef)::(36,.v undef)::(37,vb true)::[]) [0,1,2,3,4,5] [0,1,2,3,4,17] [zq [0] 6 26,zq [4] 7 27,zq [6,7] 8 28,zq [8,6] 9 29,zq [9] 10 30,zq [10] 11 31,zq [11] 12 32,zq [11] 13 33,zq [11] 14 34,zq [11] 15 35,zq [11] 16 36,zq [11] 17 37] [(_,_),(_,_),(_,_),(_,_),(_,_),(_,_)] rfl ⟨z1 rfl,z1 rfl,zp rfl (op_ix _ _ _ _ _ _ _ _ underlying22 sz3 (by decide) rfl rfl rfl (ix_ok hv7).1 (map_lt (ix_ok hv7).2) rfl),zp rfl (op_load_e _ _ _ _ _ _ underlying3 rfl rfl rfl (map_get hv8)),z4 rfl rfl,z8 hg9_5 rfl,zf rfl,zf rfl,zf rfl,zf rfl,zf rfl,z3 true rfl,zz⟩ ?_
       exact hl53 _ (Option.some.inj h).symm
      ·obtain ⟨v9, hv9, h⟩ := bind_some h
       obtain ⟨v10, hv10, h⟩ := bind_some h
       refine zg hn (_::_::_::_::_::_::(26,.fl .shr 1 (List.map (Value.int .i64) w))::(27,vi s35)::(28,.eref (.slot 26) (v7 * 1))::(29,vi v8)::(30,vb (decide (v8 < 0)))::(31,vb false)::(32,.fl .shr 1 (List.map (Value.int .i64) w))::(33,vi s35)::(34,.eref (.slot 32) (v9 * 1))::(35,vi v10)::(36,vb (decide (1000 < v10)))::(37,vb (decide (1000 < v10)))::[]) [0,1,2,3,4,5] [0,1,2,3,4,17] [zq [0] 6 26,zq [4] 7 27,zq [6,7] 8 28,zq [8,6] 9 29,zq [9] 10 30,zq [10] 11 31,zq [11,0] 12 32,zq [11,4] 13 33,zq [11,12,13] 14 34,zq [11,14,12] 15 35,zq [11,15] 16 36,zq [11,16] 17 37] [(_,_),(_,_),(_,_),(_,_),(_,_),(_,_)] rfl ⟨z1 rfl,z1 rfl,zp rfl (op_ix _ _ _ _ _ _ _ _ underlying22 sz3 (by decide) rfl rfl rfl (ix_ok hv7).1 (map_lt (ix_ok hv7).2) rfl),zp rfl (op_load_e _ _ _ _ _ _ underlying3 rfl rfl rfl (map_get hv8)),z4 rfl rfl,z8 hg9_5 rfl,zr' rfl (oM rfl),zr' rfl (oM rfl),zr' rfl (op_ix _ _ _ _ _ _ _ _ underlying22 sz3 (by decide) rfl rfl rfl (ix_ok hv9).1 (map_lt (ix_ok hv9).2) rfl),zr' rfl (op_load_e _ _ _ _ _ _ underlying3 rfl rfl rfl (map_get hv10)),zr' rfl (oB rfl rfl),z3 false rfl,zz⟩ ?_
       exact hl53 _ (Option.some.inj h).symm
    ·have h := cond_f hb50 h
     refine ht_exit ?_
     refine pt_x_then ?_
     refine pt_x_then ?_
     refine pt_x_in ?_
     refine pt_pick [0, 2, 3] (by kernel_rfl) (es' := [(_,_),(_,_),(_,_)]) rfl ?_
     exact hl45 _ (ho47 _ (Option.some.inj h).symm).symm

end Go.Proofs.Ytohhijlgepnbeaa
