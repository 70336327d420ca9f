/-
  The model's runs are what is told in Lean.
-/
import Derived.Test.YtkgfjkfccpjcgaaDoorProg
import Derived.KernelRfl
import Derived.Test.YtkgfjkfccpjcgaaDoorShelf
import Derived.Test.YtkgfjkfccpjcgaaDoorB2
import Derived.Test.YtkgfjkfccpjcgaaDoorB4
import Derived.Test.YtkgfjkfccpjcgaaDoorB5
import Derived.Test.YtkgfjkfccpjcgaaDoorB8
import Derived.Test.YtkgfjkfccpjcgaaDoorSrt
import Derived.Test.YtkgfjkfccpjcgaaDoorB9
import Derived.Test.YtkgfjkfccpjcgaaDoorShr
import Derived.Test.YtkgfjkfccpjcgaaDoorOkc1
set_option linter.unusedVariables false
set_option linter.unusedSimpArgs false
set_option maxHeartbeats 1000000
namespace Go.Proofs.YtkgfjkfccpjcgaaDoor
open Go.Abs Go.Abs.Sh Tryd
open List (map flatten)
open Value (int)
theorem ok_tree_validWeights (weights : (List Int)) (r : Bool) (h : Sh.tree_validWeights weights = some r) : FnOK Tryd.prog 49 [.fl .shr 1 (map (int .i64) weights)] (.v (.bool r)) := by
  unfold Sh.tree_validWeights at h
  refine fn_ok func49 rfl (zl rfl) rfl rfl fun g0 hn hio => ?_
  refine zgg hn [_,(2,vb false)] [0] [0] [zq [] 1 2] [(_,_)] rfl ⟨z2 rfl,zz⟩ ?_
  refine ht_seq ?_
  refine zgg hn [_,(5,fi weights),(6,vi (weights.length : Int)),(7,vb (decide (300 < (weights.length : Int))))] [0] [0,3] [zq [0] 1 5,zq [1] 2 6,zq [2] 3 7] [(_,_),(_,_)] rfl ⟨z1 rfl,zp rfl (op_len_fl _ _ _ underlying37 rfl (by decide) (map_len _)),z4 rfl rfl,zz⟩ ?_
  refine ht_cond _ rfl (fun hb1 => ?_) (fun hb1 => ?_)
  ·have h := cond_t hb1 h
   refine zgg hn [_,_,(2,vb false)] [0,1] [2] [zq [] 2 2] [(_,_)] rfl ⟨z2 rfl,zz⟩ ?_
   refine ht_ret ?_
   refine pt_r_then ?_
   obtain rfl := zi h
   exact pt_ret hio rfl (.tmp _ _ .nil) rfl rfl
  ·have h := cond_f hb1 h
   refine ht_skip ?_
   refine pt_then (ht_seq ?_)
   refine zgg hn [_,_,(8,fi weights),(9,vi (weights.length : Int)),(10,vi 0)] [0,1] [2,3,4] [zq [0] 2 8,zq [2] 3 9,zq [] 4 10] [(_,_),(_,_),(_,_)] rfl ⟨z1 rfl,zp rfl (op_len_fl _ _ _ underlying37 rfl (by decide) (map_len _)),z1 rfl,zz⟩ ?_
   refine ht_loopS h (fun (s18 : Int) => [(8,fi weights),(9,vi (weights.length : Int)),(10,vi s18)]) (fun (() : Unit) => []) ?_ ?_
   ·rintro ⟨⟩ h
    refine pt_then ?_
    refine zgg hn [(2,vb true)] [] [0] [zq [] 0 2] [(_,_)] rfl ⟨z2 rfl,zz⟩ ?_
    refine ht_ret ?_
    obtain rfl := zi h
    exact pt_ret hio rfl (.tmp _ _ .nil) rfl rfl
   ·rintro u25 hl26 hr27 s18 rr30 h ho28
    refine zgg hn [_,_,_,(11,vb (decide (s18 < (weights.length : Int))))] [0,1,2] [0,1,2,3] [zq [2,1] 3 11] [(_,_),(_,_),(_,_),(_,_)] rfl ⟨z4 rfl rfl,zz⟩ ?_
    refine ht_seq ?_
    refine ht_cond _ rfl (fun hb31 => ?_) (fun hb31 => ?_)
    ·have h := cond_t hb31 h
     refine ht_skip ?_
     refine pt_then (ht_seq ?_)
     refine ht_block ?_
     refine ht_seq ?_
     obtain ⟨v3, hv3, h⟩ := zn h
     obtain ⟨v4, hv4, h⟩ := zn h
     refine zg hn [_,_,_,_,(12,.eref (.slot 8) (v3 * 1)),(13,vi v4),(4,vi v4)] [0,1,2,3] [0,1,2,6] [zq [0,2] 4 12,zq [4,0] 5 13,zq [5] 6 4] [(_,_),(_,_),(_,_),(_,_)] rfl ⟨zp rfl (op_ix _ _ _ _ _ _ _ _ underlying37 sz3 (by decide) rfl rfl rfl (ix_ok hv3).1 (map_lt (ix_ok hv3).2) rfl),zp rfl (op_load_e _ _ _ _ _ _ underlying3 rfl rfl rfl (map_get hv4)),z2 rfl,zz⟩ ?_
     refine pt_then (ht_seq ?_)
     refine ht_joinS h (fun (s32 : Bool) => [(8,fi weights),(9,vi (weights.length : Int)),(10,vi s18),(19,vb s32)]) ?_ ?_
     ·rintro s32 h
      refine pt_then ?_
      refine ht_cond _ rfl (fun hb36 => ?_) (fun hb36 => ?_)
      ·have h := cond_t hb36 h
       refine zgg hn [_,_,_,_,(2,vb false)] [0,1,2,3] [4] [zq [] 4 2] [(_,_)] rfl ⟨z2 rfl,zz⟩ ?_
       refine ht_ret ?_
       refine pt_r_in ?_
       refine pt_r_then ?_
       refine pt_r_then ?_
       refine pt_r_in ?_
       refine pt_r_then ?_
       have h := hr27 _ (ho28 _ (zi h).symm).symm
       obtain rfl := zi h
       exact pt_ret hio rfl (.tmp _ _ .nil) rfl rfl
      ·have h := cond_f hb36 h
       refine ht_skip ?_
       refine pt_inb ?_
       refine pt_then ?_
       obtain ⟨v10, hv10, h⟩ := zn h
       refine zg hn [_,_,_,_,(20,vi v10),(10,vi v10)] [0,1,2,3] [0,1,5] [zq [2] 4 20,⟨[4],[2],[5],[(.slot 10)]⟩] [(_,_),(_,_),(_,_)] rfl ⟨zp rfl (oB rfl (ibind (f := int .i64) (Option.some.inj hv10))),zp rfl (LOp.drop [_] (oM rfl)),zz⟩ ?_
       exact pt_next _ (zi h).symm rfl
     ·intro u33 h hl34 hr35
      refine cond_some h (fun hg6_2 h => ?_) (fun hg6_2 h => ?_)
      ·refine zg hn [_,_,_,_,(14,vi v4),(15,vb (decide (v4 < 0))),(16,vb true),(17,.v undef),(18,.v undef),(19,vb true)] [0,1,2,3] [0,1,2,9] [zq [3] 4 14,zq [4] 5 15,zq [5] 6 16,zq [6] 7 17,zq [6] 8 18,zq [6] 9 19] [(_,_),(_,_),(_,_),(_,_)] rfl ⟨z1 rfl,z4 rfl rfl,z8 hg6_2 rfl,zf rfl,zf rfl,z3 true rfl,zz⟩ ?_
       exact hl34 _ (zi h).symm
      ·refine zg hn [_,_,_,_,(14,vi v4),(15,vb (decide (v4 < 0))),(16,vb false),(17,vi v4),(18,vb (decide (1048576 < v4))),(19,vb (decide (1048576 < v4)))] [0,1,2,3] [0,1,2,9] [zq [3] 4 14,zq [4] 5 15,zq [5] 6 16,zq [6,3] 7 17,zq [6,7] 8 18,zq [6,8] 9 19] [(_,_),(_,_),(_,_),(_,_)] rfl ⟨z1 rfl,z4 rfl rfl,z8 hg6_2 rfl,zr' rfl (oM rfl),zr' rfl (oB rfl rfl),z3 false rfl,zz⟩ ?_
       exact hl34 _ (zi h).symm
    ·have h := cond_f hb31 h
     refine ht_exit ?_
     refine pt_x_then ?_
     refine pt_x_then ?_
     refine pt_x_in ?_
     refine pt_pick [] (by kernel_rfl) (es' := []) rfl ?_
     exact hl26 _ (ho28 _ (zi h).symm).symm
theorem ok_tree_positive (weights : (List Int)) (r : (List Int)) (h : Sh.tree_positive weights = some r) : FnOK Tryd.prog 107 [.fl .shr 1 (map (int .i64) weights)] (.fl (.own 3) 1 (map (int .i64) r)) := by
  unfold Sh.tree_positive at h
  refine fn_ok func107 rfl (zl rfl) rfl rfl fun g0 hn hio => ?_
  refine zgg hn [_,(2,vz)] [0] [0] [zq [] 1 2] [(_,_)] rfl ⟨z2 rfl,zz⟩ ?_
  refine zgg hn [_,(3,vz)] [0] [0,1] [zq [] 1 3] [(_,_),(_,_)] rfl ⟨z2 rfl,zz⟩ ?_
  refine ht_seq ?_
  refine zgg hn [_,_,(6,fi weights),(7,vi (weights.length : Int)),(8,vi 0)] [0,1] [1,2,3,4] [zq [0] 2 6,zq [2] 3 7,zq [] 4 8] [(_,_),(_,_),(_,_),(_,_)] rfl ⟨z1 rfl,zp rfl (op_len_fl _ _ _ underlying37 rfl (by decide) (map_len _)),z1 rfl,zz⟩ ?_
  refine ht_sub (fs := [(3,.fl (.own 3) 1 (map (int .i64) [])),(6,fi weights),(7,vi (weights.length : Int)),(8,vi 0)]) (.sub _ (sub_nil 3 1) rfl (.same _ (.same _ (.same _ .nil)))) ?_
  refine ht_loopS h (fun ((s21,s22) : (List Int) × Int) => [(3,.fl (.own 3) 1 (map (int .i64) s21)),(6,fi weights),(7,vi (weights.length : Int)),(8,vi s22)]) (fun (s30 : (List Int)) => [(3,.fl (.own 3) 1 (map (int .i64) s30))]) ?_ ?_
  ·rintro s30 h
   refine pt_then ?_
   refine zgg hn [_,(20,.fl (.own 3) 1 (map (int .i64) s30)),(2,.fl (.own 3) 1 (map (int .i64) s30))] [0] [2] [⟨[],[0],[1],[(.slot 20)]⟩,⟨[],[1],[2],[(.slot 2)]⟩] [(_,_)] rfl ⟨zp rfl (op_move_take _ _ _ _ rfl),zp rfl (op_assign_take _ _ _ _ rfl),zz⟩ ?_
   refine ht_ret ?_
   obtain rfl := zi h
   exact pt_ret hio rfl (.tmp _ _ .nil) rfl rfl
  ·rintro u31 hl32 hr33 ⟨s21, s22⟩ rr36 h ho34
   refine zgg hn [_,_,_,_,(9,vb (decide (s22 < (weights.length : Int))))] [0,1,2,3] [0,1,2,3,4] [zq [3,2] 4 9] [(_,_),(_,_),(_,_),(_,_),(_,_)] rfl ⟨z4 rfl rfl,zz⟩ ?_
   refine ht_seq ?_
   refine ht_cond _ rfl (fun hb37 => ?_) (fun hb37 => ?_)
   ·have h := cond_t hb37 h
    refine ht_skip ?_
    refine pt_then (ht_seq ?_)
    refine ht_joinS h (fun (s39 : (List Int)) => [(6,fi weights),(7,vi (weights.length : Int)),(8,vi s22),(3,.fl (.own 3) 1 (map (int .i64) s39))]) ?_ ?_
    ·rintro s39 h
     refine pt_then ?_
     obtain ⟨v11, hv11, h⟩ := zn h
     refine zg hn [_,_,_,_,(19,vi v11),(8,vi v11)] [0,1,2,3] [0,1,3,5] [zq [2] 4 19,⟨[4],[2],[5],[(.slot 8)]⟩] [(_,_),(_,_),(_,_),(_,_)] rfl ⟨zp rfl (oB rfl (ibind (f := int .i64) (Option.some.inj hv11))),zp rfl (LOp.drop [_] (oM rfl)),zz⟩ ?_
     refine pt_pick [2,0,1,3] (by kernel_rfl) (es' := [(_,_),(_,_),(_,_),(_,_)]) rfl ?_
     exact pt_next _ (zi h).symm rfl
    ·intro u40 h hl41 hr42
     refine ht_block ?_
     refine ht_seq ?_
     obtain ⟨v2, hv2, h⟩ := zn h
     obtain ⟨v3, hv3, h⟩ := zn h
     refine zg hn [_,_,_,_,_,(10,vi s22),(11,.eref (.slot 6) (v2 * 1)),(12,vi v3),(4,vi s22),(5,vi v3)] [0,1,2,3,4] [0,1,2,3,8,9] [zq [3] 5 10,zq [1,3] 6 11,zq [6,1] 7 12,zq [5] 8 4,zq [7] 9 5] [(_,_),(_,_),(_,_),(_,_),(_,_),(_,_)] rfl ⟨z1 rfl,zp rfl (op_ix _ _ _ _ _ _ _ _ underlying37 sz3 (by decide) rfl rfl rfl (ix_ok hv2).1 (map_lt (ix_ok hv2).2) rfl),zp rfl (op_load_e _ _ _ _ _ _ underlying3 rfl rfl rfl (map_get hv3)),z2 rfl,z2 rfl,zz⟩ ?_
     refine pt_then ?_
     refine zgg hn [_,_,_,_,_,_,(13,vi v3),(14,vb (decide (0 < v3)))] [0,1,2,3,4,5] [0,1,2,3,4,7] [zq [5] 6 13,zq [6] 7 14] [(_,_),(_,_),(_,_),(_,_),(_,_),(_,_)] rfl ⟨z1 rfl,z4 rfl rfl,zz⟩ ?_
     refine ht_cond _ rfl (fun hb43 => ?_) (fun hb43 => ?_)
     ·have h := cond_t hb43 h
      obtain ⟨v5, hv5, h⟩ := zn h
      refine zg hn [_,_,_,_,_,_,(15,.fl (.own 3) 1 (map (int .i64) s21)),(16,vi s22),(17,.fl (.own 3) 1 (map (int .i64) [s22])),(18,.fl (.own 3) 1 (map (int .i64) v5)),(15,.any),(3,.fl (.own 3) 1 (map (int .i64) v5))] [0,1,2,3,4,5] [1,2,3,11] [⟨[],[0],[6],[(.slot 15)]⟩,zq [4] 7 16,zq [7] 8 17,⟨[8],[6],[10,9],[(.slot 18)]⟩,⟨[],[9],[11],[(.slot 3)]⟩] [(_,_),(_,_),(_,_),(_,_)] rfl ⟨zp rfl (op_move_take _ _ _ _ rfl),z1 rfl,zp rfl (op_buildSlice _ _ 1 (.int .i64 0) (map (int .i64) [s22]) [(0, .int .i64 s22)] underlying37 sz3 zr3 (fun _ V w o a hv hes => by have e0 := rd_v hv hes (x := .tmp 16) rfl; simp only [List.map_toArray, List.map_cons, List.map_nil, e0]; try rfl) (litfill (by simp [Instr.fill, Value.cells]; rfl) (by simp [List.range, List.range.loop] <;> rfl)) (by simp [Value.oneCell']) rfl (by decide) (by decide) (by decide)),zp rfl (op_app _ _ _ _ _ el37 rfl rfl (map_len _) (map_len _) hv5 ((List.map_append).symm.trans (congrArg (map _) (app_eq hv5)))),zp rfl (op_assign_take _ _ _ _ rfl),zz⟩ ?_
      refine pt_inb ?_
      exact hl41 _ (zi h).symm
     ·have h := cond_f hb43 h
      refine ht_skip ?_
      refine pt_inb ?_
      refine pt_pick [1,2,3,0] (by kernel_rfl) (es' := [(_,_),(_,_),(_,_),(_,_)]) rfl ?_
      exact hl41 _ (zi h).symm
   ·have h := cond_f hb37 h
    refine ht_exit ?_
    refine pt_x_then ?_
    refine pt_x_then ?_
    refine pt_x_in ?_
    refine pt_pick [0] (by kernel_rfl) (es' := [(_,_)]) rfl ?_
    exact hl32 _ (ho34 _ (zi h).symm).symm
theorem ok_tree_validLimit (weights : (List Int)) (limit : Int) (r : Bool) (h : Sh.tree_validLimit weights limit = some r) : FnOK Tryd.prog 87 [.fl .shr 1 (map (int .i64) weights), .v (.int .i64 limit)] (.v (.bool r)) := by
  unfold Sh.tree_validLimit at h
  refine fn_ok func87 rfl (zl rfl) rfl rfl fun g0 hn hio => ?_
  refine zgg hn [_,_,(4,vb false)] [0,1] [0,1] [zq [] 2 4] [(_,_),(_,_)] rfl ⟨z2 rfl,zz⟩ ?_
  refine zgg hn [_,_,(5,vi 9)] [0,1] [0,1,2] [zq [] 2 5] [(_,_),(_,_),(_,_)] rfl ⟨z2 rfl,zz⟩ ?_
  refine ht_seq ?_
  refine ht_joinS h (fun (s3 : Int) => [(1,vi limit),(5,vi s3)]) ?_ ?_
  ·rintro s3 h
   refine pt_then (ht_seq ?_)
   refine ht_joinS h (fun (s8 : Bool) => [(4,vb s8)]) ?_ ?_
   ·rintro s8 h
    refine pt_then (ht_ret ?_)
    obtain rfl := zi h
    exact pt_ret hio rfl (.tmp _ _ .nil) rfl rfl
   ·intro u9 h hl10 hr11
    refine cond_some h (fun hg4_3 h => ?_) (fun hg4_3 h => ?_)
    ·refine zg hn [_,_,(10,vi limit),(11,vi s3),(12,vb (decide (s3 ≤ limit))),(13,vb true),(14,vi limit),(15,vb (decide (limit ≤ 15))),(16,vb (decide (limit ≤ 15))),(4,vb (decide (limit ≤ 15)))] [0,1] [9] [zq [0] 2 10,zq [1] 3 11,zq [2,3] 4 12,zq [4] 5 13,zq [5,0] 6 14,zq [5,6] 7 15,zq [5,7] 8 16,zq [8] 9 4] [(_,_)] rfl ⟨z1 rfl,z1 rfl,z4 rfl rfl,z8 hg4_3 rfl,zr' rfl (oM rfl),zr' rfl (oB rfl rfl),z3 true rfl,z2 rfl,zz⟩ ?_
     exact hl10 _ (zi h).symm
    ·refine zg hn [_,_,(10,vi limit),(11,vi s3),(12,vb (decide (s3 ≤ limit))),(13,vb false),(14,.v undef),(15,.v undef),(16,vb false),(4,vb false)] [0,1] [9] [zq [0] 2 10,zq [1] 3 11,zq [2,3] 4 12,zq [4] 5 13,zq [5] 6 14,zq [5] 7 15,zq [5] 8 16,zq [8] 9 4] [(_,_)] rfl ⟨z1 rfl,z1 rfl,z4 rfl rfl,z8 hg4_3 rfl,zt rfl,zt rfl,z3 false rfl,z2 rfl,zz⟩ ?_
     exact hl10 _ (zi h).symm
  ·intro u4 h hl5 hr6
   refine ht_seq ?_
   obtain ⟨v1, hv1, h⟩ := zn h
   refine zg hn [_,_,_,(6,fi weights),(7,.fl (.own 3) 1 (map (int .i64) v1)),(8,vi (v1.length : Int)),(9,vb (decide ((v1.length : Int) ≤ 19)))] [0,1,2] [1,2,6] [zq [0] 3 6,zq [3] 4 7,zq [4] 5 8,zq [5] 6 9] [(_,_),(_,_),(_,_)] rfl ⟨z1 rfl,zp rfl (op_call _ _ 107 _ _ rfl call107 rfl (ok_tree_positive weights _ hv1) rfl rfl),zp rfl (op_len_fl _ _ _ underlying37 rfl (by decide) (map_len _)),z4 rfl rfl,zz⟩ ?_
   refine pt_then ?_
   refine ht_cond _ rfl (fun hb7 => ?_) (fun hb7 => ?_)
   ·have h := cond_t hb7 h
    refine zg hn [_,_,_,(5,vi 5)] [0,1,2] [0,3] [⟨[],[1],[3],[(.slot 5)]⟩] [(_,_),(_,_)] rfl ⟨zp rfl (LOp.drop [_] (op_assign _ _ _ _ rfl rfl)),zz⟩ ?_
    exact hl5 _ (zi h).symm
   ·have h := cond_f hb7 h
    refine ht_skip ?_
    refine pt_pick [0,1] (by kernel_rfl) (es' := [(_,_),(_,_)]) rfl ?_
    exact hl5 _ (zi h).symm
theorem ok_slices_Clone_int_int (l r : List Int) (h : Sh.slices_Clone_int_int l = some r) : FnOK Tryd.prog 88 [.fl .shr 1 (map (int .i64) l)] (.fl (.own 3) 1 (map (int .i64) r)) := lib_slices_Clone Tryd.slices_Clone_int_nil Tryd.slices_Clone_int Tryd.slices_Clone_int_zero l r h
theorem ok_tree_merge_1_clo (cap0 : Int) (cap1 : Int) (cap2 : Int) (cap3 : (List T_tree_node)) (r : (Int × Int × Int × Int × (List T_tree_node))) (h : Sh.tree_merge_1_clo cap0 cap1 cap2 cap3 = some r) : FnP Tryd.prog 119 [.box 3 [.v (.int .i64 cap0)], .box 3 [.v (.int .i64 cap1)], .box 3 [.v (.int .i64 cap2)], .box 129 [.fr (.own 131) false 2 (flatten (map T_tree_node.ienc cap3))]] [.box 3 [.v (.int .i64 r.2.1)], .box 3 [.v (.int .i64 r.2.2.1)], .box 3 [.v (.int .i64 r.2.2.2.1)], .box 129 [.fr (.own 131) false 2 (flatten (map T_tree_node.ienc r.2.2.2.2))]] (.v (.int .i64 r.1)) := by
  unfold Sh.tree_merge_1_clo at h
  refine fn_okP func119 rfl (zl rfl) rfl (zl rfl) fun args0 hargs0 g0 hn hio => ?_
  refine zgg hn [_,_,_,_,_,_,_,_,(4,vi 0)] [0,1,2,3,4,5,6,7] [0,1,2,3,4,5,6,7] [zq [] 8 4] [(_,_),(_,_),(_,_),(_,_),(_,_),(_,_),(_,_),(_,_)] rfl ⟨z2 rfl,zz⟩ ?_
  refine ht_seq ?_
  refine ht_seq ?_
  refine ht_joinS h (fun (s5 : Bool) => [(0,.box 3 [vi cap0]),(1,.box 3 [vi cap1]),(2,.box 3 [vi cap2]),(3,.box 129 [.fr (.own 131) false 2 (flatten (map T_tree_node.ienc cap3))]),(0,.v (List.getD args0 0 undef)),(1,.v (List.getD args0 1 undef)),(2,.v (List.getD args0 2 undef)),(3,.v (List.getD args0 3 undef)),(26,vb s5)]) ?_ ?_
  ·rintro s5 h
   refine pt_then ?_
   refine ht_cond _ rfl (fun hb9 => ?_) (fun hb9 => ?_)
   ·have h := cond_t hb9 h
    refine ht_seq ?_
    obtain ⟨v10, hv10, h⟩ := zn h
    refine zg hn [_,_,_,_,_,_,_,_,_,(27,vi cap0),(28,vi v10),(0,.box 3 [vi v10])] [0,1,2,3,4,5,6,7,8] [11,1,2,3,4,5,6,7] [zq [0] 9 27,zq [9] 10 28,⟨[10],[0],[11],[.cell 0 0]⟩] [(_,_),(_,_),(_,_),(_,_),(_,_),(_,_),(_,_),(_,_)] rfl ⟨zp rfl (oL underlying3 rfl),zp rfl (oB rfl (ibind (f := int .i64) (Option.some.inj hv10))),zp rfl (oS sz3 rfl),zz⟩ ?_
    refine pt_then (ht_seq ?_)
    obtain ⟨v11, hv11, h⟩ := zn h
    refine zg hn [_,_,_,_,_,_,_,_,(29,vi v10),(30,vi v11),(4,vi v11)] [0,1,2,3,4,5,6,7] [0,1,2,3,4,5,6,7,10] [zq [0] 8 29,zq [8] 9 30,zq [9] 10 4] [(_,_),(_,_),(_,_),(_,_),(_,_),(_,_),(_,_),(_,_),(_,_)] rfl ⟨zp rfl (oL underlying3 rfl),zp rfl (oB rfl (ibind (f := int .i64) (Option.some.inj hv11))),z2 rfl,zz⟩ ?_
    refine pt_then (ht_ret ?_)
    refine pt_pick [8,0,1,2,3,4,5,6,7] (by kernel_rfl) (es' := [(_,_),(_,_),(_,_),(_,_),(_,_),(_,_),(_,_),(_,_),(_,_)]) rfl ?_
    refine pt_r_then ?_
    obtain rfl := zi h
    exact pt_retP (es := [(4, .v (.int .i64 v11))]) (posts := [.box 3 [.v (.int .i64 v10)], .box 3 [.v (.int .i64 cap1)], .box 3 [.v (.int .i64 cap2)], .box 129 [.fr (.own 131) false 2 (flatten (map T_tree_node.ienc cap3))]]) hio rfl rfl (.tmp _ _ .nil) rfl rfl hargs0 rfl
   ·have h := cond_f hb9 h
    refine ht_skip ?_
    refine pt_then (ht_seq ?_)
    obtain ⟨v12, hv12, h⟩ := zn h
    refine zg hn [_,_,_,_,_,_,_,_,_,(31,vi cap2),(32,vi v12),(2,.box 3 [vi v12])] [0,1,2,3,4,5,6,7,8] [0,1,11,3,4,5,6,7] [zq [2] 9 31,zq [9] 10 32,⟨[10],[2],[11],[.cell 2 0]⟩] [(_,_),(_,_),(_,_),(_,_),(_,_),(_,_),(_,_),(_,_)] rfl ⟨zp rfl (oL underlying3 rfl),zp rfl (oB rfl (ibind (f := int .i64) (Option.some.inj hv12))),zp rfl (oS sz3 rfl),zz⟩ ?_
    refine pt_then (ht_seq ?_)
    obtain ⟨v13, hv13, h⟩ := zn h
    refine zg hn [_,_,_,_,_,_,_,_,(33,vi v12),(34,vi v13),(4,vi v13)] [0,1,2,3,4,5,6,7] [0,1,2,3,4,5,6,7,10] [zq [2] 8 33,zq [8] 9 34,zq [9] 10 4] [(_,_),(_,_),(_,_),(_,_),(_,_),(_,_),(_,_),(_,_),(_,_)] rfl ⟨zp rfl (oL underlying3 rfl),zp rfl (oB rfl (ibind (f := int .i64) (Option.some.inj hv13))),z2 rfl,zz⟩ ?_
    refine pt_then (ht_ret ?_)
    refine pt_pick [8,0,1,2,3,4,5,6,7] (by kernel_rfl) (es' := [(_,_),(_,_),(_,_),(_,_),(_,_),(_,_),(_,_),(_,_),(_,_)]) rfl ?_
    obtain rfl := zi h
    exact pt_retP (es := [(4, .v (.int .i64 v13))]) (posts := [.box 3 [.v (.int .i64 cap0)], .box 3 [.v (.int .i64 cap1)], .box 3 [.v (.int .i64 v12)], .box 129 [.fr (.own 131) false 2 (flatten (map T_tree_node.ienc cap3))]]) hio rfl rfl (.tmp _ _ .nil) rfl rfl hargs0 rfl
  ·intro u6 h hl7 hr8
   refine cond_some h (fun hg1_3 h => ?_) (fun hg1_3 h => ?_)
   ·refine cond_some h (fun hg1_8 h => ?_) (fun hg1_8 h => ?_)
    ·refine ht_anyR (by kernel_rfl) hn (El := (_ :: _ :: _ :: _ :: _ :: _ :: _ :: _ :: (5,vi cap0) :: (6,vi cap1) :: (7,vb (decide (cap0 < cap1))) :: (8,vb true) :: (9,vi cap2) :: (10,.same (.cell 3 0)) :: (11,vi (cap3.length : Int)) :: (12,vb (cap2 == (cap3.length : Int))) :: (13,vb true) :: (14,.v undef) :: (15,.v undef) :: (16,.v undef) :: (17,.v undef) :: (18,.v undef) :: (19,.v undef) :: (20,.v undef) :: (21,.v undef) :: (22,.v undef) :: (23,.v undef) :: (24,.v undef) :: (25,vb true) :: (26,vb true) :: [])) (init := [0,1,2,3,4,5,6,7]) (fin := [0,1,2,3,4,5,6,7,29]) (sps := (zq [0] 8 5 :: zq [1] 9 6 :: zq [8,9] 10 7 :: zq [10] 11 8 :: zq [11,2] 12 9 :: zq [11,3] 13 10 :: zq [11,13,3] 14 11 :: zq [11,12,14] 15 12 :: zq [11,15] 16 13 :: zq [16] 17 14 :: zq [16] 18 15 :: zq [16] 19 16 :: zq [16] 20 17 :: zq [16] 21 18 :: zq [16] 22 19 :: zq [16] 23 20 :: zq [16] 24 21 :: zq [16] 25 22 :: zq [16] 26 23 :: zq [16] 27 24 :: zq [11,16] 28 25 :: zq [11,28] 29 26 :: [])) (es' := [(_,_),(_,_),(_,_),(_,_),(_,_),(_,_),(_,_),(_,_),(26,vb true)]) (by kernel_rfl) rfl rfl ⟨zp rfl (oL underlying3 rfl),zp rfl (oL underlying3 rfl),z4 rfl rfl,z8 hg1_3 rfl,zr' rfl (oL underlying3 rfl),zr' rfl (oL underlying129 rfl),zr' rfl (op_len_fr _ _ _ underlying129 rfl (by decide) (gflat_len T_tree_node.ilen _)),zr' rfl (oB rfl rfl),zr' rfl (op_move _ _ _ _ (zb hg1_8) rfl),zf rfl,zf rfl,zf rfl,zf rfl,zf rfl,zf rfl,zf rfl,zf rfl,zf rfl,zf rfl,zf rfl,zr' rfl (op_pick _ _ true _ rfl rfl),z3 true rfl,zz⟩ ?_
     exact hl7 _ (zi h).symm
    ·obtain ⟨v1, hv1, h⟩ := zn h
     obtain ⟨v2, hv2, h⟩ := zn h
     obtain ⟨v3, hv3, h⟩ := zn h
     obtain ⟨v4, hv4, h⟩ := zn h
     refine ht_anyR (by kernel_rfl) hn (El := (_ :: _ :: _ :: _ :: _ :: _ :: _ :: _ :: (5,vi cap0) :: (6,vi cap1) :: (7,vb (decide (cap0 < cap1))) :: (8,vb true) :: (9,vi cap2) :: (10,.same (.cell 3 0)) :: (11,vi (cap3.length : Int)) :: (12,vb (cap2 == (cap3.length : Int))) :: (13,vb false) :: (14,.same (.cell 3 0)) :: (15,vi cap0) :: (16,.eref (.cell 3 0) (v1 * 2)) :: (17,.eref (.cell 3 0) (v1 * 2 + 0)) :: (18,vi v2.weight) :: (19,.same (.cell 3 0)) :: (20,vi cap2) :: (21,.eref (.cell 3 0) (v3 * 2)) :: (22,.eref (.cell 3 0) (v3 * 2 + 0)) :: (23,vi v4.weight) :: (24,vb (decide (v2.weight ≤ v4.weight))) :: (25,vb (decide (v2.weight ≤ v4.weight))) :: (26,vb (decide (v2.weight ≤ v4.weight))) :: [])) (init := [0,1,2,3,4,5,6,7]) (fin := [0,1,2,3,4,5,6,7,29]) (sps := (zq [0] 8 5 :: zq [1] 9 6 :: zq [8,9] 10 7 :: zq [10] 11 8 :: zq [11,2] 12 9 :: zq [11,3] 13 10 :: zq [11,13,3] 14 11 :: zq [11,12,14] 15 12 :: zq [11,15] 16 13 :: zq [16,3] 17 14 :: zq [16,0] 18 15 :: zq [16,17,3,18] 19 16 :: zq [16,19,3] 20 17 :: zq [16,20,3] 21 18 :: zq [16,3] 22 19 :: zq [16,2] 23 20 :: zq [16,22,3,23] 24 21 :: zq [16,24,3] 25 22 :: zq [16,25,3] 26 23 :: zq [16,21,26] 27 24 :: zq [11,16,27] 28 25 :: zq [11,28] 29 26 :: [])) (es' := [(_,_),(_,_),(_,_),(_,_),(_,_),(_,_),(_,_),(_,_),(26,vb (decide (v2.weight ≤ v4.weight)))]) (by kernel_rfl) rfl rfl ⟨zp rfl (oL underlying3 rfl),zp rfl (oL underlying3 rfl),z4 rfl rfl,z8 hg1_3 rfl,zr' rfl (oL underlying3 rfl),zr' rfl (oL underlying129 rfl),zr' rfl (op_len_fr _ _ _ underlying129 rfl (by decide) (gflat_len T_tree_node.ilen _)),zr' rfl (oB rfl rfl),zr' rfl (op_move _ _ _ _ (zb hg1_8) rfl),zr' rfl (oL underlying129 rfl),zr' rfl (oL underlying3 rfl),zr' rfl (op_ix_fr _ _ _ _ _ _ _ _ underlying129 sz131 (by decide) rfl rfl rfl (ix_ok hv1).1 (gflat_lt T_tree_node.ilen (ix_ok hv1).2) rfl),zr' rfl (op_fieldAddr_e _ _ _ _ _ _ _ underlying131 rfl sz3 rfl rfl rfl),zr' rfl (op_load_fr _ _ _ _ _ _ _ underlying3 rfl rfl rfl (gflat_cell T_tree_node.ilen hv2 rfl) (.v _)),zr' rfl (oL underlying129 rfl),zr' rfl (oL underlying3 rfl),zr' rfl (op_ix_fr _ _ _ _ _ _ _ _ underlying129 sz131 (by decide) rfl rfl rfl (ix_ok hv3).1 (gflat_lt T_tree_node.ilen (ix_ok hv3).2) rfl),zr' rfl (op_fieldAddr_e _ _ _ _ _ _ _ underlying131 rfl sz3 rfl rfl rfl),zr' rfl (op_load_fr _ _ _ _ _ _ _ underlying3 rfl rfl rfl (gflat_cell T_tree_node.ilen hv4 rfl) (.v _)),zr' rfl (oB rfl rfl),zr' rfl (op_pick _ _ false _ rfl rfl),z3 true rfl,zz⟩ ?_
     exact hl7 _ (zi h).symm
   ·refine ht_anyR (by kernel_rfl) hn (El := (_ :: _ :: _ :: _ :: _ :: _ :: _ :: _ :: (5,vi cap0) :: (6,vi cap1) :: (7,vb (decide (cap0 < cap1))) :: (8,vb false) :: (9,.v undef) :: (10,.v undef) :: (11,.v undef) :: (12,.v undef) :: (13,.v undef) :: (14,.v undef) :: (15,.v undef) :: (16,.v undef) :: (17,.v undef) :: (18,.v undef) :: (19,.v undef) :: (20,.v undef) :: (21,.v undef) :: (22,.v undef) :: (23,.v undef) :: (24,.v undef) :: (25,.v undef) :: (26,vb false) :: [])) (init := [0,1,2,3,4,5,6,7]) (fin := [0,1,2,3,4,5,6,7,29]) (sps := (zq [0] 8 5 :: zq [1] 9 6 :: zq [8,9] 10 7 :: zq [10] 11 8 :: zq [11] 12 9 :: zq [11] 13 10 :: zq [11] 14 11 :: zq [11] 15 12 :: zq [11] 16 13 :: zq [16] 17 14 :: zq [16] 18 15 :: zq [16] 19 16 :: zq [16] 20 17 :: zq [16] 21 18 :: zq [16] 22 19 :: zq [16] 23 20 :: zq [16] 24 21 :: zq [16] 25 22 :: zq [16] 26 23 :: zq [16] 27 24 :: zq [11] 28 25 :: zq [11] 29 26 :: [])) (es' := [(_,_),(_,_),(_,_),(_,_),(_,_),(_,_),(_,_),(_,_),(26,vb false)]) (by kernel_rfl) rfl rfl ⟨zp rfl (oL underlying3 rfl),zp rfl (oL underlying3 rfl),z4 rfl rfl,z8 hg1_3 rfl,zt rfl,zt rfl,zt rfl,zt rfl,zt rfl,zu' rfl,zu' rfl,zu' rfl,zu' rfl,zu' rfl,zu' rfl,zu' rfl,zu' rfl,zu' rfl,zu' rfl,zu' rfl,zt rfl,z3 false rfl,zz⟩ ?_
    exact hl7 _ (zi h).symm
theorem ok_tree_merge (nodes : (List T_tree_node)) (r : (List T_tree_node)) (h : Sh.tree_merge nodes = some r) : FnE Tryd.prog 110 [.fr (.own 131) false 2 (flatten (map T_tree_node.ienc nodes))] (.fr .ro false 2 (flatten (map T_tree_node.ienc r))) := by
  unfold Sh.tree_merge at h
  refine fn_okE func110 rfl (zl rfl) rfl rfl fun g0 hn hio => ?_
  refine zgg hn [_,(1,.box 129 [.fr (.own 131) false 2 (flatten (map T_tree_node.ienc nodes))]),(2,vz)] [0] [1] [⟨[],[0],[1],[(.slot 1)]⟩,zq [] 2 2] [(_,_)] rfl ⟨zp rfl (op_box_take _ _ _ _ _ rfl rfl rfl),z2 rfl,zz⟩ ?_
  refine zgg hn [_,(9,.same (.cell 1 0)),(10,vi (nodes.length : Int)),(3,.box 3 [vi 0]),(3,.box 3 [vi (nodes.length : Int)])] [0] [0,4] [zq [0] 1 9,zq [1,0] 2 10,zq [] 3 3,⟨[2],[3],[4],[.cell 3 0]⟩] [(_,_),(_,_)] rfl ⟨zp rfl (oL underlying129 rfl),zp rfl (op_len_fr _ _ _ underlying129 rfl (by decide) (gflat_len T_tree_node.ilen _)),zp rfl (op_alloc _ _ zr3),zp rfl (oS sz3 rfl),zz⟩ ?_
  refine ht_seq ?_
  refine ht_anyR (by kernel_rfl) hn (El := [_,_,(11,vi (nodes.length : Int)),(4,.box 3 [vi 0]),(5,.box 3 [vi 0]),(4,.box 3 [vi 0]),(5,.box 3 [vi (nodes.length : Int)])]) (init := [0,1]) (fin := [0,1,5,6]) (sps := [zq [1] 2 11,zq [] 3 4,zq [] 4 5,⟨[],[3],[5],[.cell 4 0]⟩,⟨[2],[4],[6],[.cell 5 0]⟩]) (es' := [(_,_),(_,_),(4,.box 3 [vi 0]),(5,.box 3 [vi (nodes.length : Int)])]) (by kernel_rfl) rfl rfl ⟨zp rfl (oL underlying3 rfl),zp rfl (op_alloc _ _ zr3),zp rfl (op_alloc _ _ zr3),zp rfl (oS sz3 rfl),zp rfl (oS sz3 rfl),zz⟩ ?_
  refine pt_then ?_
  refine zgg hn [_,_,_,_,(12,.clo 119 [4,3,5,1]),(6,.clo 119 [4,3,5,1])] [0,1,2,3] [0,1,2,3,5] [zq [] 4 12,zq [4,2,1,3,0] 5 6] [(_,_),(_,_),(_,_),(_,_),(_,_)] rfl ⟨zp rfl (op_makeFuncs_name _ _ _ [4, 3, 5, 1] rfl rfl),z2 rfl,zz⟩ ?_
  refine ht_seq ?_
  refine ht_loopS h (fun ((s42,s43,s44,s45) : (List T_tree_node) × Int × Int × Int) => [(1,.box 129 [.fr (.own 131) false 2 (flatten (map T_tree_node.ienc s42))]),(3,.box 3 [vi s43]),(4,.box 3 [vi s44]),(5,.box 3 [vi s45]),(6,.clo 119 [4,3,5,1])]) (fun (s47 : (List T_tree_node)) => [(1,.box 129 [.fr (.own 131) false 2 (flatten (map T_tree_node.ienc s47))])]) ?_ ?_
  ·rintro s47 h
   refine pt_then (ht_seq ?_)
   refine ht_frzE 0 hio (es' := [(1, .box 129 [.fr .ro false 2 (flatten (map T_tree_node.ienc s47))])]) rfl ?_
   refine zg hn [_,(50,.fr .ro false 2 (flatten (map T_tree_node.ienc s47))),(2,.fr .ro false 2 (flatten (map T_tree_node.ienc s47)))] [0] [2] [zq [0] 1 50,zq [1] 2 2] [(_,_)] rfl ⟨zp rfl (oL underlying129 rfl),z2 rfl,zz⟩ ?_
   refine pt_then (ht_ret ?_)
   obtain rfl := zi h
   exact pt_retE hio rfl (.tmp _ _ .nil) rfl rfl
  ·rintro u48 hl49 hr50 ⟨s42, s43, s44, s45⟩ rr53 h ho51
   refine ht_seq ?_
   refine ht_seq ?_
   obtain ⟨v1, hv1, h⟩ := zn h
   obtain ⟨v2, hv2, h⟩ := zn h
   refine zg hn [_,_,_,_,_,(13,.same (.cell 1 0)),(14,vi (s42.length : Int)),(15,vi s43),(16,vi v1),(17,vi v2),(18,vb (decide ((s42.length : Int) < v2)))] [0,1,2,3,4] [0,1,2,3,4,10] [zq [0] 5 13,zq [5,0] 6 14,zq [1] 7 15,zq [7] 8 16,zq [8] 9 17,zq [6,9] 10 18] [(_,_),(_,_),(_,_),(_,_),(_,_),(_,_)] rfl ⟨zp rfl (oL underlying129 rfl),zp rfl (op_len_fr _ _ _ underlying129 rfl (by decide) (gflat_len T_tree_node.ilen _)),zp rfl (oL underlying3 rfl),zp rfl (oB rfl (ibind (f := int .i64) (Option.some.inj hv1))),zp rfl (oB rfl (ibind (f := int .i64) (Option.some.inj hv2))),z4 rfl rfl,zz⟩ ?_
   refine pt_then ?_
   refine ht_cond _ rfl (fun hb54 => ?_) (fun hb54 => ?_)
   ·have h := cond_t hb54 h
    refine ht_skip ?_
    refine pt_then ?_
    refine ht_block ?_
    refine ht_seq ?_
    obtain ⟨v4, hv4, h⟩ := zn h
    obtain ⟨v5, hv5, h⟩ := zn h
    refine zg hn (_::_::_::_::_::_::(19,.clo 119 [4,3,5,1])::(20,vi v4.1)::(4,.box 3 [vi v4.2.1])::(3,.box 3 [vi v4.2.2.1])::(5,.box 3 [vi v4.2.2.2.1])::(1,.box 129 [.fr (.own 131) false 2 (flatten (map T_tree_node.ienc v4.2.2.2.2))])::(21,.clo 119 [4,3,5,1])::(22,vi v5.1)::(4,.box 3 [vi v5.2.1])::(3,.box 3 [vi v5.2.2.1])::(5,.box 3 [vi v5.2.2.2.1])::(1,.box 129 [.fr (.own 131) false 2 (flatten (map T_tree_node.ienc v5.2.2.2.2))])::(7,vi v4.1)::(8,vi v5.1)::[]) [0,1,2,3,4,5] [17,15,14,16,4,18,19] [zq [4,2,1,3,0] 6 19,⟨[6],[2,1,3,0],[8,9,10,11,7],[(.slot 20),(.cell 4 0),(.cell 3 0),(.cell 5 0),(.cell 1 0)]⟩,zq [4,8,9,10,11] 12 21,⟨[12],[8,9,10,11],[14,15,16,17,13],[(.slot 22),(.cell 4 0),(.cell 3 0),(.cell 5 0),(.cell 1 0)]⟩,zq [7] 18 7,zq [13] 19 8] [(_,_),(_,_),(_,_),(_,_),(_,_),(_,_),(_,_)] rfl ⟨z1 rfl,zp rfl (op_callLs _ _ _ _ 20 19 119 [] [4, 3, 5, 1] _ _ _ rfl rfl rfl call119 rfl rfl (ok_tree_merge_1_clo s44 s43 s45 s42 _ hv4) rfl rfl rfl rfl rfl rfl rfl rfl rfl),z1 rfl,zp rfl (op_callLs _ _ _ _ 22 21 119 [] [4, 3, 5, 1] _ _ _ rfl rfl rfl call119 rfl rfl (ok_tree_merge_1_clo v4.2.1 v4.2.2.1 v4.2.2.2.1 v4.2.2.2.2 _ hv5) rfl rfl rfl rfl rfl rfl rfl rfl rfl),z2 rfl,z2 rfl,zz⟩ ?_
    refine pt_then (ht_seq ?_)
    obtain ⟨v6, hv6, h⟩ := zn h
    obtain ⟨v7, hv7, h⟩ := zn h
    obtain ⟨v8, hv8, h⟩ := zn h
    obtain ⟨v9, hv9, h⟩ := zn h
    obtain ⟨v10, hv10, h⟩ := zn h
    obtain ⟨v11, hv11, h⟩ := zn h
    refine ht_pick [0,1,2,3,4,5,6] rfl rfl ?_
    refine ht_open 58 0 (fun rb6 rn6 rc6 => [.v (.slice (some ⟨rb6, 0, none⟩) rn6 rc6)]) (zl rfl) rfl (fun _ _ _ => rfl) (ics_pos T_tree_node.ilen (by decide) hv7) fun rb6 rn6 rc6 rl6 => ?_
    refine ht_anyR (by kernel_rfl) hn (El := (_ :: _ :: _ :: _ :: _ :: _ :: _ :: _ :: (23,.v (.slice (some ⟨rb6,0,none⟩) rn6 rc6)) :: (24,vi v4.1) :: (25,.v (.slice (some ⟨rb6,0,none⟩) rn6 rc6)) :: (26,vi v5.1) :: (27,.v (.slice (some ⟨rb6,0,none⟩) rn6 rc6)) :: (28,vi (v5.2.2.2.2.length : Int)) :: (29,.v (.slice (some ⟨rb6,0,none⟩) rn6 rc6)) :: (30,vi (v5.2.2.2.2.length : Int)) :: (31,.v (.pointer (some ⟨rb6,(v6 * 2),none⟩))) :: (32,.v (.pointer (some ⟨rb6,(v6 * 2 + 1),none⟩))) :: (58,.inv (rowJ 131 false 2 (flatten (map T_tree_node.ienc v8)) rb6 rn6 rc6)) :: (33,.v (.pointer (some ⟨rb6,(v9 * 2),none⟩))) :: (34,.v (.pointer (some ⟨rb6,(v9 * 2 + 1),none⟩))) :: (58,.inv (rowJ 131 false 2 (flatten (map T_tree_node.ienc v11)) rb6 rn6 rc6)) :: [])) (init := [0,1,2,3,4,5,6,7]) (fin := [0,21,2,3,4,5,6,7]) (sps := [zq [0] 8 23,zq [6] 9 24,zq [0] 10 25,zq [7] 11 26,zq [0] 12 27,zq [12] 13 28,zq [0] 14 29,zq [14] 15 30,zq [8,9] 16 31,zq [16] 17 32,⟨[17,13],[1],[18],[]⟩,zq [10,11] 19 33,zq [19] 20 34,⟨[20,15],[18],[21],[]⟩]) (es' := [(_,_),(58,.inv (rowJ 131 false 2 (flatten (map T_tree_node.ienc v11)) rb6 rn6 rc6)),(_,_),(_,_),(_,_),(_,_),(_,_),(_,_)]) (by kernel_rfl) rfl rfl ⟨zp rfl (oL underlying129 rfl),z1 rfl,zp rfl (oL underlying129 rfl),z1 rfl,zp rfl (oL underlying129 rfl),zp rfl (op_len_val _ _ rb6 rn6 rc6 _ underlying129 rfl (ics_eq rl6 (gflat_len T_tree_node.ilen _) (by decide))),zp rfl (oL underlying129 rfl),zp rfl (op_len_val _ _ rb6 rn6 rc6 _ underlying129 rfl (ics_eq rl6 (gflat_len T_tree_node.ilen _) (by decide))),zp rfl (op_ix_val _ _ _ _ _ rb6 rn6 rc6 _ _ underlying129 sz131 rfl rfl (ix_ok hv6).1 (ics_lt rl6 (gflat_len T_tree_node.ilen _) (by decide) (ix_ok hv6).2)),zp rfl (op_fieldAddr_v _ _ _ _ rb6 (v6 * 2) _ underlying131 rfl sz3 rfl rfl),zp rfl (op_store_row _ _ _ 58 rb6 rn6 rc6 _ 1 _ sz3 rfl rfl rfl (by decide) (gflat_fit (q := 1) (s := 1) T_tree_node.ilen hv7 (by decide)) ((gflat_setc (q := 1) (s := 1) (y := (T_tree_node.mk v7.weight (v5.2.2.2.2.length : Int))) T_tree_node.ilen hv7 rfl (by decide)).trans (congrArg (fun l => flatten (map T_tree_node.ienc l)) (Option.some.inj hv8)))),zp rfl (op_ix_val _ _ _ _ _ rb6 rn6 rc6 _ _ underlying129 sz131 rfl rfl (ix_ok hv9).1 (ics_lt rl6 (gflat_len T_tree_node.ilen _) (by decide) (ix_ok hv9).2)),zp rfl (op_fieldAddr_v _ _ _ _ rb6 (v9 * 2) _ underlying131 rfl sz3 rfl rfl),zp rfl (op_store_row _ _ _ 58 rb6 rn6 rc6 _ 1 _ sz3 rfl rfl rfl (by decide) (gflat_fit (q := 1) (s := 1) T_tree_node.ilen hv10 (by decide)) ((gflat_setc (q := 1) (s := 1) (y := (T_tree_node.mk v10.weight (v5.2.2.2.2.length : Int))) T_tree_node.ilen hv10 rfl (by decide)).trans (congrArg (fun l => flatten (map T_tree_node.ienc l)) (Option.some.inj hv11)))),zz⟩ ?_
    refine pt_close 0 [.fr (.own 131) false 2 (flatten (map T_tree_node.ienc v11))] (zl rfl) rfl rfl ?_
    refine pt_then ?_
    obtain ⟨v12, hv12, h⟩ := zn h
    obtain ⟨v13, hv13, h⟩ := zn h
    obtain ⟨v14, hv14, h⟩ := zn h
    obtain ⟨v15, hv15, h⟩ := zn h
    obtain ⟨v16, hv16, h⟩ := zn h
    obtain ⟨v17, hv17, h⟩ := zn h
    refine ht_anyR (by kernel_rfl) hn (El := (_ :: _ :: _ :: _ :: _ :: _ :: _ :: (35,.same (.cell 1 0)) :: (36,.same (.cell 1 0)) :: (37,vi v4.1) :: (38,.eref (.cell 1 0) (v12 * 2)) :: (39,.eref (.cell 1 0) (v12 * 2 + 0)) :: (40,vi v13.weight) :: (41,.same (.cell 1 0)) :: (42,vi v5.1) :: (43,.eref (.cell 1 0) (v14 * 2)) :: (44,.eref (.cell 1 0) (v14 * 2 + 0)) :: (45,vi v15.weight) :: (46,vi v16) :: (47,.agg [vi v16,vi 0]) :: (48,.fr (.own 131) false 2 (flatten (map T_tree_node.ienc [(T_tree_node.mk v16 0)]))) :: (49,.fr (.own 131) false 2 (flatten (map T_tree_node.ienc v17))) :: (1,.box 129 [.any]) :: (1,.box 129 [.fr (.own 131) false 2 (flatten (map T_tree_node.ienc v17))]) :: [])) (init := [0,1,2,3,4,5,6]) (fin := [23,1,2,3,4]) (sps := (zq [0] 7 35 :: zq [0] 8 36 :: zq [5] 9 37 :: zq [8,0,9] 10 38 :: zq [10,0] 11 39 :: zq [11,0] 12 40 :: zq [0] 13 41 :: zq [6] 14 42 :: zq [13,0,14] 15 43 :: zq [15,0] 16 44 :: zq [16,0] 17 45 :: zq [12,17] 18 46 :: zq [18] 19 47 :: zq [19] 20 48 :: ⟨[7,20],[0],[22,21],[(.slot 49)]⟩ :: ⟨[],[7,8,10,11,13,15,16,21,22],[23],[.cell 1 0]⟩ :: [])) (es' := [(1,.box 129 [.fr (.own 131) false 2 (flatten (map T_tree_node.ienc v17))]),(_,_),(_,_),(_,_),(_,_)]) (by kernel_rfl) rfl rfl ⟨zp rfl (oL underlying129 rfl),zp rfl (oL underlying129 rfl),z1 rfl,zp rfl (op_ix_fr _ _ _ _ _ _ _ _ underlying129 sz131 (by decide) rfl rfl rfl (ix_ok hv12).1 (gflat_lt T_tree_node.ilen (ix_ok hv12).2) rfl),zp rfl (op_fieldAddr_e _ _ _ _ _ _ _ underlying131 rfl sz3 rfl rfl rfl),zp rfl (op_load_fr _ _ _ _ _ _ _ underlying3 rfl rfl rfl (gflat_cell T_tree_node.ilen hv13 rfl) (.v _)),zp rfl (oL underlying129 rfl),z1 rfl,zp rfl (op_ix_fr _ _ _ _ _ _ _ _ underlying129 sz131 (by decide) rfl rfl rfl (ix_ok hv14).1 (gflat_lt T_tree_node.ilen (ix_ok hv14).2) rfl),zp rfl (op_fieldAddr_e _ _ _ _ _ _ _ underlying131 rfl sz3 rfl rfl rfl),zp rfl (op_load_fr _ _ _ _ _ _ _ underlying3 rfl rfl rfl (gflat_cell T_tree_node.ilen hv15 rfl) (.v _)),zp rfl (oB rfl (ibind (f := int .i64) (Option.some.inj hv16))),zp rfl (op_build _ _ _ _ [1,1] _ _ underlying131 zr131 (fs131 _ underlying131) (.copy _ Src.nil) rfl rfl rfl),zp rfl (op_build1_fr _ _ _ 2 (.agg #[.int .i64 0,.int .i64 0]) false _ _ underlying129 sz131 zr131 rfl rfl (.cons (.v _) (.cons (.v _) (.nil))) rfl (by decide) (by decide)),zp rfl (op_app_fr_cell _ 49 1 0 _ _ el129 rfl rfl (zl rfl) rfl (gflat_len T_tree_node.ilen _) (gflat_len T_tree_node.ilen _) hv17 (gflat_app (app_eq hv17)) (by decide) (by decide) (by decide) rfl rfl),zp rfl (LOp.drop [_] (LOp.drop [_] (LOp.drop [_] (LOp.drop [_] (LOp.drop [_] (LOp.drop [_] (LOp.drop [_] (op_store_take _ _ _ _ _ _ _ _ sz129 rfl rfl rfl (zl rfl) rfl rfl)))))))),zz⟩ ?_
    refine pt_inb ?_
    exact pt_next _ (zi h).symm rfl
   ·have h := cond_f hb54 h
    refine ht_exit ?_
    refine pt_x_then ?_
    refine pt_x_then ?_
    refine pt_x_in ?_
    refine pt_pick [0] (by kernel_rfl) (es' := [(_,_)]) rfl ?_
    exact hl49 _ (ho51 _ (zi h).symm).symm
theorem ok_tree_depths (weights : (List Int)) (r : (List Int)) (h : Sh.tree_depths weights = some r) : FnOK Tryd.prog 89 [.fl .shr 1 (map (int .i64) weights)] (.fl (.own 3) 1 (map (int .i64) r)) := by
  unfold Sh.tree_depths at h
  refine fn_ok func89 rfl (zl rfl) rfl rfl fun g0 hn hio => ?_
  refine zgg hn [_,(1,.box 37 [fi weights]),(2,vz)] [0] [1] [zq [0] 1 1,zq [] 2 2] [(_,_)] rfl ⟨zp rfl (op_box _ _ _ _ rfl rfl rfl),z2 rfl,zz⟩ ?_
  refine ht_seq ?_
  obtain ⟨v1, hv1, h⟩ := zn h
  refine zg hn [_,(12,fi weights),(13,vi (weights.length : Int)),(14,.fl (.own 3) 1 (map (int .i64) v1)),(3,.fl (.own 3) 1 (map (int .i64) v1))] [0] [0,4] [zq [0] 1 12,zq [1] 2 13,zq [2] 3 14,⟨[],[3],[4],[(.slot 3)]⟩] [(_,_),(_,_)] rfl ⟨zp rfl (oL underlying37 rfl),zp rfl (op_len_fl _ _ _ underlying37 rfl (by decide) (map_len _)),zp rfl (op_mk (f := int .i64) _ _ _ _ el37 (by decide) zr3 rfl rfl rfl hv1),zp rfl (op_assign_take _ _ _ _ rfl),zz⟩ ?_
  refine pt_then (ht_seq ?_)
  obtain ⟨v2, hv2, h⟩ := zn h
  refine zg hn [_,_,(15,fi weights),(16,.fl (.own 3) 1 (map (int .i64) v2)),(4,.fl (.own 3) 1 (map (int .i64) v2))] [0,1] [0,1,4] [zq [0] 2 15,zq [2] 3 16,⟨[],[3],[4],[(.slot 4)]⟩] [(_,_),(_,_),(_,_)] rfl ⟨zp rfl (oL underlying37 rfl),zp rfl (op_call _ _ 107 _ _ rfl call107 rfl (ok_tree_positive weights _ hv2) rfl rfl),zp rfl (op_assign_take _ _ _ _ rfl),zz⟩ ?_
  refine pt_then (ht_seq ?_)
  refine zgg hn [_,_,_,(17,.same (.slot 4)),(18,vi (v2.length : Int)),(19,vb ((v2.length : Int) == 0))] [0,1,2] [0,1,2,5] [zq [2] 3 17,zq [3,2] 4 18,zq [4] 5 19] [(_,_),(_,_),(_,_),(_,_)] rfl ⟨z1 rfl,zp rfl (op_len_fl _ _ _ underlying37 rfl (by decide) (map_len _)),z4 rfl rfl,zz⟩ ?_
  refine ht_cond _ rfl (fun hb3 => ?_) (fun hb3 => ?_)
  ·have h := cond_t hb3 h
   refine zgg hn [_,_,_,_,(20,.fl (.own 3) 1 (map (int .i64) v1)),(2,.fl (.own 3) 1 (map (int .i64) v1))] [0,1,2,3] [5] [⟨[],[1],[4],[(.slot 20)]⟩,⟨[],[4],[5],[(.slot 2)]⟩] [(_,_)] rfl ⟨zp rfl (op_move_take _ _ _ _ rfl),zp rfl (op_assign_take _ _ _ _ rfl),zz⟩ ?_
   refine ht_ret ?_
   refine pt_r_then ?_
   obtain rfl := zi h
   exact pt_ret hio rfl (.tmp _ _ .nil) rfl rfl
  ·have h := cond_f hb3 h
   refine ht_skip ?_
   refine pt_then (ht_seq ?_)
   refine zgg hn [_,_,_,_,(21,.same (.slot 4)),(22,vi (v2.length : Int)),(23,vb ((v2.length : Int) == 1))] [0,1,2,3] [0,1,2,6] [zq [2] 4 21,zq [4,2] 5 22,zq [5] 6 23] [(_,_),(_,_),(_,_),(_,_)] rfl ⟨z1 rfl,zp rfl (op_len_fl _ _ _ underlying37 rfl (by decide) (map_len _)),z4 rfl rfl,zz⟩ ?_
   refine ht_cond _ rfl (fun hb4 => ?_) (fun hb4 => ?_)
   ·have h := cond_t hb4 h
    refine ht_seq ?_
    obtain ⟨v5, hv5, h⟩ := zn h
    obtain ⟨v6, hv6, h⟩ := zn h
    obtain ⟨v7, hv7, h⟩ := zn h
    obtain ⟨v8, hv8, h⟩ := zn h
    refine zg hn [_,_,_,_,(24,.same (.slot 3)),(25,.fl (.own 3) 1 (map (int .i64) v2)),(26,.eref (.slot 25) (v5 * 1)),(27,vi v6),(28,.eref (.slot 3) (v7 * 1)),(3,.fl (.own 3) 1 (map (int .i64) v8))] [0,1,2,3] [9] [zq [1] 4 24,⟨[],[2],[5],[(.slot 25)]⟩,zq [5] 6 26,zq [6,5] 7 27,zq [4,1,7] 8 28,⟨[8],[1],[9],[]⟩] [(_,_)] rfl ⟨z1 rfl,zp rfl (op_move_take _ _ _ _ rfl),zp rfl (op_ix _ _ _ _ _ _ _ _ underlying37 sz3 (by decide) rfl rfl rfl (ix_ok hv5).1 (map_lt (ix_ok hv5).2) rfl),zp rfl (op_load_e _ _ _ _ _ _ underlying3 rfl rfl rfl (map_get hv6)),zp rfl (op_ix _ _ _ _ _ _ _ _ underlying37 sz3 (by decide) rfl rfl rfl (ix_ok hv7).1 (map_lt (ix_ok hv7).2) rfl),zp rfl (op_store_e _ _ _ _ _ _ _ _ sz3 rfl rfl rfl (by decide) (map_lt (ix_ok hv7).2) ((map_set (f := int .i64) _ (ix_ok hv7).2).trans (congrArg (map _) (Option.some.inj hv8)))),zz⟩ ?_
    refine pt_then ?_
    refine zgg hn [_,(29,.fl (.own 3) 1 (map (int .i64) v8)),(2,.fl (.own 3) 1 (map (int .i64) v8))] [0] [2] [⟨[],[0],[1],[(.slot 29)]⟩,⟨[],[1],[2],[(.slot 2)]⟩] [(_,_)] rfl ⟨zp rfl (op_move_take _ _ _ _ rfl),zp rfl (op_assign_take _ _ _ _ rfl),zz⟩ ?_
    refine ht_ret ?_
    refine pt_r_then ?_
    obtain rfl := zi h
    exact pt_ret hio rfl (.tmp _ _ .nil) rfl rfl
   ·have h := cond_f hb4 h
    refine ht_skip ?_
    refine pt_then (ht_seq ?_)
    obtain ⟨v9, hv9, h⟩ := zn h
    refine zg hn [_,_,_,_,(30,.same (.slot 4)),(31,.clo 109 [1]),(32,.tup []),(4,.fl (.own 3) 1 (map (int .i64) v9))] [0,1,2,3] [0,1,7] [zq [2] 4 30,zq [] 5 31,⟨[4,5,0],[2],[7,6],[(.slot 32)]⟩] [(_,_),(_,_),(_,_)] rfl ⟨z1 rfl,zp rfl (op_makeFunc_name _ _ _ 1 (by decide)),zp rfl (op_sort _ 32 4 31 1 _ _ weights v2 v9 rfl call108 Tryd.sort_ok rfl rfl rfl rfl rfl hv9 rfl (by decide)),zz⟩ ?_
    refine pt_then (ht_seq ?_)
    obtain ⟨v10, hv10, h⟩ := zn h
    obtain ⟨v11, hv11, h⟩ := zn h
    refine zg hn [_,_,_,(33,.same (.slot 4)),(34,vi (v9.length : Int)),(35,vi v10),(36,.fr (.own 131) false 2 (flatten (map T_tree_node.ienc ([] : List T_tree_node)))),(5,.fr (.own 131) false 2 (flatten (map T_tree_node.ienc ([] : List T_tree_node))))] [0,1,2] [0,1,2,7] [zq [2] 3 33,zq [3,2] 4 34,zq [4] 5 35,zq [5] 6 36,⟨[],[6],[7],[(.slot 5)]⟩] [(_,_),(_,_),(_,_),(_,_)] rfl ⟨z1 rfl,zp rfl (op_len_fl _ _ _ underlying37 rfl (by decide) (map_len _)),zp rfl (oB rfl (ibind (f := int .i64) (Option.some.inj hv10))),zp rfl (op_mk0f _ _ 2 false _ _ el129 (by decide) rfl rfl hv11),zp rfl (op_assign_take _ _ _ _ rfl),zz⟩ ?_
    refine pt_then (ht_seq ?_)
    refine zgg hn [_,_,_,_,(37,.same (.slot 4)),(38,vi (v9.length : Int)),(39,vi 0)] [0,1,2,3] [0,1,2,3,4,5,6] [zq [2] 4 37,zq [4,2] 5 38,zq [] 6 39] [(_,_),(_,_),(_,_),(_,_),(_,_),(_,_),(_,_)] rfl ⟨z1 rfl,zp rfl (op_len_fl _ _ _ underlying37 rfl (by decide) (map_len _)),z1 rfl,zz⟩ ?_
    refine ht_loopS h (fun ((s22,s23) : (List T_tree_node) × Int) => [(1,.box 37 [fi weights]),(3,.fl (.own 3) 1 (map (int .i64) v1)),(4,.fl (.own 3) 1 (map (int .i64) v9)),(5,.fr (.own 131) false 2 (flatten (map T_tree_node.ienc s22))),(37,.same (.slot 4)),(38,vi (v9.length : Int)),(39,vi s23)]) (fun (s25 : (List T_tree_node)) => [(3,.fl (.own 3) 1 (map (int .i64) v1)),(4,.fl (.own 3) 1 (map (int .i64) v9)),(5,.fr (.own 131) false 2 (flatten (map T_tree_node.ienc s25)))]) ?_ ?_
    ·rintro s25 h
     refine pt_then (ht_seq ?_)
     obtain ⟨v33, hv33, h⟩ := zn h
     refine zg hn [_,_,_,(52,.fr (.own 131) false 2 (flatten (map T_tree_node.ienc s25))),(53,.fr .ro false 2 (flatten (map T_tree_node.ienc v33))),(52,.any),(5,.fr .ro false 2 (flatten (map T_tree_node.ienc v33)))] [0,1,2] [0,1,6] [⟨[],[2],[3],[(.slot 52)]⟩,⟨[],[3],[5,4],[(.slot 53)]⟩,zq [4] 6 5] [(_,_),(_,_),(_,_)] rfl ⟨zp rfl (op_move_take _ _ _ _ rfl),zp rfl (op_callEf _ _ 52 110 _ _ rfl call110 rfl rfl (ok_tree_merge s25 _ hv33) rfl rfl rfl),z2 rfl,zz⟩ ?_
     refine pt_then (ht_seq ?_)
     obtain ⟨v34, hv34, h⟩ := zn h
     refine zg hn [_,_,_,(54,.fr .ro false 2 (flatten (map T_tree_node.ienc v33))),(55,vi (v33.length : Int)),(56,.fl (.own 3) 1 (map (int .i64) v34)),(8,.fl (.own 3) 1 (map (int .i64) v34))] [0,1,2] [0,1,2,6] [zq [2] 3 54,zq [3] 4 55,zq [4] 5 56,⟨[],[5],[6],[(.slot 8)]⟩] [(_,_),(_,_),(_,_),(_,_)] rfl ⟨z1 rfl,zp rfl (op_len_fr _ _ _ underlying129 rfl (by decide) (gflat_len T_tree_node.ilen _)),zp rfl (op_mk (f := int .i64) _ _ _ _ el37 (by decide) zr3 rfl rfl rfl hv34),zp rfl (op_assign_take _ _ _ _ rfl),zz⟩ ?_
     refine pt_then (ht_seq ?_)
     refine ht_seq ?_
     obtain ⟨v35, hv35, h⟩ := zn h
     refine zg hn [_,_,_,_,(57,.fr .ro false 2 (flatten (map T_tree_node.ienc v33))),(58,vi (v33.length : Int)),(59,vi v35),(9,vi v35)] [0,1,2,3] [0,1,2,3,7] [zq [2] 4 57,zq [4] 5 58,zq [5] 6 59,zq [6] 7 9] [(_,_),(_,_),(_,_),(_,_),(_,_)] rfl ⟨z1 rfl,zp rfl (op_len_fr _ _ _ underlying129 rfl (by decide) (gflat_len T_tree_node.ilen _)),zp rfl (oB rfl (ibind (f := int .i64) (Option.some.inj hv35))),z2 rfl,zz⟩ ?_
     refine pt_then ?_
     refine ht_loopS h (fun ((s48,s49) : (List Int) × Int) => [(3,.fl (.own 3) 1 (map (int .i64) v1)),(4,.fl (.own 3) 1 (map (int .i64) v9)),(5,.fr .ro false 2 (flatten (map T_tree_node.ienc v33))),(8,.fl (.own 3) 1 (map (int .i64) s48)),(9,vi s49)]) (fun (s51 : (List Int)) => [(3,.fl (.own 3) 1 (map (int .i64) v1)),(4,.fl (.own 3) 1 (map (int .i64) v9)),(8,.fl (.own 3) 1 (map (int .i64) s51))]) ?_ ?_
     ·rintro s51 h
      refine pt_then (ht_seq ?_)
      refine zgg hn [_,_,_,(76,.fl (.own 3) 1 (map (int .i64) v9)),(77,vi (v9.length : Int)),(78,vi 0)] [0,1,2] [0,2,3,4,5] [⟨[],[1],[3],[(.slot 76)]⟩,zq [3] 4 77,zq [] 5 78] [(_,_),(_,_),(_,_),(_,_),(_,_)] rfl ⟨zp rfl (op_move_take _ _ _ _ rfl),zp rfl (op_len_fl _ _ _ underlying37 rfl (by decide) (map_len _)),z1 rfl,zz⟩ ?_
      refine ht_loopS h (fun ((s70,s71) : (List Int) × Int) => [(3,.fl (.own 3) 1 (map (int .i64) s70)),(8,.fl (.own 3) 1 (map (int .i64) s51)),(76,.fl (.own 3) 1 (map (int .i64) v9)),(77,vi (v9.length : Int)),(78,vi s71)]) (fun (s73 : (List Int)) => [(3,.fl (.own 3) 1 (map (int .i64) s73))]) ?_ ?_
      ·rintro s73 h
       refine pt_then ?_
       refine zgg hn [_,(91,.fl (.own 3) 1 (map (int .i64) s73)),(2,.fl (.own 3) 1 (map (int .i64) s73))] [0] [2] [⟨[],[0],[1],[(.slot 91)]⟩,⟨[],[1],[2],[(.slot 2)]⟩] [(_,_)] rfl ⟨zp rfl (op_move_take _ _ _ _ rfl),zp rfl (op_assign_take _ _ _ _ rfl),zz⟩ ?_
       refine ht_ret ?_
       obtain rfl := zi h
       exact pt_ret hio rfl (.tmp _ _ .nil) rfl rfl
      ·rintro u74 hl75 hr76 ⟨s70, s71⟩ rr79 h ho77
       refine zgg hn [_,_,_,_,_,(79,vb (decide (s71 < (v9.length : Int))))] [0,1,2,3,4] [0,1,2,3,4,5] [zq [4,3] 5 79] [(_,_),(_,_),(_,_),(_,_),(_,_),(_,_)] rfl ⟨z4 rfl rfl,zz⟩ ?_
       refine ht_seq ?_
       refine ht_cond _ rfl (fun hb80 => ?_) (fun hb80 => ?_)
       ·have h := cond_t hb80 h
        refine ht_skip ?_
        refine pt_then (ht_seq ?_)
        refine ht_block ?_
        refine ht_seq ?_
        obtain ⟨v60, hv60, h⟩ := zn h
        obtain ⟨v61, hv61, h⟩ := zn h
        refine zg hn [_,_,_,_,_,_,(80,vi s71),(81,.eref (.slot 76) (v60 * 1)),(82,vi v61),(10,vi s71),(11,vi v61)] [0,1,2,3,4,5] [0,1,2,3,4,9,10] [zq [4] 6 80,zq [2,4] 7 81,zq [7,2] 8 82,zq [6] 9 10,zq [8] 10 11] [(_,_),(_,_),(_,_),(_,_),(_,_),(_,_),(_,_)] rfl ⟨z1 rfl,zp rfl (op_ix _ _ _ _ _ _ _ _ underlying37 sz3 (by decide) rfl rfl rfl (ix_ok hv60).1 (map_lt (ix_ok hv60).2) rfl),zp rfl (op_load_e _ _ _ _ _ _ underlying3 rfl rfl rfl (map_get hv61)),z2 rfl,z2 rfl,zz⟩ ?_
        refine pt_then ?_
        obtain ⟨v62, hv62, h⟩ := zn h
        obtain ⟨v63, hv63, h⟩ := zn h
        obtain ⟨v64, hv64, h⟩ := zn h
        obtain ⟨v65, hv65, h⟩ := zn h
        refine zg hn (_::_::_::_::_::_::_::(83,.same (.slot 3))::(84,vi v61)::(85,.same (.slot 8))::(86,vi s71)::(87,.eref (.slot 8) (v62 * 1))::(88,vi v63)::(89,.eref (.slot 3) (v64 * 1))::(3,.fl (.own 3) 1 (map (int .i64) v65))::[]) [0,1,2,3,4,5,6] [14,1,2,3,4] [zq [0] 7 83,zq [6] 8 84,zq [1] 9 85,zq [5] 10 86,zq [9,1,10] 11 87,zq [11,1] 12 88,zq [7,0,8] 13 89,⟨[13,12],[0],[14],[]⟩] [(_,_),(_,_),(_,_),(_,_),(_,_)] rfl ⟨z1 rfl,z1 rfl,z1 rfl,z1 rfl,zp rfl (op_ix _ _ _ _ _ _ _ _ underlying37 sz3 (by decide) rfl rfl rfl (ix_ok hv62).1 (map_lt (ix_ok hv62).2) rfl),zp rfl (op_load_e _ _ _ _ _ _ underlying3 rfl rfl rfl (map_get hv63)),zp rfl (op_ix _ _ _ _ _ _ _ _ underlying37 sz3 (by decide) rfl rfl rfl (ix_ok hv64).1 (map_lt (ix_ok hv64).2) rfl),zp rfl (op_store_e _ _ _ _ _ _ _ _ sz3 rfl rfl rfl (by decide) (map_lt (ix_ok hv64).2) ((map_set (f := int .i64) _ (ix_ok hv64).2).trans (congrArg (map _) (Option.some.inj hv65)))),zz⟩ ?_
        refine pt_inb ?_
        refine pt_then ?_
        obtain ⟨v66, hv66, h⟩ := zn h
        refine zg hn [_,_,_,_,_,(90,vi v66),(78,vi v66)] [0,1,2,3,4] [0,1,2,3,6] [zq [4] 5 90,⟨[5],[4],[6],[(.slot 78)]⟩] [(_,_),(_,_),(_,_),(_,_),(_,_)] rfl ⟨zp rfl (oB rfl (ibind (f := int .i64) (Option.some.inj hv66))),zp rfl (LOp.drop [_] (oM rfl)),zz⟩ ?_
        exact pt_next _ (zi h).symm rfl
       ·have h := cond_f hb80 h
        refine ht_exit ?_
        refine pt_x_then ?_
        refine pt_x_then ?_
        refine pt_x_in ?_
        refine pt_pick [0] (by kernel_rfl) (es' := [(_,_)]) rfl ?_
        exact hl75 _ (ho77 _ (zi h).symm).symm
     ·rintro u52 hl53 hr54 ⟨s48, s49⟩ rr57 h ho55
      refine ht_seq ?_
      refine zgg hn [_,_,_,_,_,(60,vi s49),(61,vb (decide (0 ≤ s49)))] [0,1,2,3,4] [0,1,2,3,4,6] [zq [4] 5 60,zq [5] 6 61] [(_,_),(_,_),(_,_),(_,_),(_,_),(_,_)] rfl ⟨z1 rfl,z4 rfl rfl,zz⟩ ?_
      refine ht_cond _ rfl (fun hb58 => ?_) (fun hb58 => ?_)
      ·have h := cond_t hb58 h
       refine ht_skip ?_
       refine pt_then (ht_seq ?_)
       refine ht_block ?_
       obtain ⟨v37, hv37, h⟩ := zn h
       obtain ⟨v38, hv38, h⟩ := zn h
       obtain ⟨v39, hv39, h⟩ := zn h
       obtain ⟨v40, hv40, h⟩ := zn h
       obtain ⟨v41, hv41, h⟩ := zn h
       obtain ⟨v42, hv42, h⟩ := zn h
       obtain ⟨v43, hv43, h⟩ := zn h
       refine zg hn (_::_::_::_::_::_::(64,.same (.slot 8))::(65,vi s49)::(66,.same (.slot 8))::(67,.fr .ro false 2 (flatten (map T_tree_node.ienc v33)))::(68,vi s49)::(69,.eref (.slot 67) (v37 * 2))::(70,.eref (.slot 67) (v37 * 2 + 1))::(71,vi v38.parent)::(72,.eref (.slot 8) (v39 * 1))::(73,vi v40)::(74,vi v41)::(75,.eref (.slot 8) (v42 * 1))::(8,.fl (.own 3) 1 (map (int .i64) v43))::[]) [0,1,2,3,4,5] [0,1,2,18,4] [zq [3] 6 64,zq [4] 7 65,zq [3] 8 66,zq [2] 9 67,zq [4] 10 68,zq [9,10] 11 69,zq [11,9] 12 70,zq [12,9] 13 71,zq [8,3,13] 14 72,zq [14,3] 15 73,zq [15] 16 74,zq [6,3,7] 17 75,⟨[17,16],[3],[18],[]⟩] [(_,_),(_,_),(_,_),(_,_),(_,_)] rfl ⟨z1 rfl,z1 rfl,z1 rfl,z1 rfl,z1 rfl,zp rfl (op_ix_fr _ _ _ _ _ _ _ _ underlying129 sz131 (by decide) rfl rfl rfl (ix_ok hv37).1 (gflat_lt T_tree_node.ilen (ix_ok hv37).2) rfl),zp rfl (op_fieldAddr_e _ _ _ _ _ _ _ underlying131 rfl sz3 rfl rfl rfl),zp rfl (op_load_fr _ _ _ _ _ _ _ underlying3 rfl rfl rfl (gflat_cell T_tree_node.ilen hv38 rfl) (.v _)),zp rfl (op_ix _ _ _ _ _ _ _ _ underlying37 sz3 (by decide) rfl rfl rfl (ix_ok hv39).1 (map_lt (ix_ok hv39).2) rfl),zp rfl (op_load_e _ _ _ _ _ _ underlying3 rfl rfl rfl (map_get hv40)),zp rfl (oB rfl (ibind (f := int .i64) (Option.some.inj hv41))),zp rfl (op_ix _ _ _ _ _ _ _ _ underlying37 sz3 (by decide) rfl rfl rfl (ix_ok hv42).1 (map_lt (ix_ok hv42).2) rfl),zp rfl (op_store_e _ _ _ _ _ _ _ _ sz3 rfl rfl rfl (by decide) (map_lt (ix_ok hv42).2) ((map_set (f := int .i64) _ (ix_ok hv42).2).trans (congrArg (map _) (Option.some.inj hv43)))),zz⟩ ?_
       refine pt_inb ?_
       refine pt_then ?_
       obtain ⟨v44, hv44, h⟩ := zn h
       refine zg hn [_,_,_,_,_,(62,vi s49),(63,vi v44),(9,vi v44)] [0,1,2,3,4] [0,1,2,3,7] [zq [4] 5 62,zq [5] 6 63,⟨[6],[4],[7],[(.slot 9)]⟩] [(_,_),(_,_),(_,_),(_,_),(_,_)] rfl ⟨z1 rfl,zp rfl (oB rfl (ibind (f := int .i64) (Option.some.inj hv44))),zp rfl (LOp.drop [_] (op_assign _ _ _ _ rfl rfl)),zz⟩ ?_
       exact pt_next _ (zi h).symm rfl
      ·have h := cond_f hb58 h
       refine ht_exit ?_
       refine pt_x_then ?_
       refine pt_x_then ?_
       refine pt_x_in ?_
       refine pt_pick [0,1,3] (by kernel_rfl) (es' := [(_,_),(_,_),(_,_)]) rfl ?_
       exact hl53 _ (ho55 _ (zi h).symm).symm
    ·rintro u26 hl27 hr28 ⟨s22, s23⟩ rr31 h ho29
     refine zgg hn [_,_,_,_,_,_,_,(40,vb (decide (s23 < (v9.length : Int))))] [0,1,2,3,4,5,6] [0,1,2,3,4,5,6,7] [zq [6,5] 7 40] [(_,_),(_,_),(_,_),(_,_),(_,_),(_,_),(_,_),(_,_)] rfl ⟨z4 rfl rfl,zz⟩ ?_
     refine ht_seq ?_
     refine ht_cond _ rfl (fun hb32 => ?_) (fun hb32 => ?_)
     ·have h := cond_t hb32 h
      refine ht_skip ?_
      refine pt_then (ht_seq ?_)
      refine ht_block ?_
      refine ht_seq ?_
      obtain ⟨v13, hv13, h⟩ := zn h
      obtain ⟨v14, hv14, h⟩ := zn h
      refine zg hn [_,_,_,_,_,_,_,_,(41,.eref (.slot 4) (v13 * 1)),(42,vi v14),(7,vi v14)] [0,1,2,3,4,5,6,7] [0,1,2,3,4,5,6,10] [zq [4,2,6] 8 41,zq [8,2] 9 42,zq [9] 10 7] [(_,_),(_,_),(_,_),(_,_),(_,_),(_,_),(_,_),(_,_)] rfl ⟨zp rfl (op_ix _ _ _ _ _ _ _ _ underlying37 sz3 (by decide) rfl rfl rfl (ix_ok hv13).1 (map_lt (ix_ok hv13).2) rfl),zp rfl (op_load_e _ _ _ _ _ _ underlying3 rfl rfl rfl (map_get hv14)),z2 rfl,zz⟩ ?_
      refine pt_then ?_
      obtain ⟨v15, hv15, h⟩ := zn h
      obtain ⟨v16, hv16, h⟩ := zn h
      obtain ⟨v17, hv17, h⟩ := zn h
      refine zg hn (_::_::_::_::_::_::_::_::(43,.fr (.own 131) false 2 (flatten (map T_tree_node.ienc s22)))::(44,fi weights)::(45,vi v14)::(46,.eref (.slot 44) (v15 * 1))::(47,vi v16)::(48,.agg [vi v16,vi 0])::(49,.fr (.own 131) false 2 (flatten (map T_tree_node.ienc [(T_tree_node.mk v16 0)])))::(50,.fr (.own 131) false 2 (flatten (map T_tree_node.ienc v17)))::(43,.any)::(5,.fr (.own 131) false 2 (flatten (map T_tree_node.ienc v17)))::[]) [0,1,2,3,4,5,6,7] [0,1,2,4,5,6,17] [⟨[],[3],[8],[(.slot 43)]⟩,zq [0] 9 44,zq [7] 10 45,zq [9,10] 11 46,zq [11,9] 12 47,zq [12] 13 48,zq [13] 14 49,⟨[14],[8],[16,15],[(.slot 50)]⟩,⟨[],[15],[17],[(.slot 5)]⟩] [(_,_),(_,_),(_,_),(_,_),(_,_),(_,_),(_,_)] rfl ⟨zp rfl (op_move_take _ _ _ _ rfl),zp rfl (oL underlying37 rfl),z1 rfl,zp rfl (op_ix _ _ _ _ _ _ _ _ underlying37 sz3 (by decide) rfl rfl rfl (ix_ok hv15).1 (map_lt (ix_ok hv15).2) rfl),zp rfl (op_load_e _ _ _ _ _ _ underlying3 rfl rfl rfl (map_get hv16)),zp rfl (op_build _ _ _ _ [1, 1] _ _ underlying131 zr131 (fs131 _ underlying131) (.copy _ Src.nil) rfl rfl rfl),zp rfl (op_build1_fr _ _ _ 2 (.agg #[.int .i64 0, .int .i64 0]) false _ _ underlying129 sz131 zr131 rfl rfl (.cons (.v _) (.cons (.v _) (.nil))) rfl (by decide) (by decide)),zp rfl (op_app_fr _ _ _ _ _ el129 rfl rfl (gflat_len T_tree_node.ilen _) (gflat_len T_tree_node.ilen _) hv17 (gflat_app (app_eq hv17)) (by decide) (by decide)),zp rfl (op_assign_take _ _ _ _ rfl),zz⟩ ?_
      refine pt_inb ?_
      refine pt_then ?_
      obtain ⟨v18, hv18, h⟩ := zn h
      refine zg hn [_,_,_,_,_,_,_,(51,vi v18),(39,vi v18)] [0,1,2,3,4,5,6] [0,1,2,3,4,6,8] [zq [5] 7 51,⟨[7],[5],[8],[(.slot 39)]⟩] [(_,_),(_,_),(_,_),(_,_),(_,_),(_,_),(_,_)] rfl ⟨zp rfl (oB rfl (ibind (f := int .i64) (Option.some.inj hv18))),zp rfl (LOp.drop [_] (oM rfl)),zz⟩ ?_
      refine pt_pick [0,1,2,5,3,4,6] (by kernel_rfl) (es' := [(_,_),(_,_),(_,_),(_,_),(_,_),(_,_),(_,_)]) rfl ?_
      exact pt_next _ (zi h).symm rfl
     ·have h := cond_f hb32 h
      refine ht_exit ?_
      refine pt_x_then ?_
      refine pt_x_then ?_
      refine pt_x_in ?_
      refine pt_pick [1,2,3] (by kernel_rfl) (es' := [(_,_),(_,_),(_,_)]) rfl ?_
      exact hl27 _ (ho29 _ (zi h).symm).symm
theorem ok_tree_Lengths_1_cap (bx : Nat) (n : Int) (cap : Int) (r : Bool) (h : Sh.tree_Lengths_1_cap n cap = some r) : FnG Tryd.prog [(bx, [.int .i64 cap])] 91 [.v (.int .i64 n), .v (.pointer (some ⟨bx, 0, none⟩))] (.v (.bool r)) := by
  unfold Sh.tree_Lengths_1_cap at h
  refine fn_okG func91 rfl (zl rfl) rfl rfl fun g0 hn hio => ?_
  refine zgg hn [_,_,_,(3,vb false)] [0,1,2] [0,1,2] [zq [] 3 3] [(_,_),(_,_),(_,_)] rfl ⟨z2 rfl,zz⟩ ?_
  refine zgg hn [_,_,_,(4,vi n),(5,vi cap),(6,vb (decide (cap < n))),(3,vb (decide (cap < n)))] [0,1,2] [2,6] [zq [0] 3 4,zq [1,2] 4 5,zq [3,4] 5 6,zq [5] 6 3] [(_,_),(_,_)] rfl ⟨z1 rfl,zp rfl (op_load_glob _ _ 7 bx 0 _ _ underlying3 rfl rfl rfl (.head _) rfl),z4 rfl rfl,z2 rfl,zz⟩ ?_
  refine ht_ret ?_
  refine pt_pick [1] (by kernel_rfl) (es' := [(_,_)]) rfl ?_
  obtain rfl := zi h
  exact pt_ret hio rfl (.tmp _ _ .nil) rfl rfl
theorem ok_slices_IndexFunc_int_int_of_tree_Lengths_1 (bx : Nat) (s : (List Int)) (cap : Int) (r : Int) (h : Sh.slices_IndexFunc_int_int_of_tree_Lengths_1 s cap = some r) : FnG Tryd.prog [(bx, [.int .i64 cap])] 111 [.fl .shr 1 (map (int .i64) s), .v (.func (.func 91) #[] #[.pointer (some ⟨bx, 0, none⟩)])] (.v (.int .i64 r)) := by
  unfold Sh.slices_IndexFunc_int_int_of_tree_Lengths_1 at h
  refine fn_okG func111 rfl (zl rfl) rfl rfl fun g0 hn hio => ?_
  refine zgg hn [_,_,_,(4,vi 0)] [0,1,2] [0,1,2] [zq [] 3 4] [(_,_),(_,_),(_,_)] rfl ⟨z2 rfl,zz⟩ ?_
  refine ht_seq ?_
  refine zgg hn [_,_,_,(6,fi s),(7,vi (s.length : Int)),(8,vi 0)] [0,1,2] [0,1,2,4,5] [zq [0] 3 6,zq [3] 4 7,zq [] 5 8] [(_,_),(_,_),(_,_),(_,_),(_,_)] rfl ⟨z1 rfl,zp rfl (op_len_fl _ _ _ underlying37 rfl (by decide) (map_len _)),z1 rfl,zz⟩ ?_
  refine ht_loopS h (fun (s10 : Int) => [(0,fi s),(1,.v (.func (.func 91) #[] #[.pointer (some ⟨bx,0,none⟩)])),(19,.glob [(bx,[.int .i64 cap])]),(7,vi (s.length : Int)),(8,vi s10)]) (fun (() : Unit) => [(19,.glob [(bx,[.int .i64 cap])])]) ?_ ?_
  ·rintro ⟨⟩ h
   refine pt_then ?_
   refine zgg hn [_,(4,vi (-1))] [0] [0,1] [zq [] 1 4] [(_,_),(_,_)] rfl ⟨z2 rfl,zz⟩ ?_
   refine ht_ret ?_
   refine pt_pick [1] (by kernel_rfl) (es' := [(_,_)]) rfl ?_
   obtain rfl := zi h
   exact pt_ret hio rfl (.tmp _ _ .nil) rfl rfl
  ·rintro u13 hl14 hr15 s10 rr18 h ho16
   refine zgg hn [_,_,_,_,_,(9,vb (decide (s10 < (s.length : Int))))] [0,1,2,3,4] [0,1,2,3,4,5] [zq [4,3] 5 9] [(_,_),(_,_),(_,_),(_,_),(_,_),(_,_)] rfl ⟨z4 rfl rfl,zz⟩ ?_
   refine ht_seq ?_
   refine ht_cond _ rfl (fun hb19 => ?_) (fun hb19 => ?_)
   ·have h := cond_t hb19 h
    refine ht_skip ?_
    refine pt_then (ht_seq ?_)
    refine ht_block ?_
    refine zgg hn [_,_,_,_,_,_,(10,vi s10),(5,vi s10)] [0,1,2,3,4,5] [0,1,2,3,4,7] [zq [4] 6 10,zq [6] 7 5] [(_,_),(_,_),(_,_),(_,_),(_,_),(_,_)] rfl ⟨z1 rfl,z2 rfl,zz⟩ ?_
    refine ht_seq ?_
    obtain ⟨v2, hv2, h⟩ := zn h
    obtain ⟨v3, hv3, h⟩ := zn h
    obtain ⟨v4, hv4, h⟩ := zn h
    refine zg hn [_,_,_,_,_,_,(11,.v (.func (.func 91) #[] #[.pointer (some ⟨bx,0,none⟩)])),(12,fi s),(13,vi s10),(14,.eref (.slot 12) (v2 * 1)),(15,vi v3),(16,vb v4)] [0,1,2,3,4,5] [0,1,2,3,4,5,11] [zq [1] 6 11,zq [0] 7 12,zq [5] 8 13,zq [7,8] 9 14,zq [9,7] 10 15,zq [10,6,2] 11 16] [(_,_),(_,_),(_,_),(_,_),(_,_),(_,_),(_,_)] rfl ⟨z1 rfl,z1 rfl,z1 rfl,zp rfl (op_ix _ _ _ _ _ _ _ _ underlying37 sz3 (by decide) rfl rfl rfl (ix_ok hv2).1 (map_lt (ix_ok hv2).2) rfl),zp rfl (op_load_e _ _ _ _ _ _ underlying3 rfl rfl rfl (map_get hv3)),zp rfl (op_callV _ _ 19 91 (.pointer (some ⟨bx, 0, none⟩)) _ _ rfl call91 rfl rfl (fun _ h => h) (ok_tree_Lengths_1_cap bx v3 cap _ hv4) rfl rfl),zz⟩ ?_
    refine pt_then ?_
    refine ht_cond _ rfl (fun hb20 => ?_) (fun hb20 => ?_)
    ·have h := cond_t hb20 h
     refine zgg hn [_,_,_,_,_,_,_,(17,vi s10),(4,vi s10)] [0,1,2,3,4,5,6] [2,8] [zq [5] 7 17,zq [7] 8 4] [(_,_),(_,_)] rfl ⟨z1 rfl,z2 rfl,zz⟩ ?_
     refine ht_ret ?_
     refine pt_pick [1] (by kernel_rfl) (es' := [(_,_)]) rfl ?_
     refine pt_r_in ?_
     refine pt_r_then ?_
     refine pt_r_then ?_
     refine pt_r_in ?_
     refine pt_r_then ?_
     have h := hr15 _ (ho16 _ (zi h).symm).symm
     obtain rfl := zi h
     exact pt_ret hio rfl (.tmp _ _ .nil) rfl rfl
    ·have h := cond_f hb20 h
     refine ht_skip ?_
     refine pt_inb ?_
     refine pt_then ?_
     obtain ⟨v6, hv6, h⟩ := zn h
     refine zg hn [_,_,_,_,_,_,_,(18,vi v6),(8,vi v6)] [0,1,2,3,4,5,6] [0,1,2,3,8] [zq [4] 7 18,⟨[7],[4],[8],[(.slot 8)]⟩] [(_,_),(_,_),(_,_),(_,_),(_,_)] rfl ⟨zp rfl (oB rfl (ibind (f := int .i64) (Option.some.inj hv6))),zp rfl (LOp.drop [_] (oM rfl)),zz⟩ ?_
     exact pt_next _ (zi h).symm rfl
   ·have h := cond_f hb19 h
    refine ht_exit ?_
    refine pt_x_then ?_
    refine pt_x_then ?_
    refine pt_x_in ?_
    refine pt_pick [2] (by kernel_rfl) (es' := [(_,_)]) rfl ?_
    exact hl14 _ (ho16 _ (zi h).symm).symm
theorem ok_slices_ContainsFunc_int_int_of_tree_Lengths_1 (bx : Nat) (s : (List Int)) (cap : Int) (r : Bool) (h : Sh.slices_ContainsFunc_int_int_of_tree_Lengths_1 s cap = some r) : FnG Tryd.prog [(bx, [.int .i64 cap])] 90 [.fl .shr 1 (map (int .i64) s), .v (.func (.func 91) #[] #[.pointer (some ⟨bx, 0, none⟩)])] (.v (.bool r)) := by
  unfold Sh.slices_ContainsFunc_int_int_of_tree_Lengths_1 at h
  refine fn_okG func90 rfl (zl rfl) rfl rfl fun g0 hn hio => ?_
  refine zgg hn [_,_,_,(4,vb false)] [0,1,2] [0,1,2] [zq [] 3 4] [(_,_),(_,_),(_,_)] rfl ⟨z2 rfl,zz⟩ ?_
  refine ht_seq ?_
  obtain ⟨v1, hv1, h⟩ := zn h
  refine zg hn [_,_,_,(5,fi s),(6,.v (.func (.func 91) #[] #[.pointer (some ⟨bx,0,none⟩)])),(7,vi v1),(8,vb (decide (0 ≤ v1))),(4,vb (decide (0 ≤ v1)))] [0,1,2] [2,7] [zq [0] 3 5,zq [1] 4 6,zq [3,4,2] 5 7,zq [5] 6 8,zq [6] 7 4] [(_,_),(_,_)] rfl ⟨z1 rfl,z1 rfl,zp rfl (op_callG _ _ 9 111 _ _ rfl call111 rfl rfl (fun _ h => h) (ok_slices_IndexFunc_int_int_of_tree_Lengths_1 bx s cap _ hv1) rfl rfl),z4 rfl rfl,z2 rfl,zz⟩ ?_
  refine pt_then (ht_ret ?_)
  refine pt_pick [1] (by kernel_rfl) (es' := [(_,_)]) rfl ?_
  obtain rfl := zi h
  exact pt_ret hio rfl (.tmp _ _ .nil) rfl rfl
theorem ok_tree_Lengths (weights : (List Int)) (limit : Int) (r : ((List Int) × Int)) (h : Sh.tree_Lengths weights limit = some r) : FnOK Tryd.prog 63 [.fl .shr 1 (map (int .i64) weights), .v (.int .i64 limit)] (.tup [.fl (.own 3) 1 (map (int .i64) r.1), .v (.int .i64 r.2)]) := by
  unfold Sh.tree_Lengths at h
  refine fn_ok func63 rfl (zl rfl) rfl rfl fun g0 hn hio => ?_
  refine zgg hn [_,_,(3,.box 3 [vi limit]),(4,vz),(5,vi 0)] [0,1] [0,2] [zq [1] 2 3,zq [] 3 4,zq [] 4 5] [(_,_),(_,_)] rfl ⟨zp rfl (op_box _ _ _ _ rfl rfl rfl),z2 rfl,z2 rfl,zz⟩ ?_
  refine ht_seq ?_
  refine ht_seq ?_
  refine ht_joinS h (fun (s3 : Bool) => [(0,fi weights),(3,.box 3 [vi limit]),(18,vb s3)]) ?_ ?_
  ·rintro s3 h
   refine pt_then ?_
   refine ht_cond _ rfl (fun hb7 => ?_) (fun hb7 => ?_)
   ·have h := cond_t hb7 h
    refine zgg hn [_,_,_,(4,vz),(5,vi 1)] [0,1,2] [3,4] [zq [] 3 4,zq [] 4 5] [(_,_),(_,_)] rfl ⟨z2 rfl,z2 rfl,zz⟩ ?_
    refine ht_ret ?_
    refine pt_sub (fs := [(4,.fl (.own 3) 1 (map (int .i64) [])),(5,vi 1)]) (.sub _ (sub_nil 3 1) rfl (.same _ .nil)) ?_
    refine pt_r_then ?_
    obtain rfl := zi h
    exact pt_ret hio rfl (.tmp _ _ (.tmp _ _ .nil)) rfl rfl
   ·have h := cond_f hb7 h
    refine ht_skip ?_
    refine pt_then (ht_seq ?_)
    obtain ⟨v8, hv8, h⟩ := zn h
    refine zg hn [_,_,_,(19,fi weights),(20,.fl (.own 3) 1 (map (int .i64) v8)),(6,.fl (.own 3) 1 (map (int .i64) v8))] [0,1,2] [1,5] [zq [0] 3 19,zq [3] 4 20,⟨[],[4],[5],[(.slot 6)]⟩] [(_,_),(_,_)] rfl ⟨z1 rfl,zp rfl (op_call _ _ 88 _ _ rfl call88 rfl (ok_slices_Clone_int_int weights _ hv8) rfl rfl),zp rfl (op_assign_take _ _ _ _ rfl),zz⟩ ?_
    refine pt_then ?_
    refine ht_loopS h (fun (s51 : (List Int)) => [(3,.box 3 [vi limit]),(6,.fl (.own 3) 1 (map (int .i64) s51))]) (fun (() : Unit) => []) ?_ ?_
    ·rintro ⟨⟩ h
     cases h
    ·rintro u68 hl69 hr70 s51 rr73 h ho71
     refine ht_block ?_
     refine ht_seq ?_
     obtain ⟨v9, hv9, h⟩ := zn h
     refine zg hn [_,_,(21,.same (.slot 6)),(22,.fl (.own 3) 1 (map (int .i64) v9)),(7,.fl (.own 3) 1 (map (int .i64) v9))] [0,1] [0,1,4] [zq [1] 2 21,zq [2,1] 3 22,⟨[],[3],[4],[(.slot 7)]⟩] [(_,_),(_,_),(_,_)] rfl ⟨z1 rfl,zp rfl (op_call _ _ 89 _ _ rfl call89 rfl (ok_tree_depths s51 _ hv9) rfl rfl),zp rfl (op_assign_take _ _ _ _ rfl),zz⟩ ?_
     refine pt_then (ht_seq ?_)
     refine ht_seq ?_
     obtain ⟨v10, hv10, h⟩ := zn h
     refine zg hn [_,_,_,(23,.same (.slot 7)),(24,.clo 91 [3]),(25,vb v10),(26,vb (!v10))] [0,1,2] [0,1,2,6] [zq [2] 3 23,zq [] 4 24,zq [3,2,4,0] 5 25,zq [5] 6 26] [(_,_),(_,_),(_,_),(_,_)] rfl ⟨z1 rfl,zp rfl (op_makeFunc_name _ _ _ 3 (by decide)),zp rfl (op_callC _ 25 3 24 90 91 [.int .i64 limit] [.tmp 23] _ _ rfl call90 rfl rfl rfl rfl (fun bx => ok_slices_ContainsFunc_int_int_of_tree_Lengths_1 bx v9 limit _ hv10) rfl rfl),zp rfl (op_un _ _ _ _ rfl rfl),zz⟩ ?_
     refine pt_then ?_
     refine ht_cond _ rfl (fun hb74 => ?_) (fun hb74 => ?_)
     ·have h := cond_t hb74 h
      refine zgg hn [_,_,_,_,(27,.fl (.own 3) 1 (map (int .i64) v9)),(4,.fl (.own 3) 1 (map (int .i64) v9)),(5,vi 0)] [0,1,2,3] [5,6] [⟨[],[2],[4],[(.slot 27)]⟩,⟨[],[4],[5],[(.slot 4)]⟩,zq [] 6 5] [(_,_),(_,_)] rfl ⟨zp rfl (op_move_take _ _ _ _ rfl),zp rfl (op_assign_take _ _ _ _ rfl),z2 rfl,zz⟩ ?_
      refine ht_ret ?_
      refine pt_r_then ?_
      refine pt_r_in ?_
      refine pt_r_then ?_
      refine pt_r_in ?_
      have h := hr70 _ (ho71 _ (zi h).symm).symm
      obtain rfl := zi h
      exact pt_ret hio rfl (.tmp _ _ (.tmp _ _ .nil)) rfl rfl
     ·have h := cond_f hb74 h
      refine ht_skip ?_
      refine pt_then ?_
      refine zgg hn [_,_,_,_,(28,.same (.slot 6)),(29,vi (s51.length : Int)),(30,vi 0)] [0,1,2,3] [0,1,4,5,6] [zq [1] 4 28,zq [4,1] 5 29,zq [] 6 30] [(_,_),(_,_),(_,_),(_,_),(_,_)] rfl ⟨z1 rfl,zp rfl (op_len_fl _ _ _ underlying37 rfl (by decide) (map_len _)),z1 rfl,zz⟩ ?_
      refine ht_loopS h (fun ((s79,s80) : (List Int) × Int) => [(3,.box 3 [vi limit]),(6,.fl (.own 3) 1 (map (int .i64) s79)),(28,.same (.slot 6)),(29,vi (s51.length : Int)),(30,vi s80)]) (fun (s82 : (List Int)) => [(3,.box 3 [vi limit]),(6,.fl (.own 3) 1 (map (int .i64) s82))]) ?_ ?_
      ·rintro s82 h
       refine pt_inb ?_
       exact pt_next _ (zi h).symm rfl
      ·rintro u83 hl84 hr85 ⟨s79, s80⟩ rr88 h ho86
       refine zgg hn [_,_,_,_,_,(31,vb (decide (s80 < (s51.length : Int))))] [0,1,2,3,4] [0,1,2,3,4,5] [zq [4,3] 5 31] [(_,_),(_,_),(_,_),(_,_),(_,_),(_,_)] rfl ⟨z4 rfl rfl,zz⟩ ?_
       refine ht_seq ?_
       refine ht_cond _ rfl (fun hb89 => ?_) (fun hb89 => ?_)
       ·have h := cond_t hb89 h
        refine ht_skip ?_
        refine pt_then (ht_seq ?_)
        refine ht_block ?_
        refine ht_seq ?_
        obtain ⟨v13, hv13, h⟩ := zn h
        obtain ⟨v14, hv14, h⟩ := zn h
        refine zg hn [_,_,_,_,_,_,(32,vi s80),(33,.eref (.slot 6) (v13 * 1)),(34,vi v14),(8,vi s80),(9,vi v14)] [0,1,2,3,4,5] [0,1,2,3,4,9,10] [zq [4] 6 32,zq [2,1,4] 7 33,zq [7,1] 8 34,zq [6] 9 8,zq [8] 10 9] [(_,_),(_,_),(_,_),(_,_),(_,_),(_,_),(_,_)] rfl ⟨z1 rfl,zp rfl (op_ix _ _ _ _ _ _ _ _ underlying37 sz3 (by decide) rfl rfl rfl (ix_ok hv13).1 (map_lt (ix_ok hv13).2) rfl),zp rfl (op_load_e _ _ _ _ _ _ underlying3 rfl rfl rfl (map_get hv14)),z2 rfl,z2 rfl,zz⟩ ?_
        refine pt_then ?_
        obtain ⟨v15, hv15, h⟩ := zn h
        obtain ⟨v16, hv16, h⟩ := zn h
        obtain ⟨v17, hv17, h⟩ := zn h
        obtain ⟨v18, hv18, h⟩ := zn h
        refine zg hn [_,_,_,_,_,_,_,(35,.same (.slot 6)),(36,vi s80),(37,vi v14),(38,vi v15),(39,vi v16),(40,.eref (.slot 6) (v17 * 1)),(6,.fl (.own 3) 1 (map (int .i64) v18))] [0,1,2,3,4,5,6] [0,13,2,3,4] [zq [1] 7 35,zq [5] 8 36,zq [6] 9 37,zq [9] 10 38,zq [10] 11 39,zq [7,1,8] 12 40,⟨[12,11],[1],[13],[]⟩] [(_,_),(_,_),(_,_),(_,_),(_,_)] rfl ⟨z1 rfl,z1 rfl,z1 rfl,zp rfl (oB rfl (ibind (f := int .i64) (Option.some.inj hv15))),zp rfl (oB rfl (quo_ok hv16)),zp rfl (op_ix _ _ _ _ _ _ _ _ underlying37 sz3 (by decide) rfl rfl rfl (ix_ok hv17).1 (map_lt (ix_ok hv17).2) rfl),zp rfl (op_store_e _ _ _ _ _ _ _ _ sz3 rfl rfl rfl (by decide) (map_lt (ix_ok hv17).2) ((map_set (f := int .i64) _ (ix_ok hv17).2).trans (congrArg (map _) (Option.some.inj hv18)))),zz⟩ ?_
        refine pt_inb ?_
        refine pt_then ?_
        obtain ⟨v19, hv19, h⟩ := zn h
        refine zg hn [_,_,_,_,_,(41,vi v19),(30,vi v19)] [0,1,2,3,4] [0,1,2,3,6] [zq [4] 5 41,⟨[5],[4],[6],[(.slot 30)]⟩] [(_,_),(_,_),(_,_),(_,_),(_,_)] rfl ⟨zp rfl (oB rfl (ibind (f := int .i64) (Option.some.inj hv19))),zp rfl (LOp.drop [_] (oM rfl)),zz⟩ ?_
        exact pt_next _ (zi h).symm rfl
       ·have h := cond_f hb89 h
        refine ht_exit ?_
        refine pt_x_then ?_
        refine pt_x_then ?_
        refine pt_x_in ?_
        refine pt_pick [0,1] (by kernel_rfl) (es' := [(_,_),(_,_)]) rfl ?_
        exact hl84 _ (ho86 _ (zi h).symm).symm
  ·intro u4 h hl5 hr6
   obtain ⟨v1, hv1, h⟩ := zn h
   refine cond_some h (fun hg1_3 h => ?_) (fun hg1_3 h => ?_)
   ·refine zg hn [_,_,(10,fi weights),(11,vb v1),(12,vb (!v1)),(13,vb true),(14,.v undef),(15,.v undef),(16,.v undef),(17,.v undef),(18,vb true)] [0,1] [0,1,10] [zq [0] 2 10,zq [2] 3 11,zq [3] 4 12,zq [4] 5 13,zq [5] 6 14,zq [5] 7 15,zq [5] 8 16,zq [5] 9 17,zq [5] 10 18] [(_,_),(_,_),(_,_)] rfl ⟨z1 rfl,zp rfl (op_call _ _ 49 _ _ rfl call49 rfl (ok_tree_validWeights weights _ hv1) rfl rfl),zp rfl (op_un _ _ _ _ rfl rfl),z8 hg1_3 rfl,zf rfl,zf rfl,zf rfl,zf rfl,z3 true rfl,zz⟩ ?_
    exact hl5 _ (zi h).symm
   ·obtain ⟨v2, hv2, h⟩ := zn h
    refine zg hn [_,_,(10,fi weights),(11,vb v1),(12,vb (!v1)),(13,vb false),(14,fi weights),(15,vi limit),(16,vb v2),(17,vb (!v2)),(18,vb (!v2))] [0,1] [0,1,10] [zq [0] 2 10,zq [2] 3 11,zq [3] 4 12,zq [4] 5 13,zq [5,0] 6 14,zq [5,1] 7 15,zq [5,6,7] 8 16,zq [5,8] 9 17,zq [5,9] 10 18] [(_,_),(_,_),(_,_)] rfl ⟨z1 rfl,zp rfl (op_call _ _ 49 _ _ rfl call49 rfl (ok_tree_validWeights weights _ hv1) rfl rfl),zp rfl (op_un _ _ _ _ rfl rfl),z8 hg1_3 rfl,zr' rfl (oM rfl),zr' rfl (oL underlying3 rfl),zr' rfl (op_call _ _ 87 _ _ rfl call87 rfl (ok_tree_validLimit weights limit _ hv2) rfl rfl),zr' rfl (op_un _ _ _ _ rfl rfl),z3 false rfl,zz⟩ ?_
    exact hl5 _ (zi h).symm
theorem ok_shrink_trim_ro (l : (List Int)) (least : Int) (r : (List Int)) (h : Sh.shrink_trim_ro l least = some r) : FnOK Tryd.prog 65 [.fl .ro 1 (map (int .i64) l), .v (.int .i64 least)] (.fl .ro 1 (map (int .i64) r)) := by
  unfold Sh.shrink_trim_ro at h
  refine fn_ok func65 rfl (zl rfl) rfl rfl fun g0 hn hio => ?_
  refine zgg hn [_,_,(4,vz)] [0,1] [0,1] [zq [] 2 4] [(_,_),(_,_)] rfl ⟨z2 rfl,zz⟩ ?_
  refine zgg hn [_,_,(6,.fl .ro 1 (map (int .i64) l)),(7,vi (l.length : Int)),(5,vi (l.length : Int))] [0,1] [0,1,4] [zq [0] 2 6,zq [2] 3 7,zq [3] 4 5] [(_,_),(_,_),(_,_)] rfl ⟨z1 rfl,zp rfl (op_len_fl _ _ _ underlying37 rfl (by decide) (map_len _)),z2 rfl,zz⟩ ?_
  refine ht_seq ?_
  refine ht_loopS h (fun (s46 : Int) => [(0,.fl .ro 1 (map (int .i64) l)),(1,vi least),(5,vi s46)]) (fun (s52 : Int) => [(0,.fl .ro 1 (map (int .i64) l)),(5,vi s52)]) ?_ ?_
  ·rintro s52 h
   refine pt_then (ht_seq ?_)
   obtain ⟨v34, hv34, h⟩ := zn h
   refine zg hn [_,_,(21,.fl .ro 1 (map (int .i64) l)),(22,vi s52),(23,.fl .ro 1 (map (int .i64) v34)),(4,.fl .ro 1 (map (int .i64) v34))] [0,1] [5] [zq [0] 2 21,zq [1] 3 22,zq [2,3] 4 23,zq [4] 5 4] [(_,_)] rfl ⟨z1 rfl,z1 rfl,zp rfl (op_sl _ _ _ 0 s52 _ underlying37 sz3 rfl rfl rfl ⟨_, rfl⟩ hv34),z2 rfl,zz⟩ ?_
   refine pt_then (ht_ret ?_)
   obtain rfl := zi h
   exact pt_ret hio rfl (.tmp _ _ .nil) rfl rfl
  ·rintro u53 hl54 hr55 s46 rr58 h ho56
   refine ht_seq ?_
   refine ht_seq ?_
   refine ht_joinS h (fun (s59 : Bool) => [(0,.fl .ro 1 (map (int .i64) l)),(1,vi least),(5,vi s46),(18,vb s59)]) ?_ ?_
   ·rintro s59 h
    refine pt_then ?_
    refine ht_cond _ rfl (fun hb63 => ?_) (fun hb63 => ?_)
    ·have h := cond_t hb63 h
     refine ht_skip ?_
     refine pt_then ?_
     refine ht_block ?_
     obtain ⟨v9, hv9, h⟩ := zn h
     refine zg hn [_,_,_,_,(19,vi s46),(20,vi v9),(5,vi v9)] [0,1,2,3] [0,1,6] [zq [2] 4 19,zq [4] 5 20,⟨[5],[2],[6],[(.slot 5)]⟩] [(_,_),(_,_),(_,_)] rfl ⟨z1 rfl,zp rfl (oB rfl (ibind (f := int .i64) (Option.some.inj hv9))),zp rfl (LOp.drop [_] (op_assign _ _ _ _ rfl rfl)),zz⟩ ?_
     refine pt_inb ?_
     exact pt_next _ (zi h).symm rfl
    ·have h := cond_f hb63 h
     refine ht_exit ?_
     refine pt_x_then ?_
     refine pt_x_then ?_
     refine pt_x_in ?_
     refine pt_pick [0,2] (by kernel_rfl) (es' := [(_,_),(_,_)]) rfl ?_
     exact hl54 _ (ho56 _ (zi h).symm).symm
   ·intro u60 h hl61 hr62
    refine cond_some h (fun hg2_3 h => ?_) (fun hg2_3 h => ?_)
    ·obtain ⟨v1, hv1, h⟩ := zn h
     obtain ⟨v2, hv2, h⟩ := zn h
     obtain ⟨v3, hv3, h⟩ := zn h
     refine zg hn [_,_,_,(8,vi s46),(9,vi least),(10,vb (decide (least < s46))),(11,vb true),(12,.fl .ro 1 (map (int .i64) l)),(13,vi s46),(14,vi v1),(15,.eref (.slot 12) (v2 * 1)),(16,vi v3),(17,vb (v3 == 0)),(18,vb (v3 == 0))] [0,1,2] [0,1,2,13] [zq [2] 3 8,zq [1] 4 9,zq [3,4] 5 10,zq [5] 6 11,zq [6,0] 7 12,zq [6,2] 8 13,zq [6,8] 9 14,zq [6,7,9] 10 15,zq [6,10,7] 11 16,zq [6,11] 12 17,zq [6,12] 13 18] [(_,_),(_,_),(_,_),(_,_)] rfl ⟨z1 rfl,z1 rfl,z4 rfl rfl,z8 hg2_3 rfl,zr' rfl (oM rfl),zr' rfl (oM rfl),zr' rfl (oB rfl (ibind (f := int .i64) (Option.some.inj hv1))),zr' rfl (op_ix _ _ _ _ _ _ _ _ underlying37 sz3 (by decide) rfl rfl rfl (ix_ok hv2).1 (map_lt (ix_ok hv2).2) rfl),zr' rfl (op_load_e _ _ _ _ _ _ underlying3 rfl rfl rfl (map_get hv3)),zr' rfl (oB rfl rfl),z3 true rfl,zz⟩ ?_
     exact hl61 _ (zi h).symm
    ·refine zg hn [_,_,_,(8,vi s46),(9,vi least),(10,vb (decide (least < s46))),(11,vb false),(12,.v undef),(13,.v undef),(14,.v undef),(15,.v undef),(16,.v undef),(17,.v undef),(18,vb false)] [0,1,2] [0,1,2,13] [zq [2] 3 8,zq [1] 4 9,zq [3,4] 5 10,zq [5] 6 11,zq [6] 7 12,zq [6] 8 13,zq [6] 9 14,zq [6] 10 15,zq [6] 11 16,zq [6] 12 17,zq [6] 13 18] [(_,_),(_,_),(_,_),(_,_)] rfl ⟨z1 rfl,z1 rfl,z4 rfl rfl,z8 hg2_3 rfl,zt rfl,zt rfl,zt rfl,zt rfl,zt rfl,zt rfl,z3 false rfl,zz⟩ ?_
     exact hl61 _ (zi h).symm
theorem ok_shrink_rowStep (lengths : (List Int)) (at_ : Int) (r : (Int × Int × Int)) (h : Sh.shrink_rowStep lengths at_ = some r) : FnOK Tryd.prog 45 [.fl .shr 1 (map (int .i64) lengths), .v (.int .i64 at_)] (.tup [.v (.int .i64 r.1), .v (.int .i64 r.2.1), .v (.int .i64 r.2.2)]) := by
  unfold Sh.shrink_rowStep at h
  refine fn_ok func45 rfl (zl rfl) rfl rfl fun g0 hn hio => ?_
  refine zgg hn [_,_,(4,vi 0),(5,vi 0),(6,vi 0)] [0,1] [0,1] [zq [] 2 4,zq [] 3 5,zq [] 4 6] [(_,_),(_,_)] rfl ⟨z2 rfl,z2 rfl,z2 rfl,zz⟩ ?_
  refine ht_seq ?_
  obtain ⟨v1, hv1, h⟩ := zn h
  obtain ⟨v2, hv2, h⟩ := zn h
  refine zg hn [_,_,(9,fi lengths),(10,vi at_),(11,.eref (.slot 9) (v1 * 1)),(12,vi v2),(7,vi v2)] [0,1] [0,1,6] [zq [0] 2 9,zq [1] 3 10,zq [2,3] 4 11,zq [4,2] 5 12,zq [5] 6 7] [(_,_),(_,_),(_,_)] rfl ⟨z1 rfl,z1 rfl,zp rfl (op_ix _ _ _ _ _ _ _ _ underlying37 sz3 (by decide) rfl rfl rfl (ix_ok hv1).1 (map_lt (ix_ok hv1).2) rfl),zp rfl (op_load_e _ _ _ _ _ _ underlying3 rfl rfl rfl (map_get hv2)),z2 rfl,zz⟩ ?_
  refine pt_then ?_
  refine zgg hn [_,_,_,(8,vi 1)] [0,1,2] [0,1,2,3] [zq [] 3 8] [(_,_),(_,_),(_,_),(_,_)] rfl ⟨z2 rfl,zz⟩ ?_
  refine ht_seq ?_
  refine ht_loopS h (fun (s19 : Int) => [(0,fi lengths),(1,vi at_),(7,vi v2),(8,vi s19)]) (fun (s25 : Int) => [(0,fi lengths),(1,vi at_),(7,vi v2),(8,vi s25)]) ?_ ?_
  ·rintro s25 h
   refine pt_then (ht_seq ?_)
   refine ht_block ?_
   refine ht_seq ?_
   refine ht_joinS h (fun (s37 : Bool) => [(0,fi lengths),(1,vi at_),(7,vi v2),(8,vi s25),(31,vb s37)]) ?_ ?_
   ·rintro s37 h
    refine pt_then ?_
    refine ht_cond _ rfl (fun hb41 => ?_) (fun hb41 => ?_)
    ·have h := cond_t hb41 h
     refine ht_seq ?_
     obtain ⟨v42, hv42, h⟩ := zn h
     refine zg hn [_,_,_,_,_,(38,vi s25),(39,vi v42),(6,vi v42)] [0,1,2,3,4] [7] [zq [3] 5 38,zq [5] 6 39,zq [6] 7 6] [(_,_)] rfl ⟨z1 rfl,zp rfl ((Option.some.inj hv42) ▸ op_min _ _ _ _ rfl rfl),z2 rfl,zz⟩ ?_
     refine pt_then (ht_seq ?_)
     obtain ⟨v43, hv43, h⟩ := zn h
     refine zg hn [_,(40,vi v42),(41,vi v43),(42,vi v42),(4,vi 18),(5,vi v43),(6,vi v42)] [0] [4,5,6] [zq [0] 1 40,zq [1] 2 41,zq [0] 3 42,zq [] 4 4,zq [2] 5 5,⟨[3],[0],[6],[(.slot 6)]⟩] [(_,_),(_,_),(_,_)] rfl ⟨z1 rfl,zp rfl (oB rfl (ibind (f := int .i64) (Option.some.inj hv43))),z1 rfl,z2 rfl,z2 rfl,zp rfl (LOp.drop [_] (op_assign _ _ _ _ rfl rfl)),zz⟩ ?_
     refine pt_then (ht_ret ?_)
     refine pt_r_in ?_
     refine pt_r_then ?_
     obtain rfl := zi h
     exact pt_ret hio rfl (.tmp _ _ (.tmp _ _ (.tmp _ _ .nil))) rfl rfl
    ·have h := cond_f hb41 h
     refine ht_seq ?_
     refine ht_joinS h (fun (s44 : Bool) => [(0,fi lengths),(1,vi at_),(7,vi v2),(8,vi s25),(43,vb s44)]) ?_ ?_
     ·rintro s44 h
      refine pt_then ?_
      refine ht_cond _ rfl (fun hb48 => ?_) (fun hb48 => ?_)
      ·have h := cond_t hb48 h
       refine ht_seq ?_
       obtain ⟨v49, hv49, h⟩ := zn h
       refine zg hn [_,_,_,_,_,(50,vi s25),(51,vi v49),(52,vi s25),(4,vi 17),(5,vi v49),(6,vi s25)] [0,1,2,3,4] [8,9,10] [zq [3] 5 50,zq [5] 6 51,zq [3] 7 52,zq [] 8 4,zq [6] 9 5,zq [7] 10 6] [(_,_),(_,_),(_,_)] rfl ⟨z1 rfl,zp rfl (oB rfl (ibind (f := int .i64) (Option.some.inj hv49))),z1 rfl,z2 rfl,z2 rfl,z2 rfl,zz⟩ ?_
       refine pt_then (ht_ret ?_)
       refine pt_r_in ?_
       refine pt_r_then ?_
       obtain rfl := zi h
       exact pt_ret hio rfl (.tmp _ _ (.tmp _ _ (.tmp _ _ .nil))) rfl rfl
      ·have h := cond_f hb48 h
       refine ht_seq ?_
       refine ht_joinS h (fun (s53 : Bool) => [(7,vi v2),(8,vi s25),(53,vb s53)]) ?_ ?_
       ·rintro s53 h
        refine pt_then ?_
        refine ht_cond _ rfl (fun hb57 => ?_) (fun hb57 => ?_)
        ·have h := cond_t hb57 h
         refine ht_seq ?_
         obtain ⟨v58, hv58, h⟩ := zn h
         refine zg hn [_,_,_,(73,vi s25),(74,vi v58),(6,vi v58)] [0,1,2] [5] [zq [1] 3 73,zq [3] 4 74,zq [4] 5 6] [(_,_)] rfl ⟨z1 rfl,zp rfl ((Option.some.inj hv58) ▸ op_min _ _ _ _ rfl rfl),z2 rfl,zz⟩ ?_
         refine pt_then (ht_seq ?_)
         obtain ⟨v59, hv59, h⟩ := zn h
         refine zg hn [_,(75,vi v58),(76,vi v59),(77,vi v58),(4,vi 16),(5,vi v59),(6,vi v58)] [0] [4,5,6] [zq [0] 1 75,zq [1] 2 76,zq [0] 3 77,zq [] 4 4,zq [2] 5 5,⟨[3],[0],[6],[(.slot 6)]⟩] [(_,_),(_,_),(_,_)] rfl ⟨z1 rfl,zp rfl (oB rfl (ibind (f := int .i64) (Option.some.inj hv59))),z1 rfl,z2 rfl,z2 rfl,zp rfl (LOp.drop [_] (op_assign _ _ _ _ rfl rfl)),zz⟩ ?_
         refine pt_then (ht_ret ?_)
         refine pt_r_in ?_
         refine pt_r_then ?_
         obtain rfl := zi h
         exact pt_ret hio rfl (.tmp _ _ (.tmp _ _ (.tmp _ _ .nil))) rfl rfl
        ·have h := cond_f hb57 h
         refine ht_skip ?_
         refine pt_inb ?_
         refine pt_then ?_
         refine zgg hn [_,_,_,(78,vi v2),(4,vi v2),(5,vi 0),(6,vi 1)] [0,1,2] [4,5,6] [zq [0] 3 78,zq [3] 4 4,zq [] 5 5,zq [] 6 6] [(_,_),(_,_),(_,_)] rfl ⟨z1 rfl,z2 rfl,z2 rfl,z2 rfl,zz⟩ ?_
         refine ht_ret ?_
         obtain rfl := zi h
         exact pt_ret hio rfl (.tmp _ _ (.tmp _ _ (.tmp _ _ .nil))) rfl rfl
       ·intro u54 h hl55 hr56
        refine cond_some h (fun hg10_2 h => ?_) (fun hg10_2 h => ?_)
        ·refine cond_some h (fun hg10_6 h => ?_) (fun hg10_6 h => ?_)
         ·refine cond_some h (fun hg10_10 h => ?_) (fun hg10_10 h => ?_)
          ·obtain ⟨v50, hv50, h⟩ := zn h
           obtain ⟨v51, hv51, h⟩ := zn h
           obtain ⟨v52, hv52, h⟩ := zn h
           refine zg hn (_::_::_::_::_::(54,vi v2)::(55,vb (v2 != 0))::(56,vb true)::(57,vi s25)::(58,vb (decide (3 ≤ s25)))::(59,vb (decide (3 ≤ s25)))::(60,vb true)::(61,vi at_)::(62,vb (decide (0 < at_)))::(63,vb (decide (0 < at_)))::(64,vb true)::(65,fi lengths)::(66,vi at_)::(67,vi v50)::(68,.eref (.slot 65) (v51 * 1))::(69,vi v52)::(70,vi v2)::(71,vb (v52 == v2))::(72,vb (v52 == v2))::(53,vb (v52 == v2))::[]) [0,1,2,3,4] [2,3,24] (zq [2] 5 54::zq [5] 6 55::zq [6] 7 56::zq [7,3] 8 57::zq [7,8] 9 58::zq [7,9] 10 59::zq [10] 11 60::zq [11,1] 12 61::zq [11,12] 13 62::zq [11,13] 14 63::zq [14] 15 64::zq [15,0] 16 65::zq [15,1] 17 66::zq [15,17] 18 67::zq [15,16,18] 19 68::zq [15,19,16] 20 69::zq [15,2] 21 70::zq [15,20,21] 22 71::zq [15,22] 23 72::zq [23] 24 53::[]) [(_,_),(_,_),(_,_)] rfl ⟨z1 rfl,z4 rfl rfl,z8 hg10_2 rfl,zr' rfl (oM rfl),zr' rfl (oB rfl rfl),z3 true rfl,z8 hg10_6 rfl,zr' rfl (oM rfl),zr' rfl (oB rfl rfl),z3 true rfl,z8 hg10_10 rfl,zr' rfl (oM rfl),zr' rfl (oM rfl),zr' rfl (oB rfl (ibind (f := int .i64) (Option.some.inj hv50))),zr' rfl (op_ix _ _ _ _ _ _ _ _ underlying37 sz3 (by decide) rfl rfl rfl (ix_ok hv51).1 (map_lt (ix_ok hv51).2) rfl),zr' rfl (op_load_e _ _ _ _ _ _ underlying3 rfl rfl rfl (map_get hv52)),zr' rfl (oM rfl),zr' rfl (oB rfl rfl),z3 true rfl,z2 rfl,zz⟩ ?_
           exact hl55 _ (zi h).symm
          ·refine zg hn (_::_::_::_::_::(54,vi v2)::(55,vb (v2 != 0))::(56,vb true)::(57,vi s25)::(58,vb (decide (3 ≤ s25)))::(59,vb (decide (3 ≤ s25)))::(60,vb true)::(61,vi at_)::(62,vb (decide (0 < at_)))::(63,vb (decide (0 < at_)))::(64,vb false)::(65,.v undef)::(66,.v undef)::(67,.v undef)::(68,.v undef)::(69,.v undef)::(70,.v undef)::(71,.v undef)::(72,vb false)::(53,vb false)::[]) [0,1,2,3,4] [2,3,24] (zq [2] 5 54::zq [5] 6 55::zq [6] 7 56::zq [7,3] 8 57::zq [7,8] 9 58::zq [7,9] 10 59::zq [10] 11 60::zq [11,1] 12 61::zq [11,12] 13 62::zq [11,13] 14 63::zq [14] 15 64::zq [15] 16 65::zq [15] 17 66::zq [15] 18 67::zq [15] 19 68::zq [15] 20 69::zq [15] 21 70::zq [15] 22 71::zq [15] 23 72::zq [23] 24 53::[]) [(_,_),(_,_),(_,_)] rfl ⟨z1 rfl,z4 rfl rfl,z8 hg10_2 rfl,zr' rfl (oM rfl),zr' rfl (oB rfl rfl),z3 true rfl,z8 hg10_6 rfl,zr' rfl (oM rfl),zr' rfl (oB rfl rfl),z3 true rfl,z8 hg10_10 rfl,zt rfl,zt rfl,zt rfl,zt rfl,zt rfl,zt rfl,zt rfl,z3 false rfl,z2 rfl,zz⟩ ?_
           exact hl55 _ (zi h).symm
         ·refine zg hn (_::_::_::_::_::(54,vi v2)::(55,vb (v2 != 0))::(56,vb true)::(57,vi s25)::(58,vb (decide (3 ≤ s25)))::(59,vb (decide (3 ≤ s25)))::(60,vb false)::(61,.v undef)::(62,.v undef)::(63,vb false)::(64,vb false)::(65,.v undef)::(66,.v undef)::(67,.v undef)::(68,.v undef)::(69,.v undef)::(70,.v undef)::(71,.v undef)::(72,vb false)::(53,vb false)::[]) [0,1,2,3,4] [2,3,24] (zq [2] 5 54::zq [5] 6 55::zq [6] 7 56::zq [7,3] 8 57::zq [7,8] 9 58::zq [7,9] 10 59::zq [10] 11 60::zq [11] 12 61::zq [11] 13 62::zq [11] 14 63::zq [14] 15 64::zq [15] 16 65::zq [15] 17 66::zq [15] 18 67::zq [15] 19 68::zq [15] 20 69::zq [15] 21 70::zq [15] 22 71::zq [15] 23 72::zq [23] 24 53::[]) [(_,_),(_,_),(_,_)] rfl ⟨z1 rfl,z4 rfl rfl,z8 hg10_2 rfl,zr' rfl (oM rfl),zr' rfl (oB rfl rfl),z3 true rfl,z8 hg10_6 rfl,zt rfl,zt rfl,z3 false rfl,z1 rfl,zt rfl,zt rfl,zt rfl,zt rfl,zt rfl,zt rfl,zt rfl,z3 false rfl,z2 rfl,zz⟩ ?_
          exact hl55 _ (zi h).symm
        ·refine zg hn (_::_::_::_::_::(54,vi v2)::(55,vb (v2 != 0))::(56,vb false)::(57,.v undef)::(58,.v undef)::(59,vb false)::(60,vb false)::(61,.v undef)::(62,.v undef)::(63,vb false)::(64,vb false)::(65,.v undef)::(66,.v undef)::(67,.v undef)::(68,.v undef)::(69,.v undef)::(70,.v undef)::(71,.v undef)::(72,vb false)::(53,vb false)::[]) [0,1,2,3,4] [2,3,24] (zq [2] 5 54::zq [5] 6 55::zq [6] 7 56::zq [7] 8 57::zq [7] 9 58::zq [7] 10 59::zq [10] 11 60::zq [11] 12 61::zq [11] 13 62::zq [11] 14 63::zq [14] 15 64::zq [15] 16 65::zq [15] 17 66::zq [15] 18 67::zq [15] 19 68::zq [15] 20 69::zq [15] 21 70::zq [15] 22 71::zq [15] 23 72::zq [23] 24 53::[]) [(_,_),(_,_),(_,_)] rfl ⟨z1 rfl,z4 rfl rfl,z8 hg10_2 rfl,zt rfl,zt rfl,z3 false rfl,z1 rfl,zt rfl,zt rfl,z3 false rfl,z1 rfl,zt rfl,zt rfl,zt rfl,zt rfl,zt rfl,zt rfl,zt rfl,z3 false rfl,z2 rfl,zz⟩ ?_
         exact hl55 _ (zi h).symm
     ·intro u45 h hl46 hr47
      refine cond_some h (fun hg8_2 h => ?_) (fun hg8_2 h => ?_)
      ·refine zg hn [_,_,_,_,_,(44,vi v2),(45,vb (v2 == 0)),(46,vb true),(47,vi s25),(48,vb (decide (3 ≤ s25))),(49,vb (decide (3 ≤ s25))),(43,vb (decide (3 ≤ s25)))] [0,1,2,3,4] [0,1,2,3,11] [zq [2] 5 44,zq [5] 6 45,zq [6] 7 46,zq [7,3] 8 47,zq [7,8] 9 48,zq [7,9] 10 49,zq [10] 11 43] [(_,_),(_,_),(_,_),(_,_),(_,_)] rfl ⟨z1 rfl,z4 rfl rfl,z8 hg8_2 rfl,zr' rfl (oM rfl),zr' rfl (oB rfl rfl),z3 true rfl,z2 rfl,zz⟩ ?_
       exact hl46 _ (zi h).symm
      ·refine zg hn [_,_,_,_,_,(44,vi v2),(45,vb (v2 == 0)),(46,vb false),(47,.v undef),(48,.v undef),(49,vb false),(43,vb false)] [0,1,2,3,4] [0,1,2,3,11] [zq [2] 5 44,zq [5] 6 45,zq [6] 7 46,zq [7] 8 47,zq [7] 9 48,zq [7] 10 49,zq [10] 11 43] [(_,_),(_,_),(_,_),(_,_),(_,_)] rfl ⟨z1 rfl,z4 rfl rfl,z8 hg8_2 rfl,zt rfl,zt rfl,z3 false rfl,z2 rfl,zz⟩ ?_
       exact hl46 _ (zi h).symm
   ·intro u38 h hl39 hr40
    refine cond_some h (fun hg5_2 h => ?_) (fun hg5_2 h => ?_)
    ·refine zg hn [_,_,_,_,(32,vi v2),(33,vb (v2 == 0)),(34,vb true),(35,vi s25),(36,vb (decide (11 ≤ s25))),(37,vb (decide (11 ≤ s25))),(31,vb (decide (11 ≤ s25)))] [0,1,2,3] [0,1,2,3,10] [zq [2] 4 32,zq [4] 5 33,zq [5] 6 34,zq [6,3] 7 35,zq [6,7] 8 36,zq [6,8] 9 37,zq [9] 10 31] [(_,_),(_,_),(_,_),(_,_),(_,_)] rfl ⟨z1 rfl,z4 rfl rfl,z8 hg5_2 rfl,zr' rfl (oM rfl),zr' rfl (oB rfl rfl),z3 true rfl,z2 rfl,zz⟩ ?_
     exact hl39 _ (zi h).symm
    ·refine zg hn [_,_,_,_,(32,vi v2),(33,vb (v2 == 0)),(34,vb false),(35,.v undef),(36,.v undef),(37,vb false),(31,vb false)] [0,1,2,3] [0,1,2,3,10] [zq [2] 4 32,zq [4] 5 33,zq [5] 6 34,zq [6] 7 35,zq [6] 8 36,zq [6] 9 37,zq [9] 10 31] [(_,_),(_,_),(_,_),(_,_),(_,_)] rfl ⟨z1 rfl,z4 rfl rfl,z8 hg5_2 rfl,zt rfl,zt rfl,z3 false rfl,z2 rfl,zz⟩ ?_
     exact hl39 _ (zi h).symm
  ·rintro u26 hl27 hr28 s19 rr31 h ho29
   refine ht_seq ?_
   refine ht_seq ?_
   refine ht_joinS h (fun (s32 : Bool) => [(0,fi lengths),(1,vi at_),(7,vi v2),(8,vi s19),(28,vb s32)]) ?_ ?_
   ·rintro s32 h
    refine pt_then ?_
    refine ht_cond _ rfl (fun hb36 => ?_) (fun hb36 => ?_)
    ·have h := cond_t hb36 h
     refine ht_skip ?_
     refine pt_then ?_
     refine ht_block ?_
     obtain ⟨v12, hv12, h⟩ := zn h
     refine zg hn [_,_,_,_,_,(29,vi s19),(30,vi v12),(8,vi v12)] [0,1,2,3,4] [0,1,2,7] [zq [3] 5 29,zq [5] 6 30,⟨[6],[3],[7],[(.slot 8)]⟩] [(_,_),(_,_),(_,_),(_,_)] rfl ⟨z1 rfl,zp rfl (oB rfl (ibind (f := int .i64) (Option.some.inj hv12))),zp rfl (LOp.drop [_] (op_assign _ _ _ _ rfl rfl)),zz⟩ ?_
     refine pt_inb ?_
     exact pt_next _ (zi h).symm rfl
    ·have h := cond_f hb36 h
     refine ht_exit ?_
     refine pt_x_then ?_
     refine pt_x_then ?_
     refine pt_x_in ?_
     refine pt_pick [0,1,2,3] (by kernel_rfl) (es' := [(_,_),(_,_),(_,_),(_,_)]) rfl ?_
     exact hl27 _ (ho29 _ (zi h).symm).symm
   ·intro u33 h hl34 hr35
    obtain ⟨v3, hv3, h⟩ := zn h
    refine cond_some h (fun hg3_6 h => ?_) (fun hg3_6 h => ?_)
    ·obtain ⟨v4, hv4, h⟩ := zn h
     obtain ⟨v5, hv5, h⟩ := zn h
     obtain ⟨v6, hv6, h⟩ := zn h
     refine zg hn (_::_::_::_::(13,vi at_)::(14,vi s19)::(15,vi v3)::(16,fi lengths)::(17,vi (lengths.length : Int))::(18,vb (decide (v3 < (lengths.length : Int))))::(19,vb true)::(20,fi lengths)::(21,vi at_)::(22,vi s19)::(23,vi v4)::(24,.eref (.slot 20) (v5 * 1))::(25,vi v6)::(26,vi v2)::(27,vb (v6 == v2))::(28,vb (v6 == v2))::[]) [0,1,2,3] [0,1,2,3,19] (zq [1] 4 13::zq [3] 5 14::zq [4,5] 6 15::zq [0] 7 16::zq [7] 8 17::zq [6,8] 9 18::zq [9] 10 19::zq [10,0] 11 20::zq [10,1] 12 21::zq [10,3] 13 22::zq [10,12,13] 14 23::zq [10,11,14] 15 24::zq [10,15,11] 16 25::zq [10,2] 17 26::zq [10,16,17] 18 27::zq [10,18] 19 28::[]) [(_,_),(_,_),(_,_),(_,_),(_,_)] rfl ⟨z1 rfl,z1 rfl,zp rfl (oB rfl (ibind (f := int .i64) (Option.some.inj hv3))),z1 rfl,zp rfl (op_len_fl _ _ _ underlying37 rfl (by decide) (map_len _)),z4 rfl rfl,z8 hg3_6 rfl,zr' rfl (oM rfl),zr' rfl (oM rfl),zr' rfl (oM rfl),zr' rfl (oB rfl (ibind (f := int .i64) (Option.some.inj hv4))),zr' rfl (op_ix _ _ _ _ _ _ _ _ underlying37 sz3 (by decide) rfl rfl rfl (ix_ok hv5).1 (map_lt (ix_ok hv5).2) rfl),zr' rfl (op_load_e _ _ _ _ _ _ underlying3 rfl rfl rfl (map_get hv6)),zr' rfl (oM rfl),zr' rfl (oB rfl rfl),z3 true rfl,zz⟩ ?_
     exact hl34 _ (zi h).symm
    ·refine zg hn (_::_::_::_::(13,vi at_)::(14,vi s19)::(15,vi v3)::(16,fi lengths)::(17,vi (lengths.length : Int))::(18,vb (decide (v3 < (lengths.length : Int))))::(19,vb false)::(20,.v undef)::(21,.v undef)::(22,.v undef)::(23,.v undef)::(24,.v undef)::(25,.v undef)::(26,.v undef)::(27,.v undef)::(28,vb false)::[]) [0,1,2,3] [0,1,2,3,19] (zq [1] 4 13::zq [3] 5 14::zq [4,5] 6 15::zq [0] 7 16::zq [7] 8 17::zq [6,8] 9 18::zq [9] 10 19::zq [10] 11 20::zq [10] 12 21::zq [10] 13 22::zq [10] 14 23::zq [10] 15 24::zq [10] 16 25::zq [10] 17 26::zq [10] 18 27::zq [10] 19 28::[]) [(_,_),(_,_),(_,_),(_,_),(_,_)] rfl ⟨z1 rfl,z1 rfl,zp rfl (oB rfl (ibind (f := int .i64) (Option.some.inj hv3))),z1 rfl,zp rfl (op_len_fl _ _ _ underlying37 rfl (by decide) (map_len _)),z4 rfl rfl,z8 hg3_6 rfl,zt rfl,zt rfl,zt rfl,zt rfl,zt rfl,zt rfl,zt rfl,zt rfl,z3 false rfl,zz⟩ ?_
     exact hl34 _ (zi h).symm
theorem ok_shrink_Row (lengths : (List Int)) (r : ((List Int) × (List Int) × Int)) (h : Sh.shrink_Row lengths = some r) : FnOK Tryd.prog 24 [.fl .shr 1 (map (int .i64) lengths)] (.tup [.fl (.own 3) 1 (map (int .i64) r.1), .fl (.own 3) 1 (map (int .i64) r.2.1), .v (.int .i64 r.2.2)]) := by
  unfold Sh.shrink_Row at h
  refine fn_ok func24 rfl (zl rfl) rfl rfl fun g0 hn hio => ?_
  refine zgg hn [_,(2,vz),(3,vz),(4,vi 0)] [0] [0,1,2] [zq [] 1 2,zq [] 2 3,zq [] 3 4] [(_,_),(_,_),(_,_)] rfl ⟨z2 rfl,z2 rfl,z2 rfl,zz⟩ ?_
  refine ht_seq ?_
  refine zgg hn [_,_,_,(11,fi lengths),(12,vi (lengths.length : Int)),(13,vb (decide (320 < (lengths.length : Int))))] [0,1,2] [0,1,2,5] [zq [0] 3 11,zq [3] 4 12,zq [4] 5 13] [(_,_),(_,_),(_,_),(_,_)] rfl ⟨z1 rfl,zp rfl (op_len_fl _ _ _ underlying37 rfl (by decide) (map_len _)),z4 rfl rfl,zz⟩ ?_
  refine ht_cond _ rfl (fun hb1 => ?_) (fun hb1 => ?_)
  ·have h := cond_t hb1 h
   refine zgg hn [_,_,_,_,(2,vz),(3,vz),(4,vi 1)] [0,1,2,3] [4,5,6] [⟨[],[1],[4],[(.slot 2)]⟩,⟨[],[2],[5],[(.slot 3)]⟩,zq [] 6 4] [(_,_),(_,_),(_,_)] rfl ⟨zp rfl (LOp.drop [_] (op_assign _ _ _ _ rfl rfl)),zp rfl (LOp.drop [_] (op_assign _ _ _ _ rfl rfl)),z2 rfl,zz⟩ ?_
   refine ht_ret ?_
   refine pt_sub (fs := [(2,.fl (.own 3) 1 (map (int .i64) [])),(3,.fl (.own 3) 1 (map (int .i64) [])),(4,vi 1)]) (.sub _ (sub_nil 3 1) rfl (.sub _ (sub_nil 3 1) rfl (.same _ .nil))) ?_
   refine pt_r_then ?_
   obtain rfl := zi h
   exact pt_ret hio rfl (.tmp _ _ (.tmp _ _ (.tmp _ _ .nil))) rfl rfl
  ·have h := cond_f hb1 h
   refine ht_skip ?_
   refine pt_then (ht_seq ?_)
   refine zgg hn [_,_,_,_,(14,fi lengths),(15,vi (lengths.length : Int)),(16,vi 0)] [0,1,2,3] [0,1,2,4,5,6] [zq [0] 4 14,zq [4] 5 15,zq [] 6 16] [(_,_),(_,_),(_,_),(_,_),(_,_),(_,_)] rfl ⟨z1 rfl,zp rfl (op_len_fl _ _ _ underlying37 rfl (by decide) (map_len _)),z1 rfl,zz⟩ ?_
   refine ht_loopS h (fun (s18 : Int) => [(0,fi lengths),(2,vz),(3,vz),(14,fi lengths),(15,vi (lengths.length : Int)),(16,vi s18)]) (fun (() : Unit) => [(0,fi lengths),(2,vz),(3,vz)]) ?_ ?_
   ·rintro ⟨⟩ h
    refine pt_then (ht_seq ?_)
    refine zgg hn [_,_,_,(7,vi 0)] [0,1,2] [0,1,2,3] [zq [] 3 7] [(_,_),(_,_),(_,_),(_,_)] rfl ⟨z2 rfl,zz⟩ ?_
    refine ht_sub (fs := [(0,fi lengths),(2,.fl (.own 3) 1 (map (int .i64) [])),(3,.fl (.own 3) 1 (map (int .i64) [])),(7,vi 0)]) (.same _ (.sub _ (sub_nil 3 1) rfl (.sub _ (sub_nil 3 1) rfl (.same _ .nil)))) ?_
    refine ht_loopS h (fun ((s46,s47,s48) : (List Int) × (List Int) × Int) => [(0,fi lengths),(2,.fl (.own 3) 1 (map (int .i64) s46)),(3,.fl (.own 3) 1 (map (int .i64) s47)),(7,vi s48)]) (fun ((s50,s51) : (List Int) × (List Int)) => [(2,.fl (.own 3) 1 (map (int .i64) s50)),(3,.fl (.own 3) 1 (map (int .i64) s51))]) ?_ ?_
    ·rintro ⟨s50, s51⟩ h
     refine pt_then ?_
     refine zgg hn [_,_,(49,.fl (.own 3) 1 (map (int .i64) s50)),(50,.fl (.own 3) 1 (map (int .i64) s51)),(2,.fl (.own 3) 1 (map (int .i64) s50)),(3,.fl (.own 3) 1 (map (int .i64) s51)),(4,vi 0)] [0,1] [4,5,6] [⟨[],[0],[2],[(.slot 49)]⟩,⟨[],[1],[3],[(.slot 50)]⟩,⟨[],[2],[4],[(.slot 2)]⟩,⟨[],[3],[5],[(.slot 3)]⟩,zq [] 6 4] [(_,_),(_,_),(_,_)] rfl ⟨zp rfl (op_move_take _ _ _ _ rfl),zp rfl (op_move_take _ _ _ _ rfl),zp rfl (op_assign_take _ _ _ _ rfl),zp rfl (op_assign_take _ _ _ _ rfl),z2 rfl,zz⟩ ?_
     refine ht_ret ?_
     obtain rfl := zi h
     exact pt_ret hio rfl (.tmp _ _ (.tmp _ _ (.tmp _ _ .nil))) rfl rfl
    ·rintro u52 hl53 hr54 ⟨s46, s47, s48⟩ rr57 h ho55
     refine ht_seq ?_
     refine zgg hn [_,_,_,_,(27,vi s48),(28,fi lengths),(29,vi (lengths.length : Int)),(30,vb (decide (s48 < (lengths.length : Int))))] [0,1,2,3] [0,1,2,3,7] [zq [3] 4 27,zq [0] 5 28,zq [5] 6 29,zq [4,6] 7 30] [(_,_),(_,_),(_,_),(_,_),(_,_)] rfl ⟨z1 rfl,z1 rfl,zp rfl (op_len_fl _ _ _ underlying37 rfl (by decide) (map_len _)),z4 rfl rfl,zz⟩ ?_
     refine ht_cond _ rfl (fun hb58 => ?_) (fun hb58 => ?_)
     ·have h := cond_t hb58 h
      refine ht_skip ?_
      refine pt_then ?_
      refine ht_block ?_
      refine ht_seq ?_
      obtain ⟨v38, hv38, h⟩ := zn h
      refine zg hn (_::_::_::_::_::(32,fi lengths)::(33,vi s48)::(34,.tup [vi v38.1,vi v38.2.1,vi v38.2.2])::(31,.tup [vi v38.1,vi v38.2.1,vi v38.2.2])::(35,vi v38.1)::(36,vi v38.2.1)::(37,vi v38.2.2)::(8,vi v38.1)::(9,vi v38.2.1)::(10,vi v38.2.2)::[]) [0,1,2,3,4] [0,1,2,3,12,13,14] [zq [0] 5 32,zq [3] 6 33,zq [5,6] 7 34,⟨[],[7],[8],[(.slot 31)]⟩,zq [8] 9 35,zq [8] 10 36,zq [8] 11 37,zq [9] 12 8,zq [10] 13 9,zq [11] 14 10] [(_,_),(_,_),(_,_),(_,_),(_,_),(_,_),(_,_)] rfl ⟨z1 rfl,z1 rfl,zp rfl (op_call _ _ 45 _ _ rfl call45 rfl (ok_shrink_rowStep lengths s48 _ hv38) rfl rfl),zp rfl (op_move_take _ _ _ _ rfl),zp rfl (oE rfl),zp rfl (oE rfl),zp rfl (oE rfl),z2 rfl,z2 rfl,z2 rfl,zz⟩ ?_
      refine pt_then (ht_seq ?_)
      obtain ⟨v39, hv39, h⟩ := zn h
      refine zg hn [_,_,_,_,_,_,_,(38,.fl (.own 3) 1 (map (int .i64) s46)),(39,vi v38.1),(40,.fl (.own 3) 1 (map (int .i64) [v38.1])),(41,.fl (.own 3) 1 (map (int .i64) v39)),(38,.any),(2,.fl (.own 3) 1 (map (int .i64) v39))] [0,1,2,3,4,5,6] [0,2,3,5,6,12] [⟨[],[1],[7],[(.slot 38)]⟩,zq [4] 8 39,zq [8] 9 40,⟨[9],[7],[11,10],[(.slot 41)]⟩,⟨[],[10],[12],[(.slot 2)]⟩] [(_,_),(_,_),(_,_),(_,_),(_,_),(_,_)] rfl ⟨zp rfl (op_move_take _ _ _ _ rfl),z1 rfl,zp rfl (op_buildSlice _ _ 1 (.int .i64 0) (map (int .i64) [v38.1]) [(0, .int .i64 v38.1)] underlying37 sz3 zr3 (fun _ V w o a hv hes => by have e0 := rd_v hv hes (x := .tmp 39) rfl; simp only [List.map_toArray, List.map_cons, List.map_nil, e0]; try rfl) (litfill (by simp [Instr.fill, Value.cells]; rfl) (by simp [List.range, List.range.loop] <;> rfl)) (by simp [Value.oneCell']) rfl (by decide) (by decide) (by decide)),zp rfl (op_app _ _ _ _ _ el37 rfl rfl (map_len _) (map_len _) hv39 ((List.map_append).symm.trans (congrArg (map _) (app_eq hv39)))),zp rfl (op_assign_take _ _ _ _ rfl),zz⟩ ?_
      refine pt_then (ht_seq ?_)
      obtain ⟨v40, hv40, h⟩ := zn h
      refine zg hn [_,_,_,_,_,_,(42,.fl (.own 3) 1 (map (int .i64) s47)),(43,vi v38.2.1),(44,.fl (.own 3) 1 (map (int .i64) [v38.2.1])),(45,.fl (.own 3) 1 (map (int .i64) v40)),(42,.any),(3,.fl (.own 3) 1 (map (int .i64) v40))] [0,1,2,3,4,5] [0,2,4,5,11] [⟨[],[1],[6],[(.slot 42)]⟩,zq [3] 7 43,zq [7] 8 44,⟨[8],[6],[10,9],[(.slot 45)]⟩,⟨[],[9],[11],[(.slot 3)]⟩] [(_,_),(_,_),(_,_),(_,_),(_,_)] rfl ⟨zp rfl (op_move_take _ _ _ _ rfl),z1 rfl,zp rfl (op_buildSlice _ _ 1 (.int .i64 0) (map (int .i64) [v38.2.1]) [(0, .int .i64 v38.2.1)] underlying37 sz3 zr3 (fun _ V w o a hv hes => by have e0 := rd_v hv hes (x := .tmp 43) rfl; simp only [List.map_toArray, List.map_cons, List.map_nil, e0]; try rfl) (litfill (by simp [Instr.fill, Value.cells]; rfl) (by simp [List.range, List.range.loop] <;> rfl)) (by simp [Value.oneCell']) rfl (by decide) (by decide) (by decide)),zp rfl (op_app _ _ _ _ _ el37 rfl rfl (map_len _) (map_len _) hv40 ((List.map_append).symm.trans (congrArg (map _) (app_eq hv40)))),zp rfl (op_assign_take _ _ _ _ rfl),zz⟩ ?_
      refine pt_then ?_
      obtain ⟨v41, hv41, h⟩ := zn h
      refine zg hn [_,_,_,_,_,(46,vi s48),(47,vi v38.2.2),(48,vi v41),(7,vi v41)] [0,1,2,3,4] [0,3,4,8] [zq [1] 5 46,zq [2] 6 47,zq [5,6] 7 48,⟨[7],[1],[8],[(.slot 7)]⟩] [(_,_),(_,_),(_,_),(_,_)] rfl ⟨z1 rfl,z1 rfl,zp rfl (oB rfl (ibind (f := int .i64) (Option.some.inj hv41))),zp rfl (LOp.drop [_] (op_assign _ _ _ _ rfl rfl)),zz⟩ ?_
      refine pt_inb ?_
      exact pt_next _ (zi h).symm rfl
     ·have h := cond_f hb58 h
      refine ht_exit ?_
      refine pt_x_then ?_
      refine pt_x_then ?_
      refine pt_x_in ?_
      refine pt_pick [1,2] (by kernel_rfl) (es' := [(_,_),(_,_)]) rfl ?_
      exact hl53 _ (ho55 _ (zi h).symm).symm
   ·rintro u25 hl26 hr27 s18 rr30 h ho28
    refine zgg hn [_,_,_,_,_,_,(17,vb (decide (s18 < (lengths.length : Int))))] [0,1,2,3,4,5] [0,1,2,3,4,5,6] [zq [5,4] 6 17] [(_,_),(_,_),(_,_),(_,_),(_,_),(_,_),(_,_)] rfl ⟨z4 rfl rfl,zz⟩ ?_
    refine ht_seq ?_
    refine ht_cond _ rfl (fun hb31 => ?_) (fun hb31 => ?_)
    ·have h := cond_t hb31 h
     refine ht_skip ?_
     refine pt_then (ht_seq ?_)
     refine ht_block ?_
     refine ht_seq ?_
     obtain ⟨v3, hv3, h⟩ := zn h
     obtain ⟨v4, hv4, h⟩ := zn h
     refine zg hn [_,_,_,_,_,_,_,(18,.eref (.slot 14) (v3 * 1)),(19,vi v4),(6,vi v4)] [0,1,2,3,4,5,6] [0,1,2,3,4,5,9] [zq [3,5] 7 18,zq [7,3] 8 19,zq [8] 9 6] [(_,_),(_,_),(_,_),(_,_),(_,_),(_,_),(_,_)] rfl ⟨zp rfl (op_ix _ _ _ _ _ _ _ _ underlying37 sz3 (by decide) rfl rfl rfl (ix_ok hv3).1 (map_lt (ix_ok hv3).2) rfl),zp rfl (op_load_e _ _ _ _ _ _ underlying3 rfl rfl rfl (map_get hv4)),z2 rfl,zz⟩ ?_
     refine pt_then (ht_seq ?_)
     refine ht_joinS h (fun (s32 : Bool) => [(0,fi lengths),(2,vz),(3,vz),(14,fi lengths),(15,vi (lengths.length : Int)),(16,vi s18),(25,vb s32)]) ?_ ?_
     ·rintro s32 h
      refine pt_then ?_
      refine ht_cond _ rfl (fun hb36 => ?_) (fun hb36 => ?_)
      ·have h := cond_t hb36 h
       refine zgg hn [_,_,_,_,_,_,_,(2,vz),(3,vz),(4,vi 1)] [0,1,2,3,4,5,6] [7,8,9] [⟨[],[1],[7],[(.slot 2)]⟩,⟨[],[2],[8],[(.slot 3)]⟩,zq [] 9 4] [(_,_),(_,_),(_,_)] rfl ⟨zp rfl (LOp.drop [_] (op_assign _ _ _ _ rfl rfl)),zp rfl (LOp.drop [_] (op_assign _ _ _ _ rfl rfl)),z2 rfl,zz⟩ ?_
       refine ht_ret ?_
       refine pt_sub (fs := [(2,.fl (.own 3) 1 (map (int .i64) [])),(3,.fl (.own 3) 1 (map (int .i64) [])),(4,vi 1)]) (.sub _ (sub_nil 3 1) rfl (.sub _ (sub_nil 3 1) rfl (.same _ .nil))) ?_
       refine pt_r_in ?_
       refine pt_r_then ?_
       refine pt_r_then ?_
       refine pt_r_in ?_
       refine pt_r_then ?_
       have h := hr27 _ (ho28 _ (zi h).symm).symm
       obtain rfl := zi h
       exact pt_ret hio rfl (.tmp _ _ (.tmp _ _ (.tmp _ _ .nil))) rfl rfl
      ·have h := cond_f hb36 h
       refine ht_skip ?_
       refine pt_inb ?_
       refine pt_then ?_
       obtain ⟨v10, hv10, h⟩ := zn h
       refine zg hn [_,_,_,_,_,_,_,(26,vi v10),(16,vi v10)] [0,1,2,3,4,5,6] [0,1,2,3,4,8] [zq [5] 7 26,⟨[7],[5],[8],[(.slot 16)]⟩] [(_,_),(_,_),(_,_),(_,_),(_,_),(_,_)] rfl ⟨zp rfl (oB rfl (ibind (f := int .i64) (Option.some.inj hv10))),zp rfl (LOp.drop [_] (oM rfl)),zz⟩ ?_
       exact pt_next _ (zi h).symm rfl
     ·intro u33 h hl34 hr35
      refine cond_some h (fun hg6_2 h => ?_) (fun hg6_2 h => ?_)
      ·refine zg hn [_,_,_,_,_,_,_,(20,vi v4),(21,vb (decide (v4 < 0))),(22,vb true),(23,.v undef),(24,.v undef),(25,vb true)] [0,1,2,3,4,5,6] [0,1,2,3,4,5,12] [zq [6] 7 20,zq [7] 8 21,zq [8] 9 22,zq [9] 10 23,zq [9] 11 24,zq [9] 12 25] [(_,_),(_,_),(_,_),(_,_),(_,_),(_,_),(_,_)] rfl ⟨z1 rfl,z4 rfl rfl,z8 hg6_2 rfl,zf rfl,zf rfl,z3 true rfl,zz⟩ ?_
       exact hl34 _ (zi h).symm
      ·refine zg hn [_,_,_,_,_,_,_,(20,vi v4),(21,vb (decide (v4 < 0))),(22,vb false),(23,vi v4),(24,vb (decide (15 < v4))),(25,vb (decide (15 < v4)))] [0,1,2,3,4,5,6] [0,1,2,3,4,5,12] [zq [6] 7 20,zq [7] 8 21,zq [8] 9 22,zq [9,6] 10 23,zq [9,10] 11 24,zq [9,11] 12 25] [(_,_),(_,_),(_,_),(_,_),(_,_),(_,_),(_,_)] rfl ⟨z1 rfl,z4 rfl rfl,z8 hg6_2 rfl,zr' rfl (oM rfl),zr' rfl (oB rfl rfl),z3 false rfl,zz⟩ ?_
       exact hl34 _ (zi h).symm
    ·have h := cond_f hb31 h
     refine ht_exit ?_
     refine pt_x_then ?_
     refine pt_x_then ?_
     refine pt_x_in ?_
     refine pt_pick [0,1,2] (by kernel_rfl) (es' := [(_,_),(_,_),(_,_)]) rfl ?_
     exact hl26 _ (ho28 _ (zi h).symm).symm
theorem ok_shrink_rowMore (s : Int) (r : Int) (h : Sh.shrink_rowMore s = some r) : FnOK Tryd.prog 92 [.v (.int .i64 s)] (.v (.int .i64 r)) := by
  unfold Sh.shrink_rowMore at h
  refine fn_ok func92 rfl (zl rfl) rfl rfl fun g0 hn hio => ?_
  refine zgg hn [_,(2,vi 0)] [0] [0] [zq [] 1 2] [(_,_)] rfl ⟨z2 rfl,zz⟩ ?_
  refine ht_seq ?_
  refine zgg hn [_,(3,vi s)] [0] [1] [zq [0] 1 3] [(_,_)] rfl ⟨z1 rfl,zz⟩ ?_
  refine ht_block ?_
  refine zgg hn [_,(5,vb (s == 16)),(4,vb (s == 16))] [0] [0,2] [zq [0] 1 5,zq [1] 2 4] [(_,_),(_,_)] rfl ⟨z4 rfl rfl,z2 rfl,zz⟩ ?_
  refine ht_cond _ rfl (fun hb1 => ?_) (fun hb1 => ?_)
  ·have h := cond_t hb1 h
   refine zgg hn [_,_,(2,vi 2)] [0,1] [2] [zq [] 2 2] [(_,_)] rfl ⟨z2 rfl,zz⟩ ?_
   refine ht_ret ?_
   refine pt_r_in ?_
   refine pt_r_then ?_
   obtain rfl := zi h
   exact pt_ret hio rfl (.tmp _ _ .nil) rfl rfl
  ·have h := cond_f hb1 h
   refine zgg hn [_,_,(7,vb (s == 17)),(6,vb (s == 17))] [0,1] [0,3] [zq [0] 2 7,zq [2] 3 6] [(_,_),(_,_)] rfl ⟨z4 rfl rfl,z2 rfl,zz⟩ ?_
   refine ht_cond _ rfl (fun hb2 => ?_) (fun hb2 => ?_)
   ·have h := cond_t hb2 h
    refine zgg hn [_,_,(2,vi 3)] [0,1] [2] [zq [] 2 2] [(_,_)] rfl ⟨z2 rfl,zz⟩ ?_
    refine ht_ret ?_
    refine pt_r_in ?_
    refine pt_r_then ?_
    obtain rfl := zi h
    exact pt_ret hio rfl (.tmp _ _ .nil) rfl rfl
   ·have h := cond_f hb2 h
    refine zgg hn [_,_,(9,vb (s == 18)),(8,vb (s == 18))] [0,1] [3] [zq [0] 2 9,zq [2] 3 8] [(_,_)] rfl ⟨z4 rfl rfl,z2 rfl,zz⟩ ?_
    refine ht_cond _ rfl (fun hb3 => ?_) (fun hb3 => ?_)
    ·have h := cond_t hb3 h
     refine zgg hn [_,(2,vi 7)] [0] [1] [zq [] 1 2] [(_,_)] rfl ⟨z2 rfl,zz⟩ ?_
     refine ht_ret ?_
     refine pt_r_in ?_
     refine pt_r_then ?_
     obtain rfl := zi h
     exact pt_ret hio rfl (.tmp _ _ .nil) rfl rfl
    ·have h := cond_f hb3 h
     refine ht_skip ?_
     refine pt_inb ?_
     refine pt_then ?_
     refine zgg hn [_,(2,vi 0)] [0] [1] [zq [] 1 2] [(_,_)] rfl ⟨z2 rfl,zz⟩ ?_
     refine ht_ret ?_
     obtain rfl := zi h
     exact pt_ret hio rfl (.tmp _ _ .nil) rfl rfl
theorem ok_shrink_writer_putLengths (mx : Int) (w : T_shrink_writer) (lits : (List Int)) (dists : (List Int)) (r : T_shrink_writer) (h : Sh.shrink_writer_putLengths w lits dists = some r) : FnPG Tryd.prog (GL mx) 64 [.box 57 [.fl (.own 5) 1 (map (int .u8) w.b), .v (.int .i64 w.n)], .fl .shr 1 (map (int .i64) lits), .fl .shr 1 (map (int .i64) dists)] [.box 57 [.fl (.own 5) 1 (map (int .u8) r.b), .v (.int .i64 r.n)]] (.tup []) := by
  unfold Sh.shrink_writer_putLengths at h
  refine fn_okPG func64 rfl (zl rfl) rfl (zl rfl) fun args0 hargs0 g0 hn hio => ?_
  refine ht_seq ?_
  obtain ⟨v1, hv1, h⟩ := zn h
  obtain ⟨v2, hv2, h⟩ := zn h
  obtain ⟨v3, hv3, h⟩ := zn h
  refine zg hn (_::_::_::_::_::(23,fi lits)::(24,.fl (.own 3) 1 (map (int .i64) v1))::(25,fi dists)::(26,.fl (.own 3) 1 (map (int .i64) v2))::(24,.any)::(27,.tup [.fl (.own 3) 1 (map (int .i64) v3.1),.fl (.own 3) 1 (map (int .i64) v3.2.1),vi v3.2.2])::(22,.tup [.fl (.own 3) 1 (map (int .i64) v3.1),.fl (.own 3) 1 (map (int .i64) v3.2.1),vi v3.2.2])::(28,.fl (.own 3) 1 (map (int .i64) v3.1))::(22,.tup [.any,.fl (.own 3) 1 (map (int .i64) v3.2.1),vi v3.2.2])::(29,.fl (.own 3) 1 (map (int .i64) v3.2.1))::(22,.tup [.any,.any,vi v3.2.2])::(30,vi v3.2.2)::(6,.fl (.own 3) 1 (map (int .i64) v3.1))::(7,.fl (.own 3) 1 (map (int .i64) v3.2.1))::(8,vi v3.2.2)::[]) [0,1,2,3,4] [0,1,2,3,4,17,18] [zq [1] 5 23,zq [5] 6 24,zq [2] 7 25,⟨[7],[6],[9,8],[(.slot 26)]⟩,zq [8] 10 27,⟨[],[10],[11],[(.slot 22)]⟩,⟨[],[11],[13,12],[(.slot 28)]⟩,⟨[],[13],[15,14],[(.slot 29)]⟩,zq [15] 16 30,⟨[],[12],[17],[(.slot 6)]⟩,⟨[],[14],[18],[(.slot 7)]⟩,zq [16] 19 8] [(_,_),(_,_),(_,_),(_,_),(_,_),(_,_),(_,_)] rfl ⟨z1 rfl,zp rfl (op_app_nil _ _ _ _ el37 rfl rfl (map_len _) hv1 (congrArg (map _) (app_nil_eq hv1))),z1 rfl,zp rfl (op_app _ _ _ _ _ el37 rfl rfl (map_len _) (map_len _) hv2 ((List.map_append).symm.trans (congrArg (map _) (app_eq hv2)))),zp rfl (op_call _ _ 24 _ _ rfl call24 rfl (ok_shrink_Row v2 _ hv3) rfl rfl),zp rfl (op_move_take _ _ _ _ rfl),zp rfl (op_extract_take _ _ _ _ _ rfl (zl rfl) rfl rfl (by decide) rfl),zp rfl (op_extract_take _ _ _ _ _ rfl (zl rfl) rfl rfl (by decide) rfl),zp rfl (oE rfl),zp rfl (op_assign_take _ _ _ _ rfl),zp rfl (op_assign_take _ _ _ _ rfl),z2 rfl,zz⟩ ?_
  refine pt_then (ht_seq ?_)
  obtain ⟨v4, hv4, h⟩ := zn h
  refine zg hn [_,_,_,_,_,_,_,(31,.fl (.own 3) 1 (map (int .i64) v4)),(9,.fl (.own 3) 1 (map (int .i64) v4))] [0,1,2,3,4,5,6] [0,1,2,3,4,5,6,8] [zq [] 7 31,⟨[],[7],[8],[(.slot 9)]⟩] [(_,_),(_,_),(_,_),(_,_),(_,_),(_,_),(_,_),(_,_)] rfl ⟨zp rfl (op_mk (f := int .i64) _ _ _ _ el37 (by decide) zr3 rfl rfl rfl hv4),zp rfl (op_assign_take _ _ _ _ rfl),zz⟩ ?_
  refine pt_then (ht_seq ?_)
  refine zgg hn [_,_,_,_,_,_,_,_,(32,.same (.slot 6)),(33,vi (v3.1.length : Int)),(34,vi 0)] [0,1,2,3,4,5,6,7] [0,1,2,3,4,5,6,7,8,9,10] [zq [5] 8 32,zq [8,5] 9 33,zq [] 10 34] [(_,_),(_,_),(_,_),(_,_),(_,_),(_,_),(_,_),(_,_),(_,_),(_,_),(_,_)] rfl ⟨z1 rfl,zp rfl (op_len_fl _ _ _ underlying37 rfl (by decide) (map_len _)),z1 rfl,zz⟩ ?_
  refine ht_loopS h (fun ((s17,s18) : (List Int) × Int) => [(0,.box 57 [.fl (.own 5) 1 (map (int .u8) w.b),vi w.n]),(1,fi lits),(2,fi dists),(0,.v (List.getD args0 0 undef)),(113,.glob (GL mx)),(6,.fl (.own 3) 1 (map (int .i64) v3.1)),(7,.fl (.own 3) 1 (map (int .i64) v3.2.1)),(9,.fl (.own 3) 1 (map (int .i64) s17)),(32,.same (.slot 6)),(33,vi (v3.1.length : Int)),(34,vi s18)]) (fun (s20 : (List Int)) => [(0,.box 57 [.fl (.own 5) 1 (map (int .u8) w.b),vi w.n]),(1,fi lits),(2,fi dists),(0,.v (List.getD args0 0 undef)),(113,.glob (GL mx)),(6,.fl (.own 3) 1 (map (int .i64) v3.1)),(7,.fl (.own 3) 1 (map (int .i64) v3.2.1)),(9,.fl (.own 3) 1 (map (int .i64) s20))]) ?_ ?_
  ·rintro s20 h
   refine pt_then (ht_seq ?_)
   obtain ⟨v28, hv28, h⟩ := zn h
   refine zg hn (_::_::_::_::_::_::_::_::(46,.fl (.own 3) 1 (map (int .i64) s20))::(47,.tup [.fl (.own 3) 1 (map (int .i64) v28.1),vi v28.2])::(45,.tup [.fl (.own 3) 1 (map (int .i64) v28.1),vi v28.2])::(48,.fl (.own 3) 1 (map (int .i64) v28.1))::(45,.tup [.any,vi v28.2])::(49,vi v28.2)::(12,.fl (.own 3) 1 (map (int .i64) v28.1))::(13,vi v28.2)::[]) [0,1,2,3,4,5,6,7] [0,1,2,3,4,5,6,14] [⟨[],[7],[8],[(.slot 46)]⟩,zq [8] 9 47,⟨[],[9],[10],[(.slot 45)]⟩,⟨[],[10],[12,11],[(.slot 48)]⟩,zq [12] 13 49,⟨[],[11],[14],[(.slot 12)]⟩,zq [13] 15 13] [(_,_),(_,_),(_,_),(_,_),(_,_),(_,_),(_,_),(_,_)] rfl ⟨zp rfl (op_move_take _ _ _ _ rfl),zp rfl (op_call _ _ 63 _ _ rfl call63 rfl (ok_tree_Lengths s20 7 _ hv28) rfl rfl),zp rfl (op_move_take _ _ _ _ rfl),zp rfl (op_extract_take _ _ _ _ _ rfl (zl rfl) rfl rfl (by decide) rfl),zp rfl (oE rfl),zp rfl (op_assign_take _ _ _ _ rfl),z2 rfl,zz⟩ ?_
   refine pt_then (ht_seq ?_)
   obtain ⟨v29, hv29, h⟩ := zn h
   refine zg hn [_,_,_,_,_,_,_,_,(50,.fl (.own 3) 1 (map (int .i64) v29)),(14,.fl (.own 3) 1 (map (int .i64) v29))] [0,1,2,3,4,5,6,7] [0,1,2,3,4,5,6,7,9] [zq [] 8 50,⟨[],[8],[9],[(.slot 14)]⟩] [(_,_),(_,_),(_,_),(_,_),(_,_),(_,_),(_,_),(_,_),(_,_)] rfl ⟨zp rfl (op_mk (f := int .i64) _ _ _ _ el37 (by decide) zr3 rfl rfl rfl hv29),zp rfl (op_assign_take _ _ _ _ rfl),zz⟩ ?_
   refine pt_then (ht_seq ?_)
   refine zgg hn [_,_,_,_,_,_,_,_,_,(51,.v (.agg (map (int .i64) shrink_rowOrder).toArray)),(52,vi 0)] [0,1,2,3,4,5,6,7,8] [0,1,2,3,4,5,6,7,8,9,10] [zq [4] 9 51,zq [] 10 52] [(_,_),(_,_),(_,_),(_,_),(_,_),(_,_),(_,_),(_,_),(_,_),(_,_),(_,_)] rfl ⟨zp rfl (op_loadA_glob _ _ 113 0 (map (int .i64) shrink_rowOrder) underlying113 rfl sz113 rfl rfl (gl_mem0 mx)),z1 rfl,zz⟩ ?_
   refine ht_loopS h (fun ((s41,s42) : (List Int) × Int) => [(0,.box 57 [.fl (.own 5) 1 (map (int .u8) w.b),vi w.n]),(1,fi lits),(2,fi dists),(0,.v (List.getD args0 0 undef)),(113,.glob (GL mx)),(6,.fl (.own 3) 1 (map (int .i64) v3.1)),(7,.fl (.own 3) 1 (map (int .i64) v3.2.1)),(12,.fl (.own 3) 1 (map (int .i64) v28.1)),(14,.fl (.own 3) 1 (map (int .i64) s41)),(51,.v (.agg (map (int .i64) shrink_rowOrder).toArray)),(52,vi s42)]) (fun (s44 : (List Int)) => [(0,.box 57 [.fl (.own 5) 1 (map (int .u8) w.b),vi w.n]),(1,fi lits),(2,fi dists),(0,.v (List.getD args0 0 undef)),(113,.glob (GL mx)),(6,.fl (.own 3) 1 (map (int .i64) v3.1)),(7,.fl (.own 3) 1 (map (int .i64) v3.2.1)),(12,.fl (.own 3) 1 (map (int .i64) v28.1)),(14,.fl (.own 3) 1 (map (int .i64) s44))]) ?_ ?_
   ·rintro s44 h
    refine pt_then (ht_seq ?_)
    refine ht_frzE 8 hio (es' := [(0, .box 57 [.fl (.own 5) 1 (map (int .u8) w.b), .v (.int .i64 w.n)]), (1, fi lits), (2, fi dists), (0, .v (List.getD args0 0 undef)), (113, .glob (GL mx)), (6, .fl (.own 3) 1 (map (int .i64) v3.1)), (7, .fl (.own 3) 1 (map (int .i64) v3.2.1)), (12, .fl (.own 3) 1 (map (int .i64) v28.1)), (14, .fl .ro 1 (map (int .i64) s44))]) rfl ?_
    obtain ⟨v52, hv52, h⟩ := zn h
    refine zg hn [_,_,_,_,_,_,_,_,_,(64,.fl .ro 1 (map (int .i64) s44)),(65,.fl .ro 1 (map (int .i64) v52)),(14,.fl .ro 1 (map (int .i64) v52))] [0,1,2,3,4,5,6,7,8] [0,1,2,3,4,5,6,7,11] [zq [8] 9 64,zq [9] 10 65,⟨[10],[8],[11],[(.slot 14)]⟩] [(_,_),(_,_),(_,_),(_,_),(_,_),(_,_),(_,_),(_,_),(_,_)] rfl ⟨z1 rfl,zp rfl (op_callR _ _ 65 _ _ rfl call65 rfl (ok_shrink_trim_ro s44 4 _ hv52) rfl rfl),zp rfl (LOp.drop [_] (op_assign _ _ _ _ rfl rfl)),zz⟩ ?_
    refine pt_then (ht_seq ?_)
    obtain ⟨v53, hv53, h⟩ := zn h
    obtain ⟨v54, hv54, h⟩ := zn h
    refine zg hn (_::_::_::_::_::_::_::_::_::(66,.ptr 0 0)::(67,fi lits)::(68,vi (lits.length : Int))::(69,vi v53)::(70,.tup [])::(0,.box 57 [.fl (.own 5) 1 (map (int .u8) v54.b),vi v54.n])::[]) [0,1,2,3,4,5,6,7,8] [14,2,3,4,5,6,7,8] [zq [0] 9 66,zq [1] 10 67,zq [10] 11 68,zq [11] 12 69,⟨[9,12],[0],[14,13],[(.slot 70),(.cell 0 0),(.cell 0 1)]⟩] [(_,_),(_,_),(_,_),(_,_),(_,_),(_,_),(_,_),(_,_)] rfl ⟨z1 rfl,z1 rfl,zp rfl (op_len_fl _ _ _ underlying37 rfl (by decide) (map_len _)),zp rfl (oB rfl (ibind (f := int .i64) (Option.some.inj hv53))),zp rfl (op_callP _ _ _ _ 70 55 [.tmp 66] [.tmp 69, _] _ _ _ rfl call55 rfl rfl rfl (ok_shrink_writer_put w v53 5 _ hv54) (zl rfl) rfl rfl rfl rfl rfl rfl rfl rfl),zz⟩ ?_
    refine pt_then (ht_seq ?_)
    obtain ⟨v55, hv55, h⟩ := zn h
    obtain ⟨v56, hv56, h⟩ := zn h
    refine zg hn [_,_,_,_,_,_,_,_,(71,.ptr 0 0),(72,fi dists),(73,vi (dists.length : Int)),(74,vi v55),(75,.tup []),(0,.box 57 [.fl (.own 5) 1 (map (int .u8) v56.b),vi v56.n])] [0,1,2,3,4,5,6,7] [13,2,3,4,5,6,7] [zq [0] 8 71,zq [1] 9 72,zq [9] 10 73,zq [10] 11 74,⟨[8,11],[0],[13,12],[(.slot 75),(.cell 0 0),(.cell 0 1)]⟩] [(_,_),(_,_),(_,_),(_,_),(_,_),(_,_),(_,_)] rfl ⟨z1 rfl,z1 rfl,zp rfl (op_len_fl _ _ _ underlying37 rfl (by decide) (map_len _)),zp rfl (oB rfl (ibind (f := int .i64) (Option.some.inj hv55))),zp rfl (op_callP _ _ _ _ 75 55 [.tmp 71] [.tmp 74, _] _ _ _ rfl call55 rfl rfl rfl (ok_shrink_writer_put v54 v55 5 _ hv56) (zl rfl) rfl rfl rfl rfl rfl rfl rfl rfl),zz⟩ ?_
    refine pt_then (ht_seq ?_)
    obtain ⟨v57, hv57, h⟩ := zn h
    obtain ⟨v58, hv58, h⟩ := zn h
    refine zg hn [_,_,_,_,_,_,_,(76,.ptr 0 0),(77,.fl .ro 1 (map (int .i64) v52)),(78,vi (v52.length : Int)),(79,vi v57),(80,.tup []),(0,.box 57 [.fl (.own 5) 1 (map (int .u8) v58.b),vi v58.n])] [0,1,2,3,4,5,6] [12,1,2,3,4,5,6] [zq [0] 7 76,zq [6] 8 77,zq [8] 9 78,zq [9] 10 79,⟨[7,10],[0],[12,11],[(.slot 80),(.cell 0 0),(.cell 0 1)]⟩] [(_,_),(_,_),(_,_),(_,_),(_,_),(_,_),(_,_)] rfl ⟨z1 rfl,z1 rfl,zp rfl (op_len_fl _ _ _ underlying37 rfl (by decide) (map_len _)),zp rfl (oB rfl (ibind (f := int .i64) (Option.some.inj hv57))),zp rfl (op_callP _ _ _ _ 80 55 [.tmp 76] [.tmp 79, _] _ _ _ rfl call55 rfl rfl rfl (ok_shrink_writer_put v56 v57 4 _ hv58) (zl rfl) rfl rfl rfl rfl rfl rfl rfl rfl),zz⟩ ?_
    refine pt_then (ht_seq ?_)
    refine zgg hn [_,_,_,_,_,_,_,(81,.fl .ro 1 (map (int .i64) v52)),(82,vi (v52.length : Int)),(83,vi 0)] [0,1,2,3,4,5,6] [0,1,2,3,4,5,7,8,9] [zq [6] 7 81,zq [7] 8 82,zq [] 9 83] [(_,_),(_,_),(_,_),(_,_),(_,_),(_,_),(_,_),(_,_),(_,_)] rfl ⟨z1 rfl,zp rfl (op_len_fl _ _ _ underlying37 rfl (by decide) (map_len _)),z1 rfl,zz⟩ ?_
    refine ht_loopS h (fun ((s68,s69,s70) : (List Int) × Int × Int) => [(0,.box 57 [.fl (.own 5) 1 (map (int .u8) s68),vi s69]),(0,.v (List.getD args0 0 undef)),(113,.glob (GL mx)),(6,.fl (.own 3) 1 (map (int .i64) v3.1)),(7,.fl (.own 3) 1 (map (int .i64) v3.2.1)),(12,.fl (.own 3) 1 (map (int .i64) v28.1)),(81,.fl .ro 1 (map (int .i64) v52)),(82,vi (v52.length : Int)),(83,vi s70)]) (fun ((s72,s73) : (List Int) × Int) => [(0,.box 57 [.fl (.own 5) 1 (map (int .u8) s72),vi s73]),(0,.v (List.getD args0 0 undef)),(113,.glob (GL mx)),(6,.fl (.own 3) 1 (map (int .i64) v3.1)),(7,.fl (.own 3) 1 (map (int .i64) v3.2.1)),(12,.fl (.own 3) 1 (map (int .i64) v28.1))]) ?_ ?_
    ·rintro ⟨s72, s73⟩ h
     refine pt_then (ht_seq ?_)
     refine ht_frzE 5 hio (es' := [(0, .box 57 [.fl (.own 5) 1 (map (int .u8) s72), .v (.int .i64 s73)]), (0, .v (List.getD args0 0 undef)), (113, .glob (GL mx)), (6, .fl (.own 3) 1 (map (int .i64) v3.1)), (7, .fl (.own 3) 1 (map (int .i64) v3.2.1)), (12, .fl .ro 1 (map (int .i64) v28.1))]) rfl ?_
     obtain ⟨v81, hv81, h⟩ := zn h
     refine zg hn [_,_,_,_,_,_,(91,.fl .ro 1 (map (int .i64) v28.1)),(92,.agg [.fl .ro 1 (map (int .i64) v81.lengths),.fl .ro 1 (map (int .i64) v81.codes)]),(19,.box 87 [vz,vz]),(19,.box 87 [.fl .ro 1 (map (int .i64) v81.lengths),.fl .ro 1 (map (int .i64) v81.codes)])] [0,1,2,3,4,5] [0,1,2,3,4,9] [zq [5] 6 91,zq [6] 7 92,zq [] 8 19,⟨[7],[8],[9],[.cell 19 0,.cell 19 1]⟩] [(_,_),(_,_),(_,_),(_,_),(_,_),(_,_)] rfl ⟨z1 rfl,zp rfl (op_callR _ _ 61 _ _ rfl call61 rfl (ok_shrink_newCode_ro v28.1 _ hv81) rfl rfl),zp rfl (op_alloc _ _ zr87),zp rfl (oS sz87 rfl),zz⟩ ?_
     refine pt_then ?_
     refine zgg hn [_,_,_,_,_,_,(93,.fl (.own 3) 1 (map (int .i64) v3.1)),(94,vi (v3.1.length : Int)),(95,vi 0)] [0,1,2,3,4,5] [0,1,2,4,5,6,7,8] [⟨[],[3],[6],[(.slot 93)]⟩,zq [6] 7 94,zq [] 8 95] [(_,_),(_,_),(_,_),(_,_),(_,_),(_,_),(_,_),(_,_)] rfl ⟨zp rfl (op_move_take _ _ _ _ rfl),zp rfl (op_len_fl _ _ _ underlying37 rfl (by decide) (map_len _)),z1 rfl,zz⟩ ?_
     refine ht_loopS h (fun ((s95,s96,s97) : (List Int) × Int × Int) => [(0,.box 57 [.fl (.own 5) 1 (map (int .u8) s95),vi s96]),(0,.v (List.getD args0 0 undef)),(113,.glob (GL mx)),(7,.fl (.own 3) 1 (map (int .i64) v3.2.1)),(19,.box 87 [.fl .ro 1 (map (int .i64) v81.lengths),.fl .ro 1 (map (int .i64) v81.codes)]),(93,.fl (.own 3) 1 (map (int .i64) v3.1)),(94,vi (v3.1.length : Int)),(95,vi s97)]) (fun ((s99,s100) : (List Int) × Int) => [(0,.box 57 [.fl (.own 5) 1 (map (int .u8) s99),vi s100]),(0,.v (List.getD args0 0 undef)),(113,.glob (GL mx))]) ?_ ?_
     ·rintro ⟨s99, s100⟩ h
      refine pt_pick [0,1] (by kernel_rfl) (es' := [(_,_),(_,_)]) rfl ?_
      obtain rfl := zi h
      exact pt_endP (es := []) (posts := [.box 57 [.fl (.own 5) 1 (map (int .u8) s99), .v (.int .i64 s100)]]) hio rfl rfl .nil rfl rfl hargs0 rfl
     ·rintro u101 hl102 hr103 ⟨s95, s96, s97⟩ rr106 h ho104
      refine zgg hn [_,_,_,_,_,_,_,_,(96,vb (decide (s97 < (v3.1.length : Int))))] [0,1,2,3,4,5,6,7] [0,1,2,3,4,5,6,7,8] [zq [7,6] 8 96] [(_,_),(_,_),(_,_),(_,_),(_,_),(_,_),(_,_),(_,_),(_,_)] rfl ⟨z4 rfl rfl,zz⟩ ?_
      refine ht_seq ?_
      refine ht_cond _ rfl (fun hb107 => ?_) (fun hb107 => ?_)
      ·have h := cond_t hb107 h
       refine ht_skip ?_
       refine pt_then (ht_seq ?_)
       refine ht_block ?_
       refine ht_seq ?_
       obtain ⟨v83, hv83, h⟩ := zn h
       obtain ⟨v84, hv84, h⟩ := zn h
       refine zg hn [_,_,_,_,_,_,_,_,_,(97,vi s97),(98,.eref (.slot 93) (v83 * 1)),(99,vi v84),(20,vi s97),(21,vi v84)] [0,1,2,3,4,5,6,7,8] [0,1,2,3,4,5,6,7,12,13] [zq [7] 9 97,zq [5,7] 10 98,zq [10,5] 11 99,zq [9] 12 20,zq [11] 13 21] [(_,_),(_,_),(_,_),(_,_),(_,_),(_,_),(_,_),(_,_),(_,_),(_,_)] rfl ⟨z1 rfl,zp rfl (op_ix _ _ _ _ _ _ _ _ underlying37 sz3 (by decide) rfl rfl rfl (ix_ok hv83).1 (map_lt (ix_ok hv83).2) rfl),zp rfl (op_load_e _ _ _ _ _ _ underlying3 rfl rfl rfl (map_get hv84)),z2 rfl,z2 rfl,zz⟩ ?_
       refine pt_then (ht_seq ?_)
       obtain ⟨v85, hv85, h⟩ := zn h
       refine zg hn (_::_::_::_::_::_::_::_::_::_::(100,.ptr 0 0)::(101,.agg [.fl .ro 1 (map (int .i64) v81.lengths),.fl .ro 1 (map (int .i64) v81.codes)])::(102,vi v84)::(103,.tup [])::(0,.box 57 [.fl (.own 5) 1 (map (int .u8) v85.b),vi v85.n])::[]) [0,1,2,3,4,5,6,7,8,9] [14,1,2,3,4,5,6,7,8,9] [zq [0] 10 100,zq [4] 11 101,zq [9] 12 102,⟨[10,11,12],[0],[14,13],[(.slot 103),(.cell 0 0),(.cell 0 1)]⟩] [(_,_),(_,_),(_,_),(_,_),(_,_),(_,_),(_,_),(_,_),(_,_),(_,_)] rfl ⟨z1 rfl,zp rfl (op_loadA _ _ _ _ _ _ _ underlying87 rfl sz87 rfl rfl (zl rfl) rfl rfl),z1 rfl,zp rfl (op_callP _ _ _ _ 103 82 [.tmp 100] [.tmp 101, .tmp 102] _ _ _ rfl call82 rfl rfl rfl (ok_shrink_writer_putSym (T_shrink_writer.mk s95 s96) v81 v84 _ hv85) (zl rfl) rfl rfl rfl rfl rfl rfl rfl rfl),zz⟩ ?_
       refine pt_then ?_
       obtain ⟨v86, hv86, h⟩ := zn h
       obtain ⟨v87, hv87, h⟩ := zn h
       obtain ⟨v88, hv88, h⟩ := zn h
       obtain ⟨v89, hv89, h⟩ := zn h
       refine ht_anyR (by kernel_rfl) hn (El := (_ :: _ :: _ :: _ :: _ :: _ :: _ :: _ :: _ :: _ :: (104,.ptr 0 0) :: (105,.same (.slot 7)) :: (106,vi s97) :: (107,.eref (.slot 7) (v86 * 1)) :: (108,vi v87) :: (109,vi v84) :: (110,vi v88) :: (111,.tup []) :: (0,.box 57 [.fl (.own 5) 1 (map (int .u8) v89.b),vi v89.n]) :: [])) (init := [0,1,2,3,4,5,6,7,8,9]) (fin := [18,1,2,3,4,5,6,7]) (sps := [zq [0] 10 104,zq [3] 11 105,zq [8] 12 106,zq [11,3,12] 13 107,zq [13,3] 14 108,zq [9] 15 109,zq [15] 16 110,⟨[10,14,16],[0],[18,17],[(.slot 111),(.cell 0 0),(.cell 0 1)]⟩]) (es' := [(0,.box 57 [.fl (.own 5) 1 (map (int .u8) v89.b),vi v89.n]),(_,_),(_,_),(_,_),(_,_),(_,_),(_,_),(_,_)]) (by kernel_rfl) rfl rfl ⟨z1 rfl,z1 rfl,z1 rfl,zp rfl (op_ix _ _ _ _ _ _ _ _ underlying37 sz3 (by decide) rfl rfl rfl (ix_ok hv86).1 (map_lt (ix_ok hv86).2) rfl),zp rfl (op_load_e _ _ _ _ _ _ underlying3 rfl rfl rfl (map_get hv87)),z1 rfl,zp rfl (op_call _ _ 92 _ _ rfl call92 rfl (ok_shrink_rowMore v84 _ hv88) rfl rfl),zp rfl (op_callP _ _ _ _ 111 55 [.tmp 104] [.tmp 108,.tmp 110] _ _ _ rfl call55 rfl rfl rfl (ok_shrink_writer_put v85 v87 v88 _ hv89) (zl rfl) rfl rfl rfl rfl rfl rfl rfl rfl),zz⟩ ?_
       refine pt_inb ?_
       refine pt_then ?_
       obtain ⟨v90, hv90, h⟩ := zn h
       refine zg hn [_,_,_,_,_,_,_,_,(112,vi v90),(95,vi v90)] [0,1,2,3,4,5,6,7] [0,1,2,3,4,5,6,9] [zq [7] 8 112,⟨[8],[7],[9],[(.slot 95)]⟩] [(_,_),(_,_),(_,_),(_,_),(_,_),(_,_),(_,_),(_,_)] rfl ⟨zp rfl (oB rfl (ibind (f := int .i64) (Option.some.inj hv90))),zp rfl (LOp.drop [_] (oM rfl)),zz⟩ ?_
       exact pt_next _ (zi h).symm rfl
      ·have h := cond_f hb107 h
       refine ht_exit ?_
       refine pt_x_then ?_
       refine pt_x_then ?_
       refine pt_x_in ?_
       refine pt_pick [0,1,2] (by kernel_rfl) (es' := [(_,_),(_,_),(_,_)]) rfl ?_
       exact hl102 _ (ho104 _ (zi h).symm).symm
    ·rintro u74 hl75 hr76 ⟨s68, s69, s70⟩ rr79 h ho77
     refine zgg hn [_,_,_,_,_,_,_,_,_,(84,vb (decide (s70 < (v52.length : Int))))] [0,1,2,3,4,5,6,7,8] [0,1,2,3,4,5,6,7,8,9] [zq [8,7] 9 84] [(_,_),(_,_),(_,_),(_,_),(_,_),(_,_),(_,_),(_,_),(_,_),(_,_)] rfl ⟨z4 rfl rfl,zz⟩ ?_
     refine ht_seq ?_
     refine ht_cond _ rfl (fun hb80 => ?_) (fun hb80 => ?_)
     ·have h := cond_t hb80 h
      refine ht_skip ?_
      refine pt_then (ht_seq ?_)
      refine ht_block ?_
      refine ht_seq ?_
      obtain ⟨v60, hv60, h⟩ := zn h
      obtain ⟨v61, hv61, h⟩ := zn h
      refine zg hn [_,_,_,_,_,_,_,_,_,_,(85,.eref (.slot 81) (v60 * 1)),(86,vi v61),(18,vi v61)] [0,1,2,3,4,5,6,7,8,9] [0,1,2,3,4,5,6,7,8,12] [zq [6,8] 10 85,zq [10,6] 11 86,zq [11] 12 18] [(_,_),(_,_),(_,_),(_,_),(_,_),(_,_),(_,_),(_,_),(_,_),(_,_)] rfl ⟨zp rfl (op_ix _ _ _ _ _ _ _ _ underlying37 sz3 (by decide) rfl rfl rfl (ix_ok hv60).1 (map_lt (ix_ok hv60).2) rfl),zp rfl (op_load_e _ _ _ _ _ _ underlying3 rfl rfl rfl (map_get hv61)),z2 rfl,zz⟩ ?_
      refine pt_then ?_
      obtain ⟨v62, hv62, h⟩ := zn h
      refine zg hn [_,_,_,_,_,_,_,_,_,_,(87,.ptr 0 0),(88,vi v61),(89,.tup []),(0,.box 57 [.fl (.own 5) 1 (map (int .u8) v62.b),vi v62.n])] [0,1,2,3,4,5,6,7,8,9] [13,1,2,3,4,5,6,7,8] [zq [0] 10 87,zq [9] 11 88,⟨[10,11],[0],[13,12],[(.slot 89),(.cell 0 0),(.cell 0 1)]⟩] [(_,_),(_,_),(_,_),(_,_),(_,_),(_,_),(_,_),(_,_),(_,_)] rfl ⟨z1 rfl,z1 rfl,zp rfl (op_callP _ _ _ _ 89 55 [.tmp 87] [.tmp 88, _] _ _ _ rfl call55 rfl rfl rfl (ok_shrink_writer_put (T_shrink_writer.mk s68 s69) v61 3 _ hv62) (zl rfl) rfl rfl rfl rfl rfl rfl rfl rfl),zz⟩ ?_
      refine pt_inb ?_
      refine pt_then ?_
      obtain ⟨v63, hv63, h⟩ := zn h
      refine zg hn [_,_,_,_,_,_,_,_,_,(90,vi v63),(83,vi v63)] [0,1,2,3,4,5,6,7,8] [0,1,2,3,4,5,6,7,10] [zq [8] 9 90,⟨[9],[8],[10],[(.slot 83)]⟩] [(_,_),(_,_),(_,_),(_,_),(_,_),(_,_),(_,_),(_,_),(_,_)] rfl ⟨zp rfl (oB rfl (ibind (f := int .i64) (Option.some.inj hv63))),zp rfl (LOp.drop [_] (oM rfl)),zz⟩ ?_
      exact pt_next _ (zi h).symm rfl
     ·have h := cond_f hb80 h
      refine ht_exit ?_
      refine pt_x_then ?_
      refine pt_x_then ?_
      refine pt_x_in ?_
      refine pt_pick [0,1,2,3,4,5] (by kernel_rfl) (es' := [(_,_),(_,_),(_,_),(_,_),(_,_),(_,_)]) rfl ?_
      exact hl75 _ (ho77 _ (zi h).symm).symm
   ·rintro u45 hl46 hr47 ⟨s41, s42⟩ rr50 h ho48
    refine zgg hn [_,_,_,_,_,_,_,_,_,_,_,(53,vb (decide (s42 < 19)))] [0,1,2,3,4,5,6,7,8,9,10] [0,1,2,3,4,5,6,7,8,9,10,11] [zq [10] 11 53] [(_,_),(_,_),(_,_),(_,_),(_,_),(_,_),(_,_),(_,_),(_,_),(_,_),(_,_),(_,_)] rfl ⟨z4 rfl rfl,zz⟩ ?_
    refine ht_seq ?_
    refine ht_cond _ rfl (fun hb51 => ?_) (fun hb51 => ?_)
    ·have h := cond_t hb51 h
     refine ht_skip ?_
     refine pt_then (ht_seq ?_)
     refine ht_block ?_
     refine ht_seq ?_
     obtain ⟨v31, hv31, h⟩ := zn h
     obtain ⟨v32, hv32, h⟩ := zn h
     refine zg hn (_::_::_::_::_::_::_::_::_::_::_::_::(54,vi s42)::(55,vi v32)::(15,vi s42)::(16,vi v32)::[]) [0,1,2,3,4,5,6,7,8,9,10,11] [0,1,2,3,4,5,6,7,8,9,10,14,15] [zq [10] 12 54,zq [9,10] 13 55,zq [12] 14 15,zq [13] 15 16] [(_,_),(_,_),(_,_),(_,_),(_,_),(_,_),(_,_),(_,_),(_,_),(_,_),(_,_),(_,_),(_,_)] rfl ⟨z1 rfl,zp rfl (op_index_arr _ _ _ _ 19 v31 underlying113 sz3 rfl (congrArg (fun j => AV.v (int .i64 j)) (ix_ok hv31).1) (ix_ok hv31).2 (map_get1 hv32) ⟨_, underlying3, rfl⟩),z2 rfl,z2 rfl,zz⟩ ?_
     refine pt_then ?_
     obtain ⟨v33, hv33, h⟩ := zn h
     obtain ⟨v34, hv34, h⟩ := zn h
     obtain ⟨v35, hv35, h⟩ := zn h
     obtain ⟨v36, hv36, h⟩ := zn h
     refine zg hn (_::_::_::_::_::_::_::_::_::_::_::_::_::(56,.same (.slot 14))::(57,vi s42)::(58,.same (.slot 12))::(59,vi v32)::(60,.eref (.slot 12) (v33 * 1))::(61,vi v34)::(62,.eref (.slot 14) (v35 * 1))::(14,.fl (.own 3) 1 (map (int .i64) v36))::[]) [0,1,2,3,4,5,6,7,8,9,10,11,12] [0,1,2,3,4,5,6,7,20,9,10] [zq [8] 13 56,zq [11] 14 57,zq [7] 15 58,zq [12] 16 59,zq [15,7,16] 17 60,zq [17,7] 18 61,zq [13,8,14] 19 62,⟨[19,18],[8],[20],[]⟩] [(_,_),(_,_),(_,_),(_,_),(_,_),(_,_),(_,_),(_,_),(_,_),(_,_),(_,_)] rfl ⟨z1 rfl,z1 rfl,z1 rfl,z1 rfl,zp rfl (op_ix _ _ _ _ _ _ _ _ underlying37 sz3 (by decide) rfl rfl rfl (ix_ok hv33).1 (map_lt (ix_ok hv33).2) rfl),zp rfl (op_load_e _ _ _ _ _ _ underlying3 rfl rfl rfl (map_get hv34)),zp rfl (op_ix _ _ _ _ _ _ _ _ underlying37 sz3 (by decide) rfl rfl rfl (ix_ok hv35).1 (map_lt (ix_ok hv35).2) rfl),zp rfl (op_store_e _ _ _ _ _ _ _ _ sz3 rfl rfl rfl (by decide) (map_lt (ix_ok hv35).2) ((map_set (f := int .i64) _ (ix_ok hv35).2).trans (congrArg (map _) (Option.some.inj hv36)))),zz⟩ ?_
     refine pt_inb ?_
     refine pt_then ?_
     obtain ⟨v37, hv37, h⟩ := zn h
     refine zg hn [_,_,_,_,_,_,_,_,_,_,_,(63,vi v37),(52,vi v37)] [0,1,2,3,4,5,6,7,8,9,10] [0,1,2,3,4,5,6,7,8,9,12] [zq [10] 11 63,⟨[11],[10],[12],[(.slot 52)]⟩] [(_,_),(_,_),(_,_),(_,_),(_,_),(_,_),(_,_),(_,_),(_,_),(_,_),(_,_)] rfl ⟨zp rfl (oB rfl (ibind (f := int .i64) (Option.some.inj hv37))),zp rfl (LOp.drop [_] (oM rfl)),zz⟩ ?_
     exact pt_next _ (zi h).symm rfl
    ·have h := cond_f hb51 h
     refine ht_exit ?_
     refine pt_x_then ?_
     refine pt_x_then ?_
     refine pt_x_in ?_
     refine pt_pick [0,1,2,3,4,5,6,7,8] (by kernel_rfl) (es' := [(_,_),(_,_),(_,_),(_,_),(_,_),(_,_),(_,_),(_,_),(_,_)]) rfl ?_
     exact hl46 _ (ho48 _ (zi h).symm).symm
  ·rintro u21 hl22 hr23 ⟨s17, s18⟩ rr26 h ho24
   refine zgg hn [_,_,_,_,_,_,_,_,_,_,_,(35,vb (decide (s18 < (v3.1.length : Int))))] [0,1,2,3,4,5,6,7,8,9,10] [0,1,2,3,4,5,6,7,8,9,10,11] [zq [10,9] 11 35] [(_,_),(_,_),(_,_),(_,_),(_,_),(_,_),(_,_),(_,_),(_,_),(_,_),(_,_),(_,_)] rfl ⟨z4 rfl rfl,zz⟩ ?_
   refine ht_seq ?_
   refine ht_cond _ rfl (fun hb27 => ?_) (fun hb27 => ?_)
   ·have h := cond_t hb27 h
    refine ht_skip ?_
    refine pt_then (ht_seq ?_)
    refine ht_block ?_
    refine ht_seq ?_
    obtain ⟨v6, hv6, h⟩ := zn h
    obtain ⟨v7, hv7, h⟩ := zn h
    refine zg hn (_::_::_::_::_::_::_::_::_::_::_::_::(36,.eref (.slot 6) (v6 * 1))::(37,vi v7)::(11,vi v7)::[]) [0,1,2,3,4,5,6,7,8,9,10,11] [0,1,2,3,4,5,6,7,8,9,10,14] [zq [8,5,10] 12 36,zq [12,5] 13 37,zq [13] 14 11] [(_,_),(_,_),(_,_),(_,_),(_,_),(_,_),(_,_),(_,_),(_,_),(_,_),(_,_),(_,_)] rfl ⟨zp rfl (op_ix _ _ _ _ _ _ _ _ underlying37 sz3 (by decide) rfl rfl rfl (ix_ok hv6).1 (map_lt (ix_ok hv6).2) rfl),zp rfl (op_load_e _ _ _ _ _ _ underlying3 rfl rfl rfl (map_get hv7)),z2 rfl,zz⟩ ?_
    refine pt_then ?_
    obtain ⟨v8, hv8, h⟩ := zn h
    obtain ⟨v9, hv9, h⟩ := zn h
    obtain ⟨v10, hv10, h⟩ := zn h
    obtain ⟨v11, hv11, h⟩ := zn h
    obtain ⟨v12, hv12, h⟩ := zn h
    refine zg hn (_::_::_::_::_::_::_::_::_::_::_::_::(38,.same (.slot 9))::(39,vi v7)::(40,.eref (.slot 9) (v8 * 1))::(41,vi v9)::(42,vi v10)::(43,.eref (.slot 9) (v11 * 1))::(9,.fl (.own 3) 1 (map (int .i64) v12))::[]) [0,1,2,3,4,5,6,7,8,9,10,11] [0,1,2,3,4,5,6,18,8,9,10] [zq [7] 12 38,zq [11] 13 39,zq [12,7,13] 14 40,zq [14,7] 15 41,zq [15] 16 42,zq [12,7,13] 17 43,⟨[17,16],[7],[18],[]⟩] [(_,_),(_,_),(_,_),(_,_),(_,_),(_,_),(_,_),(_,_),(_,_),(_,_),(_,_)] rfl ⟨z1 rfl,z1 rfl,zp rfl (op_ix _ _ _ _ _ _ _ _ underlying37 sz3 (by decide) rfl rfl rfl (ix_ok hv8).1 (map_lt (ix_ok hv8).2) rfl),zp rfl (op_load_e _ _ _ _ _ _ underlying3 rfl rfl rfl (map_get hv9)),zp rfl (oB rfl (ibind (f := int .i64) (Option.some.inj hv10))),zp rfl (op_ix _ _ _ _ _ _ _ _ underlying37 sz3 (by decide) rfl rfl rfl (ix_ok hv11).1 (map_lt (ix_ok hv11).2) rfl),zp rfl (op_store_e _ _ _ _ _ _ _ _ sz3 rfl rfl rfl (by decide) (map_lt (ix_ok hv11).2) ((map_set (f := int .i64) _ (ix_ok hv11).2).trans (congrArg (map _) (Option.some.inj hv12)))),zz⟩ ?_
    refine pt_inb ?_
    refine pt_then ?_
    obtain ⟨v13, hv13, h⟩ := zn h
    refine zg hn [_,_,_,_,_,_,_,_,_,_,_,(44,vi v13),(34,vi v13)] [0,1,2,3,4,5,6,7,8,9,10] [0,1,2,3,4,5,6,7,8,9,12] [zq [10] 11 44,⟨[11],[10],[12],[(.slot 34)]⟩] [(_,_),(_,_),(_,_),(_,_),(_,_),(_,_),(_,_),(_,_),(_,_),(_,_),(_,_)] rfl ⟨zp rfl (oB rfl (ibind (f := int .i64) (Option.some.inj hv13))),zp rfl (LOp.drop [_] (oM rfl)),zz⟩ ?_
    exact pt_next _ (zi h).symm rfl
   ·have h := cond_f hb27 h
    refine ht_exit ?_
    refine pt_x_then ?_
    refine pt_x_then ?_
    refine pt_x_in ?_
    refine pt_pick [0,1,2,3,4,5,6,7] (by kernel_rfl) (es' := [(_,_),(_,_),(_,_),(_,_),(_,_),(_,_),(_,_),(_,_)]) rfl ?_
    exact hl22 _ (ho24 _ (zi h).symm).symm
theorem ok_shrink_dynamicBlock (mx : Int) (l : (List T_Tok)) (r : (Option T_shrink_writer)) (h : Sh.shrink_dynamicBlock l = some r) : FnG Tryd.prog (GL mx) 36 [.fl .shr 3 (flatten (map T_Tok.enc l))] (.obox (Option.isSome r) 57 [.fl (.own 5) 1 (map (int .u8) (((Option.getD r (default : T_shrink_writer))).b)), .v (.int .i64 (((Option.getD r (default : T_shrink_writer))).n))]) := by
  unfold Sh.shrink_dynamicBlock at h
  refine fn_okG func36 rfl (zl rfl) rfl rfl fun g0 hn hio => ?_
  refine zgg hn [_,_,(2,.v (.pointer none))] [0,1] [0,1] [zq [] 2 2] [(_,_),(_,_)] rfl ⟨z2 rfl,zz⟩ ?_
  refine ht_seq ?_
  obtain ⟨v1, hv1, h⟩ := zn h
  refine zg hn [_,_,(12,.fl .shr 3 (flatten (map T_Tok.enc l))),(13,.tup [.fl (.own 3) 1 (map (int .i64) v1.1),.fl (.own 3) 1 (map (int .i64) v1.2.1),vi v1.2.2]),(11,.tup [.fl (.own 3) 1 (map (int .i64) v1.1),.fl (.own 3) 1 (map (int .i64) v1.2.1),vi v1.2.2]),(14,.fl (.own 3) 1 (map (int .i64) v1.1)),(11,.tup [.any,.fl (.own 3) 1 (map (int .i64) v1.2.1),vi v1.2.2]),(15,.fl (.own 3) 1 (map (int .i64) v1.2.1)),(11,.tup [.any,.any,vi v1.2.2]),(16,vi v1.2.2),(3,.fl (.own 3) 1 (map (int .i64) v1.1)),(4,.fl (.own 3) 1 (map (int .i64) v1.2.1)),(5,vi v1.2.2)] [0,1] [0,1,10,11] [zq [0] 2 12,zq [2] 3 13,⟨[],[3],[4],[(.slot 11)]⟩,⟨[],[4],[6,5],[(.slot 14)]⟩,⟨[],[6],[8,7],[(.slot 15)]⟩,zq [8] 9 16,⟨[],[5],[10],[(.slot 3)]⟩,⟨[],[7],[11],[(.slot 4)]⟩,zq [9] 12 5] [(_,_),(_,_),(_,_),(_,_)] rfl ⟨z1 rfl,zp rfl (op_call _ _ 62 _ _ rfl call62 rfl (ok_sym_Weights l _ hv1) rfl rfl),zp rfl (op_move_take _ _ _ _ rfl),zp rfl (op_extract_take _ _ _ _ _ rfl (zl rfl) rfl rfl (by decide) rfl),zp rfl (op_extract_take _ _ _ _ _ rfl (zl rfl) rfl rfl (by decide) rfl),zp rfl (oE rfl),zp rfl (op_assign_take _ _ _ _ rfl),zp rfl (op_assign_take _ _ _ _ rfl),z2 rfl,zz⟩ ?_
  refine pt_then (ht_seq ?_)
  obtain ⟨v2, hv2, h⟩ := zn h
  refine zg hn [_,_,_,_,(18,.fl (.own 3) 1 (map (int .i64) v1.1)),(19,.tup [.fl (.own 3) 1 (map (int .i64) v2.1),vi v2.2]),(17,.tup [.fl (.own 3) 1 (map (int .i64) v2.1),vi v2.2]),(20,.fl (.own 3) 1 (map (int .i64) v2.1)),(17,.tup [.any,vi v2.2]),(21,vi v2.2),(6,.fl (.own 3) 1 (map (int .i64) v2.1)),(7,vi v2.2)] [0,1,2,3] [0,1,3,10] [⟨[],[2],[4],[(.slot 18)]⟩,zq [4] 5 19,⟨[],[5],[6],[(.slot 17)]⟩,⟨[],[6],[8,7],[(.slot 20)]⟩,zq [8] 9 21,⟨[],[7],[10],[(.slot 6)]⟩,zq [9] 11 7] [(_,_),(_,_),(_,_),(_,_)] rfl ⟨zp rfl (op_move_take _ _ _ _ rfl),zp rfl (op_call _ _ 63 _ _ rfl call63 rfl (ok_tree_Lengths v1.1 15 _ hv2) rfl rfl),zp rfl (op_move_take _ _ _ _ rfl),zp rfl (op_extract_take _ _ _ _ _ rfl (zl rfl) rfl rfl (by decide) rfl),zp rfl (oE rfl),zp rfl (op_assign_take _ _ _ _ rfl),z2 rfl,zz⟩ ?_
  refine pt_then (ht_seq ?_)
  obtain ⟨v3, hv3, h⟩ := zn h
  refine zg hn [_,_,_,_,(23,.fl (.own 3) 1 (map (int .i64) v1.2.1)),(24,.tup [.fl (.own 3) 1 (map (int .i64) v3.1),vi v3.2]),(22,.tup [.fl (.own 3) 1 (map (int .i64) v3.1),vi v3.2]),(25,.fl (.own 3) 1 (map (int .i64) v3.1)),(22,.tup [.any,vi v3.2]),(26,vi v3.2),(8,.fl (.own 3) 1 (map (int .i64) v3.1)),(9,vi v3.2)] [0,1,2,3] [0,1,3,10] [⟨[],[2],[4],[(.slot 23)]⟩,zq [4] 5 24,⟨[],[5],[6],[(.slot 22)]⟩,⟨[],[6],[8,7],[(.slot 25)]⟩,zq [8] 9 26,⟨[],[7],[10],[(.slot 8)]⟩,zq [9] 11 9] [(_,_),(_,_),(_,_),(_,_)] rfl ⟨zp rfl (op_move_take _ _ _ _ rfl),zp rfl (op_call _ _ 63 _ _ rfl call63 rfl (ok_tree_Lengths v1.2.1 15 _ hv3) rfl rfl),zp rfl (op_move_take _ _ _ _ rfl),zp rfl (op_extract_take _ _ _ _ _ rfl (zl rfl) rfl rfl (by decide) rfl),zp rfl (oE rfl),zp rfl (op_assign_take _ _ _ _ rfl),z2 rfl,zz⟩ ?_
  refine pt_then (ht_seq ?_)
  obtain ⟨v4, hv4, h⟩ := zn h
  refine zg hn [_,_,_,_,(27,.obox (Option.isSome v4) 57 [.fl (.own 5) 1 (map (int .u8) (((Option.getD v4 (default : T_shrink_writer))).b)),vi (((Option.getD v4 (default : T_shrink_writer))).n)]),(10,.obox (Option.isSome v4) 57 [.fl (.own 5) 1 (map (int .u8) (((Option.getD v4 (default : T_shrink_writer))).b)),vi (((Option.getD v4 (default : T_shrink_writer))).n)])] [0,1,2,3] [0,1,2,3,5] [zq [] 4 27,⟨[],[4],[5],[(.slot 10)]⟩] [(_,_),(_,_),(_,_),(_,_),(_,_)] rfl ⟨zp rfl (op_call _ _ 54 _ _ rfl call54 rfl (ok_shrink_newBlock 2 _ hv4) rfl rfl),zp rfl (op_assign_take _ _ _ _ rfl),zz⟩ ?_
  refine pt_ob (d := default) (f := fun (v5 : T_shrink_writer) => [.fl (.own 5) 1 (map (int .u8) v5.b), .v (.int .i64 v5.n)]) 4 2 10 57 h (es1 := fun v5 => [(0, .fl .shr 3 (flatten (map T_Tok.enc l))), (42, .glob (GL mx)), (6, .fl (.own 3) 1 (map (int .i64) v2.1)), (8, .fl (.own 3) 1 (map (int .i64) v3.1)), (10, .box 57 [.fl (.own 5) 1 (map (int .u8) v5.b), .v (.int .i64 v5.n)])]) (es0 := [(0, .fl .shr 3 (flatten (map T_Tok.enc l))), (42, .glob (GL mx)), (6, .fl (.own 3) 1 (map (int .i64) v2.1)), (8, .fl (.own 3) 1 (map (int .i64) v3.1)), (10, .v (.pointer none))]) rfl (fun _ => rfl) (by kernel_rfl) (fun _ => rfl) (fun _ => rfl) rfl (fun v5 hv6 h => ?_) (fun hv6 h => ?_)
  ·refine pt_then (ht_seq ?_)
   refine ht_frz 2 hio (es' := [(0, .fl .shr 3 (flatten (map T_Tok.enc l))), (42, .glob (GL mx)), (6, .fl .ro 1 (map (int .i64) v2.1)), (8, .fl (.own 3) 1 (map (int .i64) v3.1)), (10, .box 57 [.fl (.own 5) 1 (map (int .u8) v5.b), .v (.int .i64 v5.n)])]) rfl ?_
   refine ht_frz 3 hio (es' := [(0, .fl .shr 3 (flatten (map T_Tok.enc l))), (42, .glob (GL mx)), (6, .fl .ro 1 (map (int .i64) v2.1)), (8, .fl .ro 1 (map (int .i64) v3.1)), (10, .box 57 [.fl (.own 5) 1 (map (int .u8) v5.b), .v (.int .i64 v5.n)])]) rfl ?_
   obtain ⟨v7, hv7, h⟩ := zn h
   obtain ⟨v8, hv8, h⟩ := zn h
   obtain ⟨v9, hv9, h⟩ := zn h
   refine zg hn [_,_,_,_,_,(28,.ptr 10 0),(29,.fl .ro 1 (map (int .i64) v2.1)),(30,.fl .ro 1 (map (int .i64) v7)),(31,.fl .ro 1 (map (int .i64) v3.1)),(32,.fl .ro 1 (map (int .i64) v8)),(33,.tup []),(10,.box 57 [.fl (.own 5) 1 (map (int .u8) v9.b),vi v9.n])] [0,1,2,3,4] [0,1,2,3,11] [zq [4] 5 28,zq [2] 6 29,zq [6] 7 30,zq [3] 8 31,zq [8] 9 32,⟨[5,7,9,1],[4],[11,10],[(.slot 33),(.cell 10 0),(.cell 10 1)]⟩] [(_,_),(_,_),(_,_),(_,_),(_,_)] rfl ⟨z1 rfl,z1 rfl,zp rfl (op_callR _ _ 65 _ _ rfl call65 rfl (ok_shrink_trim_ro v2.1 257 _ hv7) rfl rfl),z1 rfl,zp rfl (op_callR _ _ 65 _ _ rfl call65 rfl (ok_shrink_trim_ro v3.1 1 _ hv8) rfl rfl),zp rfl (op_callPSG _ _ _ _ 33 42 64 [.tmp 28] [.tmp 30, .tmp 32] _ _ _ rfl call64 rfl rfl rfl rfl (fun _ h => h) (ok_shrink_writer_putLengths mx v5 v7 v8 _ hv9) (zl rfl) rfl rfl rfl rfl rfl rfl rfl),zz⟩ ?_
   refine pt_then (ht_seq ?_)
   obtain ⟨v10, hv10, h⟩ := zn h
   obtain ⟨v11, hv11, h⟩ := zn h
   obtain ⟨v12, hv12, h⟩ := zn h
   refine zg hn [_,_,_,_,_,(34,.ptr 10 0),(35,.fl .shr 3 (flatten (map T_Tok.enc l))),(36,.fl .ro 1 (map (int .i64) v2.1)),(37,.agg [.fl .ro 1 (map (int .i64) v10.lengths),.fl .ro 1 (map (int .i64) v10.codes)]),(38,.fl .ro 1 (map (int .i64) v3.1)),(39,.agg [.fl .ro 1 (map (int .i64) v11.lengths),.fl .ro 1 (map (int .i64) v11.codes)]),(40,.tup []),(10,.box 57 [.fl (.own 5) 1 (map (int .u8) v12.b),vi v12.n])] [0,1,2,3,4] [1,12] [zq [4] 5 34,zq [0] 6 35,zq [2] 7 36,zq [7] 8 37,zq [3] 9 38,zq [9] 10 39,⟨[5,6,8,10],[4],[12,11],[(.slot 40),(.cell 10 0),(.cell 10 1)]⟩] [(_,_),(_,_)] rfl ⟨z1 rfl,z1 rfl,z1 rfl,zp rfl (op_callR _ _ 61 _ _ rfl call61 rfl (ok_shrink_newCode_ro v2.1 _ hv10) rfl rfl),z1 rfl,zp rfl (op_callR _ _ 61 _ _ rfl call61 rfl (ok_shrink_newCode_ro v3.1 _ hv11) rfl rfl),zp rfl (op_callP _ _ _ _ 40 60 [.tmp 34] [.tmp 35, .tmp 37, .tmp 39] _ _ _ rfl call60 rfl rfl rfl (ok_shrink_writer_putTokens v9 l v10 v11 _ hv12) (zl rfl) rfl rfl rfl rfl rfl rfl rfl rfl),zz⟩ ?_
   refine pt_then ?_
   refine zgg hn [_,_,(41,.box 57 [.fl (.own 5) 1 (map (int .u8) v12.b),vi v12.n]),(2,.box 57 [.fl (.own 5) 1 (map (int .u8) v12.b),vi v12.n])] [0,1] [0,3] [⟨[],[1],[2],[(.slot 41)]⟩,⟨[],[2],[3],[(.slot 2)]⟩] [(_,_),(_,_)] rfl ⟨zp rfl (op_move_take _ _ _ _ rfl),zp rfl (op_assign_take _ _ _ _ rfl),zz⟩ ?_
   refine ht_ret ?_
   refine pt_pick [1] (by kernel_rfl) (es' := [(_,_)]) rfl ?_
   refine pt_sub (fs := [(2,.obox true 57 [.fl (.own 5) 1 (map (int .u8) v12.b),vi v12.n])]) (.sub _ (sub_ob_box 57 (subs_refl _)) rfl .nil) ?_
   obtain rfl := zi h
   exact pt_ret hio rfl (.tmp _ _ .nil) rfl rfl
  ·cases h
theorem ok_shrink_Dynamic (mx : Int) (b : (List Int)) (r : ((List Int) × Int)) (h : Sh.shrink_Dynamic b = some r) : FnG Tryd.prog (GL mx) 15 [.fl .shr 1 (map (int .u8) b)] (.tup [.fl (.own 5) 1 (map (int .u8) r.1), .v (.int .i64 r.2)]) := by
  unfold Sh.shrink_Dynamic at h
  refine fn_okG func15 rfl (zl rfl) rfl rfl fun g0 hn hio => ?_
  refine zgg hn [_,_,(2,vz),(3,vi 0)] [0,1] [0,1] [zq [] 2 2,zq [] 3 3] [(_,_),(_,_)] rfl ⟨z2 rfl,z2 rfl,zz⟩ ?_
  refine ht_seq ?_
  obtain ⟨v1, hv1, h⟩ := zn h
  refine zg hn [_,_,(7,fb b),(8,.tup [.fl (.own 53) 3 (flatten (map T_Tok.enc v1.1)),vi v1.2]),(6,.tup [.fl (.own 53) 3 (flatten (map T_Tok.enc v1.1)),vi v1.2]),(9,.fl (.own 53) 3 (flatten (map T_Tok.enc v1.1))),(6,.tup [.any,vi v1.2]),(10,vi v1.2),(4,.fl (.own 53) 3 (flatten (map T_Tok.enc v1.1))),(5,vi v1.2)] [0,1] [1,8,9] [zq [0] 2 7,zq [2] 3 8,⟨[],[3],[4],[(.slot 6)]⟩,⟨[],[4],[6,5],[(.slot 9)]⟩,zq [6] 7 10,⟨[],[5],[8],[(.slot 4)]⟩,zq [7] 9 5] [(_,_),(_,_),(_,_)] rfl ⟨z1 rfl,zp rfl (op_call _ _ 34 _ _ rfl call34 rfl (ok_match_Tokens b _ hv1) rfl rfl),zp rfl (op_move_take _ _ _ _ rfl),zp rfl (op_extract_take _ _ _ _ _ rfl (zl rfl) rfl rfl (by decide) rfl),zp rfl (oE rfl),zp rfl (op_assign_take _ _ _ _ rfl),z2 rfl,zz⟩ ?_
  refine pt_then (ht_seq ?_)
  refine zgg hn [_,_,_,(11,vi v1.2),(12,vb (v1.2 != 0))] [0,1,2] [0,1,2,4] [zq [2] 3 11,zq [3] 4 12] [(_,_),(_,_),(_,_),(_,_)] rfl ⟨z1 rfl,z4 rfl rfl,zz⟩ ?_
  refine ht_cond _ rfl (fun hb2 => ?_) (fun hb2 => ?_)
  ·have h := cond_t hb2 h
   refine zgg hn [_,_,_,_,(13,vi v1.2),(2,vz),(3,vi v1.2)] [0,1,2,3] [0,5,6] [zq [2] 4 13,zq [] 5 2,zq [4] 6 3] [(_,_),(_,_),(_,_)] rfl ⟨z1 rfl,z2 rfl,z2 rfl,zz⟩ ?_
   refine ht_ret ?_
   refine pt_pick [1,2] (by kernel_rfl) (es' := [(_,_),(_,_)]) rfl ?_
   refine pt_sub (fs := [(2,.fl (.own 5) 1 (map (int .u8) [])),(3,vi v1.2)]) (.sub _ (sub_nil 5 1) rfl (.same _ .nil)) ?_
   refine pt_r_then ?_
   obtain rfl := zi h
   exact pt_ret hio rfl (.tmp _ _ (.tmp _ _ .nil)) rfl rfl
  ·have h := cond_f hb2 h
   refine ht_skip ?_
   refine pt_then (ht_seq ?_)
   obtain ⟨v3, hv3, h⟩ := zn h
   obtain ⟨v4, hv4, h⟩ := zn h
   refine zg hn [_,_,_,_,(14,.fl (.own 53) 3 (flatten (map T_Tok.enc v1.1))),(15,.obox (Option.isSome v3) 57 [.fl (.own 5) 1 (map (int .u8) (((Option.getD v3 (default : T_shrink_writer))).b)),vi (((Option.getD v3 (default : T_shrink_writer))).n)]),(16,.ptr 15 0),(15,.box 57 [.fl (.own 5) 1 (map (int .u8) v4.b),vi v4.n]),(17,.ptr 15 0),(18,.same (.cell 15 0)),(2,.fl (.own 5) 1 (map (int .u8) v4.b)),(15,.box 57 [.any,vi v4.n]),(3,vi 0)] [0,1,2,3] [0,10,12] [⟨[],[1],[4],[(.slot 14)]⟩,zq [4,0] 5 15,⟨[],[5],[7,6],[(.slot 16),(.cell 15 0),(.cell 15 1)]⟩,zq [6,7] 8 17,zq [8,7] 9 18,⟨[9],[7],[11,10],[(.slot 2)]⟩,zq [] 12 3] [(_,_),(_,_),(_,_)] rfl ⟨zp rfl (op_move_take _ _ _ _ rfl),zp rfl (op_callG _ _ 19 36 _ _ rfl call36 rfl rfl (fun _ h => h) (ok_shrink_dynamicBlock mx v1.1 _ hv3) rfl rfl),zp rfl (op_nilCheck_ob _ 16 15 2 (by rw [hv4]; rfl) (by rw [hv4]; rfl) rfl (by decide) rfl rfl),zp rfl (oF underlying57 rfl sz22),zp rfl (oL underlying22 rfl),zp rfl (op_assign_cell _ 2 15 0 rfl rfl (zl rfl) rfl (by decide) rfl),z2 rfl,zz⟩ ?_
   refine pt_then (ht_ret ?_)
   refine pt_pick [1,2] (by kernel_rfl) (es' := [(_,_),(_,_)]) rfl ?_
   obtain rfl := zi h
   exact pt_ret hio rfl (.tmp _ _ (.tmp _ _ .nil)) rfl rfl
theorem ok_wherrykeep_Bytes (a : (List Int)) (b : (List Int)) (r : Bool) (h : Sh.wherrykeep_Bytes a b = some r) : FnOK Tryd.prog 17 [.fl .shr 1 (map (int .u8) a), .fl .shr 1 (map (int .u8) b)] (.v (.bool r)) := by
  unfold Sh.wherrykeep_Bytes at h
  refine fn_ok func17 rfl (zl rfl) rfl rfl fun g0 hn hio => ?_
  refine zgg hn [_,_,(4,vb false)] [0,1] [0,1] [zq [] 2 4] [(_,_),(_,_)] rfl ⟨z2 rfl,zz⟩ ?_
  refine ht_seq ?_
  refine zgg hn [_,_,(6,fb a),(7,vi (a.length : Int)),(8,fb b),(9,vi (b.length : Int)),(10,vb ((a.length : Int) != (b.length : Int)))] [0,1] [0,1,6] [zq [0] 2 6,zq [2] 3 7,zq [1] 4 8,zq [4] 5 9,zq [3,5] 6 10] [(_,_),(_,_),(_,_)] rfl ⟨z1 rfl,zp rfl (op_len_fl _ _ _ underlying22 rfl (by decide) (map_len _)),z1 rfl,zp rfl (op_len_fl _ _ _ underlying22 rfl (by decide) (map_len _)),z4 rfl rfl,zz⟩ ?_
  refine ht_cond _ rfl (fun hb1 => ?_) (fun hb1 => ?_)
  ·have h := cond_t hb1 h
   refine zgg hn [_,_,_,(4,vb false)] [0,1,2] [3] [zq [] 3 4] [(_,_)] rfl ⟨z2 rfl,zz⟩ ?_
   refine ht_ret ?_
   refine pt_r_then ?_
   obtain rfl := zi h
   exact pt_ret hio rfl (.tmp _ _ .nil) rfl rfl
  ·have h := cond_f hb1 h
   refine ht_skip ?_
   refine pt_then (ht_seq ?_)
   refine zgg hn [_,_,_,(5,vi 0)] [0,1,2] [0,1,3] [zq [] 3 5] [(_,_),(_,_),(_,_)] rfl ⟨z2 rfl,zz⟩ ?_
   refine ht_loopS h (fun (s12 : Int) => [(0,fb a),(1,fb b),(5,vi s12)]) (fun (() : Unit) => []) ?_ ?_
   ·rintro ⟨⟩ h
    refine pt_then ?_
    refine zgg hn [(4,vb true)] [] [0] [zq [] 0 4] [(_,_)] rfl ⟨z2 rfl,zz⟩ ?_
    refine ht_ret ?_
    obtain rfl := zi h
    exact pt_ret hio rfl (.tmp _ _ .nil) rfl rfl
   ·rintro u15 hl16 hr17 s12 rr20 h ho18
    refine ht_seq ?_
    refine zgg hn [_,_,_,(11,vi s12),(12,fb a),(13,vi (a.length : Int)),(14,vb (decide (s12 < (a.length : Int))))] [0,1,2] [0,1,2,6] [zq [2] 3 11,zq [0] 4 12,zq [4] 5 13,zq [3,5] 6 14] [(_,_),(_,_),(_,_),(_,_)] rfl ⟨z1 rfl,z1 rfl,zp rfl (op_len_fl _ _ _ underlying22 rfl (by decide) (map_len _)),z4 rfl rfl,zz⟩ ?_
    refine ht_cond _ rfl (fun hb21 => ?_) (fun hb21 => ?_)
    ·have h := cond_t hb21 h
     refine ht_skip ?_
     refine pt_then (ht_seq ?_)
     refine ht_block ?_
     refine ht_seq ?_
     obtain ⟨v3, hv3, h⟩ := zn h
     obtain ⟨v4, hv4, h⟩ := zn h
     obtain ⟨v5, hv5, h⟩ := zn h
     obtain ⟨v6, hv6, h⟩ := zn h
     refine ht_anyR (by kernel_rfl) hn (El := [_,_,_,_,(17,fb a),(18,vi s12),(19,.eref (.slot 17) (v3 * 1)),(20,.v (.int .u8 v4)),(21,fb b),(22,vi s12),(23,.eref (.slot 21) (v5 * 1)),(24,.v (.int .u8 v6)),(25,vb (v4 != v6))]) (init := [0,1,2,3]) (fin := [0,1,2,12]) (sps := [zq [0] 4 17,zq [2] 5 18,zq [4,5] 6 19,zq [6,4] 7 20,zq [1] 8 21,zq [2] 9 22,zq [8,9] 10 23,zq [10,8] 11 24,zq [7,11] 12 25]) (es' := [(_,_),(_,_),(_,_),(25,vb (v4 != v6))]) (by kernel_rfl) rfl rfl ⟨z1 rfl,z1 rfl,zp rfl (op_ix _ _ _ _ _ _ _ _ underlying22 sz5 (by decide) rfl rfl rfl (ix_ok hv3).1 (map_lt (ix_ok hv3).2) rfl),zp rfl (op_load_e _ _ _ _ _ _ underlying5 rfl rfl rfl (map_get hv4)),z1 rfl,z1 rfl,zp rfl (op_ix _ _ _ _ _ _ _ _ underlying22 sz5 (by decide) rfl rfl rfl (ix_ok hv5).1 (map_lt (ix_ok hv5).2) rfl),zp rfl (op_load_e _ _ _ _ _ _ underlying5 rfl rfl rfl (map_get hv6)),z4 rfl rfl,zz⟩ ?_
     refine pt_then ?_
     refine ht_cond _ rfl (fun hb22 => ?_) (fun hb22 => ?_)
     ·have h := cond_t hb22 h
      refine zgg hn [_,_,_,_,(4,vb false)] [0,1,2,3] [4] [zq [] 4 4] [(_,_)] rfl ⟨z2 rfl,zz⟩ ?_
      refine ht_ret ?_
      refine pt_r_in ?_
      refine pt_r_then ?_
      refine pt_r_then ?_
      refine pt_r_in ?_
      refine pt_r_then ?_
      have h := hr17 _ (ho18 _ (zi h).symm).symm
      obtain rfl := zi h
      exact pt_ret hio rfl (.tmp _ _ .nil) rfl rfl
     ·have h := cond_f hb22 h
      refine ht_skip ?_
      refine pt_inb ?_
      refine pt_then ?_
      obtain ⟨v8, hv8, h⟩ := zn h
      refine zg hn [_,_,_,_,(15,vi s12),(16,vi v8),(5,vi v8)] [0,1,2,3] [0,1,6] [zq [2] 4 15,zq [4] 5 16,⟨[5],[2],[6],[(.slot 5)]⟩] [(_,_),(_,_),(_,_)] rfl ⟨z1 rfl,zp rfl (oB rfl (ibind (f := int .i64) (Option.some.inj hv8))),zp rfl (LOp.drop [_] (op_assign _ _ _ _ rfl rfl)),zz⟩ ?_
      exact pt_next _ (zi h).symm rfl
    ·have h := cond_f hb21 h
     refine ht_exit ?_
     refine pt_x_then ?_
     refine pt_x_then ?_
     refine pt_x_in ?_
     refine pt_pick [] (by kernel_rfl) (es' := []) rfl ?_
     exact hl16 _ (ho18 _ (zi h).symm).symm
theorem ok_shrink_Shrink (mx : Int) (b : (List Int)) (r : ((List Int) × Int)) (h : Sh.shrink_Shrink b = some r) : FnG Tryd.prog (GL mx) 16 [.fl .shr 1 (map (int .u8) b)] (.tup [.fl (.own 5) 1 (map (int .u8) r.1), .v (.int .i64 r.2)]) := by
  unfold Sh.shrink_Shrink at h
  obtain ⟨v1, hv1, h⟩ := zn h
  have hT := (FnOK.toG (gl := GL mx) (ok_match_Tokens b v1 hv1))
  by_cases e : v1.2 = 0
  · rw [show (v1.2 != 0) = false by simp [e], cond_false] at h
    rw [e] at hT
    obtain ⟨v2, hv2, h⟩ := zn h
    obtain ⟨v3, hv3, h⟩ := zn h
    obtain ⟨v4, hv4, h⟩ := zn h
    cases v2 with
    | none => cases h
    | some s =>
      cases v3 with
      | none => cases h
      | some f =>
        cases v4 with
        | none => cases h
        | some d =>
          have hr : r = (_, 0) := (Option.some.inj (show some _ = some r from h)).symm
          subst hr
          have hq := shr_fn (gl := GL mx) Tryd.shr_walk hT (FnOK.toG (gl := GL mx) (ok_shrink_storedBlock b _ hv2)) (FnOK.toG (gl := GL mx) (ok_shrink_fixedBlock _ _ hv3)) (ok_shrink_dynamicBlock mx _ _ hv4)
          have hm : ∀ (p : Prop) [Decidable p] (x y : List Int), (if p then map (int .u8) x else map (int .u8) y) = map (int .u8) (if p then x else y) := by intro p _ x y; split <;> rfl
          simp only [Option.getD_some] at hq
          rw [hm, hm] at hq
          exact hq
  · rw [show (v1.2 != 0) = true by simp [e], cond_true] at h
    have hr : r = _ := (zi h).symm
    subst hr
    exact shr_fnE (gl := GL mx) Tryd.shr_walk e hT
theorem ok_wherrykeep_Ints (a : (List Int)) (b : (List Int)) (r : Bool) (h : Sh.wherrykeep_Ints a b = some r) : FnOK Tryd.prog 26 [.fl .shr 1 (map (int .i64) a), .fl .shr 1 (map (int .i64) b)] (.v (.bool r)) := by
  unfold Sh.wherrykeep_Ints at h
  refine fn_ok func26 rfl (zl rfl) rfl rfl fun g0 hn hio => ?_
  refine zgg hn [_,_,(4,vb false)] [0,1] [0,1] [zq [] 2 4] [(_,_),(_,_)] rfl ⟨z2 rfl,zz⟩ ?_
  refine ht_seq ?_
  refine zgg hn [_,_,(6,fi a),(7,vi (a.length : Int)),(8,fi b),(9,vi (b.length : Int)),(10,vb ((a.length : Int) != (b.length : Int)))] [0,1] [0,1,6] [zq [0] 2 6,zq [2] 3 7,zq [1] 4 8,zq [4] 5 9,zq [3,5] 6 10] [(_,_),(_,_),(_,_)] rfl ⟨z1 rfl,zp rfl (op_len_fl _ _ _ underlying37 rfl (by decide) (map_len _)),z1 rfl,zp rfl (op_len_fl _ _ _ underlying37 rfl (by decide) (map_len _)),z4 rfl rfl,zz⟩ ?_
  refine ht_cond _ rfl (fun hb1 => ?_) (fun hb1 => ?_)
  ·have h := cond_t hb1 h
   refine zgg hn [_,_,_,(4,vb false)] [0,1,2] [3] [zq [] 3 4] [(_,_)] rfl ⟨z2 rfl,zz⟩ ?_
   refine ht_ret ?_
   refine pt_r_then ?_
   obtain rfl := zi h
   exact pt_ret hio rfl (.tmp _ _ .nil) rfl rfl
  ·have h := cond_f hb1 h
   refine ht_skip ?_
   refine pt_then (ht_seq ?_)
   refine zgg hn [_,_,_,(5,vi 0)] [0,1,2] [0,1,3] [zq [] 3 5] [(_,_),(_,_),(_,_)] rfl ⟨z2 rfl,zz⟩ ?_
   refine ht_loopS h (fun (s12 : Int) => [(0,fi a),(1,fi b),(5,vi s12)]) (fun (() : Unit) => []) ?_ ?_
   ·rintro ⟨⟩ h
    refine pt_then ?_
    refine zgg hn [(4,vb true)] [] [0] [zq [] 0 4] [(_,_)] rfl ⟨z2 rfl,zz⟩ ?_
    refine ht_ret ?_
    obtain rfl := zi h
    exact pt_ret hio rfl (.tmp _ _ .nil) rfl rfl
   ·rintro u15 hl16 hr17 s12 rr20 h ho18
    refine ht_seq ?_
    refine zgg hn [_,_,_,(11,vi s12),(12,fi a),(13,vi (a.length : Int)),(14,vb (decide (s12 < (a.length : Int))))] [0,1,2] [0,1,2,6] [zq [2] 3 11,zq [0] 4 12,zq [4] 5 13,zq [3,5] 6 14] [(_,_),(_,_),(_,_),(_,_)] rfl ⟨z1 rfl,z1 rfl,zp rfl (op_len_fl _ _ _ underlying37 rfl (by decide) (map_len _)),z4 rfl rfl,zz⟩ ?_
    refine ht_cond _ rfl (fun hb21 => ?_) (fun hb21 => ?_)
    ·have h := cond_t hb21 h
     refine ht_skip ?_
     refine pt_then (ht_seq ?_)
     refine ht_block ?_
     refine ht_seq ?_
     obtain ⟨v3, hv3, h⟩ := zn h
     obtain ⟨v4, hv4, h⟩ := zn h
     obtain ⟨v5, hv5, h⟩ := zn h
     obtain ⟨v6, hv6, h⟩ := zn h
     refine ht_anyR (by kernel_rfl) hn (El := [_,_,_,_,(17,fi a),(18,vi s12),(19,.eref (.slot 17) (v3 * 1)),(20,vi v4),(21,fi b),(22,vi s12),(23,.eref (.slot 21) (v5 * 1)),(24,vi v6),(25,vb (v4 != v6))]) (init := [0,1,2,3]) (fin := [0,1,2,12]) (sps := [zq [0] 4 17,zq [2] 5 18,zq [4,5] 6 19,zq [6,4] 7 20,zq [1] 8 21,zq [2] 9 22,zq [8,9] 10 23,zq [10,8] 11 24,zq [7,11] 12 25]) (es' := [(_,_),(_,_),(_,_),(25,vb (v4 != v6))]) (by kernel_rfl) rfl rfl ⟨z1 rfl,z1 rfl,zp rfl (op_ix _ _ _ _ _ _ _ _ underlying37 sz3 (by decide) rfl rfl rfl (ix_ok hv3).1 (map_lt (ix_ok hv3).2) rfl),zp rfl (op_load_e _ _ _ _ _ _ underlying3 rfl rfl rfl (map_get hv4)),z1 rfl,z1 rfl,zp rfl (op_ix _ _ _ _ _ _ _ _ underlying37 sz3 (by decide) rfl rfl rfl (ix_ok hv5).1 (map_lt (ix_ok hv5).2) rfl),zp rfl (op_load_e _ _ _ _ _ _ underlying3 rfl rfl rfl (map_get hv6)),z4 rfl rfl,zz⟩ ?_
     refine pt_then ?_
     refine ht_cond _ rfl (fun hb22 => ?_) (fun hb22 => ?_)
     ·have h := cond_t hb22 h
      refine zgg hn [_,_,_,_,(4,vb false)] [0,1,2,3] [4] [zq [] 4 4] [(_,_)] rfl ⟨z2 rfl,zz⟩ ?_
      refine ht_ret ?_
      refine pt_r_in ?_
      refine pt_r_then ?_
      refine pt_r_then ?_
      refine pt_r_in ?_
      refine pt_r_then ?_
      have h := hr17 _ (ho18 _ (zi h).symm).symm
      obtain rfl := zi h
      exact pt_ret hio rfl (.tmp _ _ .nil) rfl rfl
     ·have h := cond_f hb22 h
      refine ht_skip ?_
      refine pt_inb ?_
      refine pt_then ?_
      obtain ⟨v8, hv8, h⟩ := zn h
      refine zg hn [_,_,_,_,(15,vi s12),(16,vi v8),(5,vi v8)] [0,1,2,3] [0,1,6] [zq [2] 4 15,zq [4] 5 16,⟨[5],[2],[6],[(.slot 5)]⟩] [(_,_),(_,_),(_,_)] rfl ⟨z1 rfl,zp rfl (oB rfl (ibind (f := int .i64) (Option.some.inj hv8))),zp rfl (LOp.drop [_] (op_assign _ _ _ _ rfl rfl)),zz⟩ ?_
      exact pt_next _ (zi h).symm rfl
    ·have h := cond_f hb21 h
     refine ht_exit ?_
     refine pt_x_then ?_
     refine pt_x_then ?_
     refine pt_x_in ?_
     refine pt_pick [] (by kernel_rfl) (es' := []) rfl ?_
     exact hl16 _ (ho18 _ (zi h).symm).symm
theorem ok_wherrylaw06_wakes (mx : Int) (r : Bool) (h : Sh.wherrylaw06_wakes  = some r) : FnG Tryd.prog (GL mx) 21 [] (.v (.bool r)) := by
  unfold Sh.wherrylaw06_wakes at h
  refine fn_okG func21 rfl (zl rfl) rfl rfl fun g0 hn hio => ?_
  refine zgg hn [_,(0,vb false)] [0] [0] [zq [] 1 0] [(_,_)] rfl ⟨z2 rfl,zz⟩ ?_
  refine ht_seq ?_
  obtain ⟨v1, hv1, h⟩ := zn h
  refine zg hn [_,(9,.tup [.fl (.own 5) 1 (map (int .u8) v1.1),vi v1.2]),(8,.tup [.fl (.own 5) 1 (map (int .u8) v1.1),vi v1.2]),(10,.fl (.own 5) 1 (map (int .u8) v1.1)),(8,.tup [.any,vi v1.2]),(11,vi v1.2),(1,.fl (.own 5) 1 (map (int .u8) v1.1)),(2,vi v1.2)] [0] [0,6,7] [zq [0] 1 9,⟨[],[1],[2],[(.slot 8)]⟩,⟨[],[2],[4,3],[(.slot 10)]⟩,zq [4] 5 11,⟨[],[3],[6],[(.slot 1)]⟩,zq [5] 7 2] [(_,_),(_,_),(_,_)] rfl ⟨zp rfl (op_callG _ _ 53 16 _ _ rfl call16 rfl rfl (fun _ h => h) ((ok_shrink_Shrink mx [] _ hv1).args (subs_cons (sub_nil_shr 1) (subs_nil))) rfl rfl),zp rfl (op_move_take _ _ _ _ rfl),zp rfl (op_extract_take _ _ _ _ _ rfl (zl rfl) rfl rfl (by decide) rfl),zp rfl (oE rfl),zp rfl (op_assign_take _ _ _ _ rfl),z2 rfl,zz⟩ ?_
  refine pt_then (ht_seq ?_)
  obtain ⟨v2, hv2, h⟩ := zn h
  refine zg hn [_,_,_,(13,.fl (.own 5) 1 (map (int .u8) [7])),(14,.tup [.fl (.own 5) 1 (map (int .u8) v2.1),vi v2.2]),(12,.tup [.fl (.own 5) 1 (map (int .u8) v2.1),vi v2.2]),(15,.fl (.own 5) 1 (map (int .u8) v2.1)),(12,.tup [.any,vi v2.2]),(16,vi v2.2),(3,.fl (.own 5) 1 (map (int .u8) v2.1)),(4,vi v2.2)] [0,1,2] [0,1,2,9,10] [zq [] 3 13,zq [3] 4 14,⟨[],[4],[5],[(.slot 12)]⟩,⟨[],[5],[7,6],[(.slot 15)]⟩,zq [7] 8 16,⟨[],[6],[9],[(.slot 3)]⟩,zq [8] 10 4] [(_,_),(_,_),(_,_),(_,_),(_,_)] rfl ⟨zp rfl (op_buildSlice _ _ 1 (.int .u8 0) (map (int .u8) [7]) [(0, .int .u8 7)] underlying22 sz5 zr5 (fun _ V w o a hv hes => by simp only [List.map_toArray, List.map_cons, List.map_nil]; try rfl) (litfill (by simp [Instr.fill, Value.cells]; rfl) (by simp [List.range, List.range.loop] <;> rfl)) (by simp [Value.oneCell']) rfl (by decide) (by decide) (by decide)),zp rfl (op_call _ _ 13 _ _ rfl call13 rfl (ok_shrink_Stored [7] _ hv2) rfl rfl),zp rfl (op_move_take _ _ _ _ rfl),zp rfl (op_extract_take _ _ _ _ _ rfl (zl rfl) rfl rfl (by decide) rfl),zp rfl (oE rfl),zp rfl (op_assign_take _ _ _ _ rfl),z2 rfl,zz⟩ ?_
  refine pt_then (ht_seq ?_)
  obtain ⟨v3, hv3, h⟩ := zn h
  refine zg hn (_::_::_::_::_::(18,.fl (.own 3) 1 (map (int .i64) [0,0,0,4]))::(19,.tup [.fl (.own 3) 1 (map (int .i64) v3.1),.fl (.own 3) 1 (map (int .i64) v3.2.1),vi v3.2.2])::(17,.tup [.fl (.own 3) 1 (map (int .i64) v3.1),.fl (.own 3) 1 (map (int .i64) v3.2.1),vi v3.2.2])::(20,.fl (.own 3) 1 (map (int .i64) v3.1))::(17,.tup [.any,.fl (.own 3) 1 (map (int .i64) v3.2.1),vi v3.2.2])::(21,.fl (.own 3) 1 (map (int .i64) v3.2.1))::(17,.tup [.any,.any,vi v3.2.2])::(22,vi v3.2.2)::(5,.fl (.own 3) 1 (map (int .i64) v3.1))::(6,.fl (.own 3) 1 (map (int .i64) v3.2.1))::(7,vi v3.2.2)::[]) [0,1,2,3,4] [0,1,2,3,4,13,14,15] [zq [] 5 18,zq [5] 6 19,⟨[],[6],[7],[(.slot 17)]⟩,⟨[],[7],[9,8],[(.slot 20)]⟩,⟨[],[9],[11,10],[(.slot 21)]⟩,zq [11] 12 22,⟨[],[8],[13],[(.slot 5)]⟩,⟨[],[10],[14],[(.slot 6)]⟩,zq [12] 15 7] [(_,_),(_,_),(_,_),(_,_),(_,_),(_,_),(_,_),(_,_)] rfl ⟨zp rfl (op_buildSlice _ _ 1 (.int .i64 0) (map (int .i64) [0, 0, 0, 4]) [(0, .int .i64 0), (1, .int .i64 0), (2, .int .i64 0), (3, .int .i64 4)] underlying37 sz3 zr3 (fun _ V w o a hv hes => by simp only [List.map_toArray, List.map_cons, List.map_nil]; try rfl) (litfill (by simp [Instr.fill, Value.cells]; rfl) (by simp [List.range, List.range.loop] <;> rfl)) (by simp [Value.oneCell']) rfl (by decide) (by decide) (by decide)),zp rfl (op_call _ _ 24 _ _ rfl call24 rfl (ok_shrink_Row [0, 0, 0, 4] _ hv3) rfl rfl),zp rfl (op_move_take _ _ _ _ rfl),zp rfl (op_extract_take _ _ _ _ _ rfl (zl rfl) rfl rfl (by decide) rfl),zp rfl (op_extract_take _ _ _ _ _ rfl (zl rfl) rfl rfl (by decide) rfl),zp rfl (oE rfl),zp rfl (op_assign_take _ _ _ _ rfl),zp rfl (op_assign_take _ _ _ _ rfl),z2 rfl,zz⟩ ?_
  refine pt_then (ht_seq ?_)
  refine ht_joinS h (fun (s8 : Bool) => [(53,.glob (GL mx)),(0,vb s8)]) ?_ ?_
  ·rintro s8 h
   refine pt_then (ht_ret ?_)
   refine pt_pick [1] (by kernel_rfl) (es' := [(_,_)]) rfl ?_
   obtain rfl := zi h
   exact pt_ret hio rfl (.tmp _ _ .nil) rfl rfl
  ·intro u9 h hl10 hr11
   refine cond_some h (fun hg4_2 h => ?_) (fun hg4_2 h => ?_)
   ·refine cond_some h (fun hg4_6 h => ?_) (fun hg4_6 h => ?_)
    ·refine cond_some h (fun hg4_10 h => ?_) (fun hg4_10 h => ?_)
     ·obtain ⟨v4, hv4, h⟩ := zn h
      refine cond_some h (fun hg4_15 h => ?_) (fun hg4_15 h => ?_)
      ·obtain ⟨v5, hv5, h⟩ := zn h
       refine cond_some h (fun hg4_20 h => ?_) (fun hg4_20 h => ?_)
       ·obtain ⟨v6, hv6, h⟩ := zn h
        refine cond_some h (fun hg4_25 h => ?_) (fun hg4_25 h => ?_)
        ·obtain ⟨v7, hv7, h⟩ := zn h
         refine zg hn (_::_::_::_::_::_::_::_::(23,vi v1.2)::(24,vb (v1.2 == 0))::(25,vb true)::(26,vi v2.2)::(27,vb (v2.2 == 0))::(28,vb (v2.2 == 0))::(29,vb true)::(30,vi v3.2.2)::(31,vb (v3.2.2 == 0))::(32,vb (v3.2.2 == 0))::(33,vb true)::(34,.fl (.own 5) 1 (map (int .u8) v1.1))::(35,.fl (.own 5) 1 (map (int .u8) [3,0]))::(36,vb v4)::(37,vb v4)::(38,vb true)::(39,.fl (.own 5) 1 (map (int .u8) v2.1))::(40,.fl (.own 5) 1 (map (int .u8) [1,1,0,254,255,7]))::(41,vb v5)::(42,vb v5)::(43,vb true)::(44,.fl (.own 3) 1 (map (int .i64) v3.1))::(45,.fl (.own 3) 1 (map (int .i64) [17,4]))::(46,vb v6)::(47,vb v6)::(48,vb true)::(49,.fl (.own 3) 1 (map (int .i64) v3.2.1))::(50,.fl (.own 3) 1 (map (int .i64) [0,0]))::(51,vb v7)::(52,vb v7)::(0,vb v7)::[]) [0,1,2,3,4,5,6,7] [0,38] (zq [2] 8 23::zq [8] 9 24::zq [9] 10 25::zq [10,4] 11 26::zq [10,11] 12 27::zq [10,12] 13 28::zq [13] 14 29::zq [14,7] 15 30::zq [14,15] 16 31::zq [14,16] 17 32::zq [17] 18 33::⟨[18],[1],[19],[(.slot 34)]⟩::zq [18] 20 35::zq [18,19,20] 21 36::zq [18,21] 22 37::zq [22] 23 38::⟨[23],[3],[24],[(.slot 39)]⟩::zq [23] 25 40::zq [23,24,25] 26 41::zq [23,26] 27 42::zq [27] 28 43::⟨[28],[5],[29],[(.slot 44)]⟩::zq [28] 30 45::zq [28,29,30] 31 46::zq [28,31] 32 47::zq [32] 33 48::⟨[33],[6],[34],[(.slot 49)]⟩::zq [33] 35 50::zq [33,34,35] 36 51::zq [33,36] 37 52::zq [37] 38 0::[]) [(_,_),(_,_)] rfl ⟨z1 rfl,z4 rfl rfl,z8 hg4_2 rfl,zr' rfl (oM rfl),zr' rfl (oB rfl rfl),z3 true rfl,z8 hg4_6 rfl,zr' rfl (oM rfl),zr' rfl (oB rfl rfl),z3 true rfl,z8 hg4_10 rfl,zr' rfl (op_move_take _ _ _ _ rfl),zr' rfl (op_buildSlice _ _ 1 (.int .u8 0) (map (int .u8) [3, 0]) [(0, .int .u8 3), (1, .int .u8 0)] underlying22 sz5 zr5 (fun _ V w o a hv hes => by simp only [List.map_toArray, List.map_cons, List.map_nil]; try rfl) (litfill (by simp [Instr.fill, Value.cells]; rfl) (by simp [List.range, List.range.loop] <;> rfl)) (by simp [Value.oneCell']) rfl (by decide) (by decide) (by decide)),zr' rfl (op_call _ _ 17 _ _ rfl call17 rfl (ok_wherrykeep_Bytes v1.1 [3, 0] _ hv4) rfl rfl),z3 true rfl,z8 hg4_15 rfl,zr' rfl (op_move_take _ _ _ _ rfl),zr' rfl (op_buildSlice _ _ 1 (.int .u8 0) (map (int .u8) [1, 1, 0, 254, 255, 7]) [(0, .int .u8 1), (1, .int .u8 1), (2, .int .u8 0), (3, .int .u8 254), (4, .int .u8 255), (5, .int .u8 7)] underlying22 sz5 zr5 (fun _ V w o a hv hes => by simp only [List.map_toArray, List.map_cons, List.map_nil]; try rfl) (litfill (by simp [Instr.fill, Value.cells]; rfl) (by simp [List.range, List.range.loop] <;> rfl)) (by simp [Value.oneCell']) rfl (by decide) (by decide) (by decide)),zr' rfl (op_call _ _ 17 _ _ rfl call17 rfl (ok_wherrykeep_Bytes v2.1 [1, 1, 0, 254, 255, 7] _ hv5) rfl rfl),z3 true rfl,z8 hg4_20 rfl,zr' rfl (op_move_take _ _ _ _ rfl),zr' rfl (op_buildSlice _ _ 1 (.int .i64 0) (map (int .i64) [17, 4]) [(0, .int .i64 17), (1, .int .i64 4)] underlying37 sz3 zr3 (fun _ V w o a hv hes => by simp only [List.map_toArray, List.map_cons, List.map_nil]; try rfl) (litfill (by simp [Instr.fill, Value.cells]; rfl) (by simp [List.range, List.range.loop] <;> rfl)) (by simp [Value.oneCell']) rfl (by decide) (by decide) (by decide)),zr' rfl (op_call _ _ 26 _ _ rfl call26 rfl (ok_wherrykeep_Ints v3.1 [17, 4] _ hv6) rfl rfl),z3 true rfl,z8 hg4_25 rfl,zr' rfl (op_move_take _ _ _ _ rfl),zr' rfl (op_buildSlice _ _ 1 (.int .i64 0) (map (int .i64) [0, 0]) [(0, .int .i64 0), (1, .int .i64 0)] underlying37 sz3 zr3 (fun _ V w o a hv hes => by simp only [List.map_toArray, List.map_cons, List.map_nil]; try rfl) (litfill (by simp [Instr.fill, Value.cells]; rfl) (by simp [List.range, List.range.loop] <;> rfl)) (by simp [Value.oneCell']) rfl (by decide) (by decide) (by decide)),zr' rfl (op_call _ _ 26 _ _ rfl call26 rfl (ok_wherrykeep_Ints v3.2.1 [0, 0] _ hv7) rfl rfl),z3 true rfl,z2 rfl,zz⟩ ?_
         exact hl10 _ (zi h).symm
        ·refine zg hn (_::_::_::_::_::_::_::_::(23,vi v1.2)::(24,vb (v1.2 == 0))::(25,vb true)::(26,vi v2.2)::(27,vb (v2.2 == 0))::(28,vb (v2.2 == 0))::(29,vb true)::(30,vi v3.2.2)::(31,vb (v3.2.2 == 0))::(32,vb (v3.2.2 == 0))::(33,vb true)::(34,.fl (.own 5) 1 (map (int .u8) v1.1))::(35,.fl (.own 5) 1 (map (int .u8) [3,0]))::(36,vb v4)::(37,vb v4)::(38,vb true)::(39,.fl (.own 5) 1 (map (int .u8) v2.1))::(40,.fl (.own 5) 1 (map (int .u8) [1,1,0,254,255,7]))::(41,vb v5)::(42,vb v5)::(43,vb true)::(44,.fl (.own 3) 1 (map (int .i64) v3.1))::(45,.fl (.own 3) 1 (map (int .i64) [17,4]))::(46,vb v6)::(47,vb v6)::(48,vb false)::(49,.v undef)::(50,.v undef)::(51,.v undef)::(52,vb false)::(0,vb false)::[]) [0,1,2,3,4,5,6,7] [0,38] (zq [2] 8 23::zq [8] 9 24::zq [9] 10 25::zq [10,4] 11 26::zq [10,11] 12 27::zq [10,12] 13 28::zq [13] 14 29::zq [14,7] 15 30::zq [14,15] 16 31::zq [14,16] 17 32::zq [17] 18 33::⟨[18],[1],[19],[(.slot 34)]⟩::zq [18] 20 35::zq [18,19,20] 21 36::zq [18,21] 22 37::zq [22] 23 38::⟨[23],[3],[24],[(.slot 39)]⟩::zq [23] 25 40::zq [23,24,25] 26 41::zq [23,26] 27 42::zq [27] 28 43::⟨[28],[5],[29],[(.slot 44)]⟩::zq [28] 30 45::zq [28,29,30] 31 46::zq [28,31] 32 47::zq [32] 33 48::zq [33] 34 49::zq [33] 35 50::zq [33] 36 51::zq [33] 37 52::zq [37] 38 0::[]) [(_,_),(_,_)] rfl ⟨z1 rfl,z4 rfl rfl,z8 hg4_2 rfl,zr' rfl (oM rfl),zr' rfl (oB rfl rfl),z3 true rfl,z8 hg4_6 rfl,zr' rfl (oM rfl),zr' rfl (oB rfl rfl),z3 true rfl,z8 hg4_10 rfl,zr' rfl (op_move_take _ _ _ _ rfl),zr' rfl (op_buildSlice _ _ 1 (.int .u8 0) (map (int .u8) [3, 0]) [(0, .int .u8 3), (1, .int .u8 0)] underlying22 sz5 zr5 (fun _ V w o a hv hes => by simp only [List.map_toArray, List.map_cons, List.map_nil]; try rfl) (litfill (by simp [Instr.fill, Value.cells]; rfl) (by simp [List.range, List.range.loop] <;> rfl)) (by simp [Value.oneCell']) rfl (by decide) (by decide) (by decide)),zr' rfl (op_call _ _ 17 _ _ rfl call17 rfl (ok_wherrykeep_Bytes v1.1 [3, 0] _ hv4) rfl rfl),z3 true rfl,z8 hg4_15 rfl,zr' rfl (op_move_take _ _ _ _ rfl),zr' rfl (op_buildSlice _ _ 1 (.int .u8 0) (map (int .u8) [1, 1, 0, 254, 255, 7]) [(0, .int .u8 1), (1, .int .u8 1), (2, .int .u8 0), (3, .int .u8 254), (4, .int .u8 255), (5, .int .u8 7)] underlying22 sz5 zr5 (fun _ V w o a hv hes => by simp only [List.map_toArray, List.map_cons, List.map_nil]; try rfl) (litfill (by simp [Instr.fill, Value.cells]; rfl) (by simp [List.range, List.range.loop] <;> rfl)) (by simp [Value.oneCell']) rfl (by decide) (by decide) (by decide)),zr' rfl (op_call _ _ 17 _ _ rfl call17 rfl (ok_wherrykeep_Bytes v2.1 [1, 1, 0, 254, 255, 7] _ hv5) rfl rfl),z3 true rfl,z8 hg4_20 rfl,zr' rfl (op_move_take _ _ _ _ rfl),zr' rfl (op_buildSlice _ _ 1 (.int .i64 0) (map (int .i64) [17, 4]) [(0, .int .i64 17), (1, .int .i64 4)] underlying37 sz3 zr3 (fun _ V w o a hv hes => by simp only [List.map_toArray, List.map_cons, List.map_nil]; try rfl) (litfill (by simp [Instr.fill, Value.cells]; rfl) (by simp [List.range, List.range.loop] <;> rfl)) (by simp [Value.oneCell']) rfl (by decide) (by decide) (by decide)),zr' rfl (op_call _ _ 26 _ _ rfl call26 rfl (ok_wherrykeep_Ints v3.1 [17, 4] _ hv6) rfl rfl),z3 true rfl,z8 hg4_25 rfl,zt rfl,zt rfl,zt rfl,z3 false rfl,z2 rfl,zz⟩ ?_
         exact hl10 _ (zi h).symm
       ·refine zg hn (_::_::_::_::_::_::_::_::(23,vi v1.2)::(24,vb (v1.2 == 0))::(25,vb true)::(26,vi v2.2)::(27,vb (v2.2 == 0))::(28,vb (v2.2 == 0))::(29,vb true)::(30,vi v3.2.2)::(31,vb (v3.2.2 == 0))::(32,vb (v3.2.2 == 0))::(33,vb true)::(34,.fl (.own 5) 1 (map (int .u8) v1.1))::(35,.fl (.own 5) 1 (map (int .u8) [3,0]))::(36,vb v4)::(37,vb v4)::(38,vb true)::(39,.fl (.own 5) 1 (map (int .u8) v2.1))::(40,.fl (.own 5) 1 (map (int .u8) [1,1,0,254,255,7]))::(41,vb v5)::(42,vb v5)::(43,vb false)::(44,.v undef)::(45,.v undef)::(46,.v undef)::(47,vb false)::(48,vb false)::(49,.v undef)::(50,.v undef)::(51,.v undef)::(52,vb false)::(0,vb false)::[]) [0,1,2,3,4,5,6,7] [0,38] (zq [2] 8 23::zq [8] 9 24::zq [9] 10 25::zq [10,4] 11 26::zq [10,11] 12 27::zq [10,12] 13 28::zq [13] 14 29::zq [14,7] 15 30::zq [14,15] 16 31::zq [14,16] 17 32::zq [17] 18 33::⟨[18],[1],[19],[(.slot 34)]⟩::zq [18] 20 35::zq [18,19,20] 21 36::zq [18,21] 22 37::zq [22] 23 38::⟨[23],[3],[24],[(.slot 39)]⟩::zq [23] 25 40::zq [23,24,25] 26 41::zq [23,26] 27 42::zq [27] 28 43::zq [28] 29 44::zq [28] 30 45::zq [28] 31 46::zq [28] 32 47::zq [32] 33 48::zq [33] 34 49::zq [33] 35 50::zq [33] 36 51::zq [33] 37 52::zq [37] 38 0::[]) [(_,_),(_,_)] rfl ⟨z1 rfl,z4 rfl rfl,z8 hg4_2 rfl,zr' rfl (oM rfl),zr' rfl (oB rfl rfl),z3 true rfl,z8 hg4_6 rfl,zr' rfl (oM rfl),zr' rfl (oB rfl rfl),z3 true rfl,z8 hg4_10 rfl,zr' rfl (op_move_take _ _ _ _ rfl),zr' rfl (op_buildSlice _ _ 1 (.int .u8 0) (map (int .u8) [3, 0]) [(0, .int .u8 3), (1, .int .u8 0)] underlying22 sz5 zr5 (fun _ V w o a hv hes => by simp only [List.map_toArray, List.map_cons, List.map_nil]; try rfl) (litfill (by simp [Instr.fill, Value.cells]; rfl) (by simp [List.range, List.range.loop] <;> rfl)) (by simp [Value.oneCell']) rfl (by decide) (by decide) (by decide)),zr' rfl (op_call _ _ 17 _ _ rfl call17 rfl (ok_wherrykeep_Bytes v1.1 [3, 0] _ hv4) rfl rfl),z3 true rfl,z8 hg4_15 rfl,zr' rfl (op_move_take _ _ _ _ rfl),zr' rfl (op_buildSlice _ _ 1 (.int .u8 0) (map (int .u8) [1, 1, 0, 254, 255, 7]) [(0, .int .u8 1), (1, .int .u8 1), (2, .int .u8 0), (3, .int .u8 254), (4, .int .u8 255), (5, .int .u8 7)] underlying22 sz5 zr5 (fun _ V w o a hv hes => by simp only [List.map_toArray, List.map_cons, List.map_nil]; try rfl) (litfill (by simp [Instr.fill, Value.cells]; rfl) (by simp [List.range, List.range.loop] <;> rfl)) (by simp [Value.oneCell']) rfl (by decide) (by decide) (by decide)),zr' rfl (op_call _ _ 17 _ _ rfl call17 rfl (ok_wherrykeep_Bytes v2.1 [1, 1, 0, 254, 255, 7] _ hv5) rfl rfl),z3 true rfl,z8 hg4_20 rfl,zt rfl,zt rfl,zt rfl,z3 false rfl,z1 rfl,zt rfl,zt rfl,zt rfl,z3 false rfl,z2 rfl,zz⟩ ?_
        exact hl10 _ (zi h).symm
      ·refine zg hn (_::_::_::_::_::_::_::_::(23,vi v1.2)::(24,vb (v1.2 == 0))::(25,vb true)::(26,vi v2.2)::(27,vb (v2.2 == 0))::(28,vb (v2.2 == 0))::(29,vb true)::(30,vi v3.2.2)::(31,vb (v3.2.2 == 0))::(32,vb (v3.2.2 == 0))::(33,vb true)::(34,.fl (.own 5) 1 (map (int .u8) v1.1))::(35,.fl (.own 5) 1 (map (int .u8) [3,0]))::(36,vb v4)::(37,vb v4)::(38,vb false)::(39,.v undef)::(40,.v undef)::(41,.v undef)::(42,vb false)::(43,vb false)::(44,.v undef)::(45,.v undef)::(46,.v undef)::(47,vb false)::(48,vb false)::(49,.v undef)::(50,.v undef)::(51,.v undef)::(52,vb false)::(0,vb false)::[]) [0,1,2,3,4,5,6,7] [0,38] (zq [2] 8 23::zq [8] 9 24::zq [9] 10 25::zq [10,4] 11 26::zq [10,11] 12 27::zq [10,12] 13 28::zq [13] 14 29::zq [14,7] 15 30::zq [14,15] 16 31::zq [14,16] 17 32::zq [17] 18 33::⟨[18],[1],[19],[(.slot 34)]⟩::zq [18] 20 35::zq [18,19,20] 21 36::zq [18,21] 22 37::zq [22] 23 38::zq [23] 24 39::zq [23] 25 40::zq [23] 26 41::zq [23] 27 42::zq [27] 28 43::zq [28] 29 44::zq [28] 30 45::zq [28] 31 46::zq [28] 32 47::zq [32] 33 48::zq [33] 34 49::zq [33] 35 50::zq [33] 36 51::zq [33] 37 52::zq [37] 38 0::[]) [(_,_),(_,_)] rfl ⟨z1 rfl,z4 rfl rfl,z8 hg4_2 rfl,zr' rfl (oM rfl),zr' rfl (oB rfl rfl),z3 true rfl,z8 hg4_6 rfl,zr' rfl (oM rfl),zr' rfl (oB rfl rfl),z3 true rfl,z8 hg4_10 rfl,zr' rfl (op_move_take _ _ _ _ rfl),zr' rfl (op_buildSlice _ _ 1 (.int .u8 0) (map (int .u8) [3, 0]) [(0, .int .u8 3), (1, .int .u8 0)] underlying22 sz5 zr5 (fun _ V w o a hv hes => by simp only [List.map_toArray, List.map_cons, List.map_nil]; try rfl) (litfill (by simp [Instr.fill, Value.cells]; rfl) (by simp [List.range, List.range.loop] <;> rfl)) (by simp [Value.oneCell']) rfl (by decide) (by decide) (by decide)),zr' rfl (op_call _ _ 17 _ _ rfl call17 rfl (ok_wherrykeep_Bytes v1.1 [3, 0] _ hv4) rfl rfl),z3 true rfl,z8 hg4_15 rfl,zt rfl,zt rfl,zt rfl,z3 false rfl,z1 rfl,zt rfl,zt rfl,zt rfl,z3 false rfl,z1 rfl,zt rfl,zt rfl,zt rfl,z3 false rfl,z2 rfl,zz⟩ ?_
       exact hl10 _ (zi h).symm
     ·refine zg hn (_::_::_::_::_::_::_::_::(23,vi v1.2)::(24,vb (v1.2 == 0))::(25,vb true)::(26,vi v2.2)::(27,vb (v2.2 == 0))::(28,vb (v2.2 == 0))::(29,vb true)::(30,vi v3.2.2)::(31,vb (v3.2.2 == 0))::(32,vb (v3.2.2 == 0))::(33,vb false)::(34,.v undef)::(35,.v undef)::(36,.v undef)::(37,vb false)::(38,vb false)::(39,.v undef)::(40,.v undef)::(41,.v undef)::(42,vb false)::(43,vb false)::(44,.v undef)::(45,.v undef)::(46,.v undef)::(47,vb false)::(48,vb false)::(49,.v undef)::(50,.v undef)::(51,.v undef)::(52,vb false)::(0,vb false)::[]) [0,1,2,3,4,5,6,7] [0,38] (zq [2] 8 23::zq [8] 9 24::zq [9] 10 25::zq [10,4] 11 26::zq [10,11] 12 27::zq [10,12] 13 28::zq [13] 14 29::zq [14,7] 15 30::zq [14,15] 16 31::zq [14,16] 17 32::zq [17] 18 33::zq [18] 19 34::zq [18] 20 35::zq [18] 21 36::zq [18] 22 37::zq [22] 23 38::zq [23] 24 39::zq [23] 25 40::zq [23] 26 41::zq [23] 27 42::zq [27] 28 43::zq [28] 29 44::zq [28] 30 45::zq [28] 31 46::zq [28] 32 47::zq [32] 33 48::zq [33] 34 49::zq [33] 35 50::zq [33] 36 51::zq [33] 37 52::zq [37] 38 0::[]) [(_,_),(_,_)] rfl ⟨z1 rfl,z4 rfl rfl,z8 hg4_2 rfl,zr' rfl (oM rfl),zr' rfl (oB rfl rfl),z3 true rfl,z8 hg4_6 rfl,zr' rfl (oM rfl),zr' rfl (oB rfl rfl),z3 true rfl,z8 hg4_10 rfl,zt rfl,zt rfl,zt rfl,z3 false rfl,z1 rfl,zt rfl,zt rfl,zt rfl,z3 false rfl,z1 rfl,zt rfl,zt rfl,zt rfl,z3 false rfl,z1 rfl,zt rfl,zt rfl,zt rfl,z3 false rfl,z2 rfl,zz⟩ ?_
      exact hl10 _ (zi h).symm
    ·refine zg hn (_::_::_::_::_::_::_::_::(23,vi v1.2)::(24,vb (v1.2 == 0))::(25,vb true)::(26,vi v2.2)::(27,vb (v2.2 == 0))::(28,vb (v2.2 == 0))::(29,vb false)::(30,.v undef)::(31,.v undef)::(32,vb false)::(33,vb false)::(34,.v undef)::(35,.v undef)::(36,.v undef)::(37,vb false)::(38,vb false)::(39,.v undef)::(40,.v undef)::(41,.v undef)::(42,vb false)::(43,vb false)::(44,.v undef)::(45,.v undef)::(46,.v undef)::(47,vb false)::(48,vb false)::(49,.v undef)::(50,.v undef)::(51,.v undef)::(52,vb false)::(0,vb false)::[]) [0,1,2,3,4,5,6,7] [0,38] (zq [2] 8 23::zq [8] 9 24::zq [9] 10 25::zq [10,4] 11 26::zq [10,11] 12 27::zq [10,12] 13 28::zq [13] 14 29::zq [14] 15 30::zq [14] 16 31::zq [14] 17 32::zq [17] 18 33::zq [18] 19 34::zq [18] 20 35::zq [18] 21 36::zq [18] 22 37::zq [22] 23 38::zq [23] 24 39::zq [23] 25 40::zq [23] 26 41::zq [23] 27 42::zq [27] 28 43::zq [28] 29 44::zq [28] 30 45::zq [28] 31 46::zq [28] 32 47::zq [32] 33 48::zq [33] 34 49::zq [33] 35 50::zq [33] 36 51::zq [33] 37 52::zq [37] 38 0::[]) [(_,_),(_,_)] rfl ⟨z1 rfl,z4 rfl rfl,z8 hg4_2 rfl,zr' rfl (oM rfl),zr' rfl (oB rfl rfl),z3 true rfl,z8 hg4_6 rfl,zt rfl,zt rfl,z3 false rfl,z1 rfl,zt rfl,zt rfl,zt rfl,z3 false rfl,z1 rfl,zt rfl,zt rfl,zt rfl,z3 false rfl,z1 rfl,zt rfl,zt rfl,zt rfl,z3 false rfl,z1 rfl,zt rfl,zt rfl,zt rfl,z3 false rfl,z2 rfl,zz⟩ ?_
     exact hl10 _ (zi h).symm
   ·refine zg hn (_::_::_::_::_::_::_::_::(23,vi v1.2)::(24,vb (v1.2 == 0))::(25,vb false)::(26,.v undef)::(27,.v undef)::(28,vb false)::(29,vb false)::(30,.v undef)::(31,.v undef)::(32,vb false)::(33,vb false)::(34,.v undef)::(35,.v undef)::(36,.v undef)::(37,vb false)::(38,vb false)::(39,.v undef)::(40,.v undef)::(41,.v undef)::(42,vb false)::(43,vb false)::(44,.v undef)::(45,.v undef)::(46,.v undef)::(47,vb false)::(48,vb false)::(49,.v undef)::(50,.v undef)::(51,.v undef)::(52,vb false)::(0,vb false)::[]) [0,1,2,3,4,5,6,7] [0,38] (zq [2] 8 23::zq [8] 9 24::zq [9] 10 25::zq [10] 11 26::zq [10] 12 27::zq [10] 13 28::zq [13] 14 29::zq [14] 15 30::zq [14] 16 31::zq [14] 17 32::zq [17] 18 33::zq [18] 19 34::zq [18] 20 35::zq [18] 21 36::zq [18] 22 37::zq [22] 23 38::zq [23] 24 39::zq [23] 25 40::zq [23] 26 41::zq [23] 27 42::zq [27] 28 43::zq [28] 29 44::zq [28] 30 45::zq [28] 31 46::zq [28] 32 47::zq [32] 33 48::zq [33] 34 49::zq [33] 35 50::zq [33] 36 51::zq [33] 37 52::zq [37] 38 0::[]) [(_,_),(_,_)] rfl ⟨z1 rfl,z4 rfl rfl,z8 hg4_2 rfl,zt rfl,zt rfl,z3 false rfl,z1 rfl,zt rfl,zt rfl,z3 false rfl,z1 rfl,zt rfl,zt rfl,zt rfl,z3 false rfl,z1 rfl,zt rfl,zt rfl,zt rfl,z3 false rfl,z1 rfl,zt rfl,zt rfl,zt rfl,z3 false rfl,z1 rfl,zt rfl,zt rfl,zt rfl,z3 false rfl,z2 rfl,zz⟩ ?_
    exact hl10 _ (zi h).symm
end Go.Proofs.YtkgfjkfccpjcgaaDoor
