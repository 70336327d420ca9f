/-
  The model's runs are what is told in Lean.
-/
import Derived.Test.YtohhijlgepnbeaaProg
import Derived.KernelRfl
import Derived.Test.YtohhijlgepnbeaaShelf
import Derived.Test.YtohhijlgepnbeaaB4
import Derived.Test.YtohhijlgepnbeaaB5
import Derived.Test.YtohhijlgepnbeaaB8
import Derived.Test.YtohhijlgepnbeaaSrt
import Derived.Test.YtohhijlgepnbeaaSh
set_option linter.unusedVariables false
set_option linter.unusedSimpArgs false
set_option maxHeartbeats 1000000
namespace Go.Proofs.Ytohhijlgepnbeaa
open Go.Abs Go.Abs.Sh Try
theorem el22 : ElemT Try.prog 22 3 1 8 := ⟨⟨Try.t3, .int .i64 0, Try.underlying22, by kernel_rfl, by kernel_rfl, by kernel_rfl, by kernel_rfl, by decide, by kernel_rfl⟩⟩
theorem sz3 : (Try.prog.info? 3).map (·.size) = some 1 := by kernel_rfl
theorem zr3 : (Try.prog.info? 3).bind (·.zero) = some (.int .i64 0) := by kernel_rfl
theorem el49 : ElemT Try.prog 49 51 2 16 := ⟨⟨Try.t51, .agg #[.int .i64 0, .int .i64 0], Try.underlying49, by kernel_rfl, by kernel_rfl, by kernel_rfl, by kernel_rfl, by decide, by kernel_rfl⟩⟩
theorem fs51 : ∀ fs, Try.prog.underlying 51 = some (.struct fs) → fs.toList.map (fun f => (Try.prog.info? f.type).map (·.size)) = ([1, 1] : List Nat).map some := by
  intro fs h
  rw [Try.underlying51] at h
  cases h
  kernel_rfl
theorem zr51 : (Try.prog.info? 51).bind (·.zero) = some (.agg #[.int .i64 0, .int .i64 0]) := by kernel_rfl
theorem sz51 : (Try.prog.info? 51).map (·.size) = some 2 := by kernel_rfl
theorem sz49 : (Try.prog.info? 49).map (·.size) = some 1 := by kernel_rfl
theorem fs56 : ∀ fs, Try.prog.underlying 56 = some (.struct fs) → fs.toList.map (fun f => (Try.prog.info? f.type).map (·.size)) = ([1, 1] : List Nat).map some := by
  intro fs h
  rw [Try.underlying56] at h
  cases h
  kernel_rfl
theorem zr56 : (Try.prog.info? 56).bind (·.zero) = some (.agg #[.int .i64 0, .slice none 0 0]) := by kernel_rfl
theorem sz56 : (Try.prog.info? 56).map (·.size) = some 2 := by kernel_rfl
theorem el54 : ElemT Try.prog 54 56 2 32 := ⟨⟨Try.t56, .agg #[.int .i64 0, .slice none 0 0], Try.underlying54, by kernel_rfl, by kernel_rfl, by kernel_rfl, by kernel_rfl, by decide, by kernel_rfl⟩⟩
theorem sz22 : (Try.prog.info? 22).map (·.size) = some 1 := by kernel_rfl
theorem za45 : ((Try.prog.info? 45).bind (·.zero)).map (·.cells.toList) = some (List.map (Value.int .i64) (List.replicate 16 (0 : Int))) := by kernel_rfl
theorem sz45 : (Try.prog.info? 45).map (·.size) = some 16 := by kernel_rfl
theorem zr45 : (Try.prog.info? 45).bind (·.zero) = some (.agg #[.int .i64 0, .int .i64 0, .int .i64 0, .int .i64 0, .int .i64 0, .int .i64 0, .int .i64 0, .int .i64 0, .int .i64 0, .int .i64 0, .int .i64 0, .int .i64 0, .int .i64 0, .int .i64 0, .int .i64 0, .int .i64 0]) := by kernel_rfl
theorem ok_wherrykeep_TwinInts (l : (List Int)) (r : (List Int)) (h : Sh.wherrykeep_TwinInts l = some r) : FnOK Try.prog 11 [.fl .shr 1 (List.map (Value.int .i64) l)] (.fl (.own 3) 1 (List.map (Value.int .i64) r)) := by
  unfold Sh.wherrykeep_TwinInts at h
  refine fn_ok func11 rfl (zl rfl) rfl rfl fun g0 hn hio => ?_
  refine zgg hn [_,(2,.v (.slice none 0 0))] [0] [0] [zq [] 1 2] [(_,_)] rfl ⟨z2 rfl,zz⟩ ?_
  refine zgg hn [_,(3,.v (.slice none 0 0))] [0] [0,1] [zq [] 1 3] [(_,_),(_,_)] rfl ⟨z2 rfl,zz⟩ ?_
  refine ht_seq ?_
  obtain ⟨v1, hv1, h⟩ := bind_some h
  refine zg hn [_,_,(4,.v (.slice none 0 0)),(5,.fl .shr 1 (List.map (Value.int .i64) l)),(6,.fl (.own 3) 1 (List.map (Value.int .i64) v1)),(2,.fl (.own 3) 1 (List.map (Value.int .i64) v1))] [0,1] [5] [zq [1] 2 4,zq [0] 3 5,zq [2,3] 4 6,⟨[],[4],[5],[(.slot 2)]⟩] [(_,_)] rfl ⟨z1 rfl,z1 rfl,zp rfl (op_app_nil _ _ _ _ el22 rfl rfl (map_len _) hv1 (congrArg (List.map _) (app_nil_eq hv1))),zp rfl (op_assign_take _ _ _ _ rfl),zz⟩ ?_
  refine pt_then (ht_ret ?_)
  obtain rfl := Option.some.inj h
  exact pt_ret hio rfl (.tmp _ _ .nil) rfl rfl
theorem ok_tree_validWeights (weights : (List Int)) (r : Bool) (h : Sh.tree_validWeights weights = some r) : FnOK Try.prog 19 [.fl .shr 1 (List.map (Value.int .i64) weights)] (.v (.bool r)) := by
  unfold Sh.tree_validWeights at h
  refine fn_ok func19 rfl (zl rfl) rfl rfl fun g0 hn hio => ?_
  refine zgg hn [_,(2,vb false)] [0] [0] [zq [] 1 2] [(_,_)] rfl ⟨z2 rfl,zz⟩ ?_
  refine ht_seq ?_
  refine zgg hn [_,(5,.fl .shr 1 (List.map (Value.int .i64) weights)),(6,vi (weights.length : Int)),(7,vb (decide (300 < (weights.length : Int))))] [0] [0,3] [zq [0] 1 5,zq [1] 2 6,zq [2] 3 7] [(_,_),(_,_)] rfl ⟨z1 rfl,zp rfl (op_len_fl _ _ _ underlying22 rfl (by decide) (map_len _)),z4 rfl rfl,zz⟩ ?_
  refine ht_cond _ rfl (fun hb1 => ?_) (fun hb1 => ?_)
  ·have h := cond_t hb1 h
   refine zgg hn [_,_,(2,vb false)] [0,1] [2] [zq [] 2 2] [(_,_)] rfl ⟨z2 rfl,zz⟩ ?_
   refine ht_ret ?_
   refine pt_r_then ?_
   obtain rfl := Option.some.inj h
   exact pt_ret hio rfl (.tmp _ _ .nil) rfl rfl
  ·have h := cond_f hb1 h
   refine ht_skip ?_
   refine pt_then (ht_seq ?_)
   refine zgg hn [_,_,(8,.fl .shr 1 (List.map (Value.int .i64) weights)),(9,vi (weights.length : Int)),(10,vi 0)] [0,1] [2,3,4] [zq [0] 2 8,zq [2] 3 9,zq [] 4 10] [(_,_),(_,_),(_,_)] rfl ⟨z1 rfl,zp rfl (op_len_fl _ _ _ underlying22 rfl (by decide) (map_len _)),z1 rfl,zz⟩ ?_
   refine ht_loopS h (fun (s18 : Int) => [(8, .fl .shr 1 (List.map (Value.int .i64) weights)), (9, .v (.int .i64 (weights.length : Int))), (10, .v (.int .i64 s18))]) (fun (() : Unit) => []) ?_ ?_
   ·rintro ⟨⟩ h
    refine pt_then ?_
    refine zgg hn [(2,vb true)] [] [0] [zq [] 0 2] [(_,_)] rfl ⟨z2 rfl,zz⟩ ?_
    refine ht_ret ?_
    obtain rfl := Option.some.inj h
    exact pt_ret hio rfl (.tmp _ _ .nil) rfl rfl
   ·rintro u25 hl26 hr27 s18 rr30 h ho28
    refine zgg hn [_,_,_,(11,vb (decide (s18 < (weights.length : Int))))] [0,1,2] [0,1,2,3] [zq [2,1] 3 11] [(_,_),(_,_),(_,_),(_,_)] rfl ⟨z4 rfl rfl,zz⟩ ?_
    refine ht_seq ?_
    refine ht_cond _ rfl (fun hb31 => ?_) (fun hb31 => ?_)
    ·have h := cond_t hb31 h
     refine ht_skip ?_
     refine pt_then (ht_seq ?_)
     refine ht_block ?_
     refine ht_seq ?_
     obtain ⟨v3, hv3, h⟩ := bind_some h
     obtain ⟨v4, hv4, h⟩ := bind_some h
     refine zg hn [_,_,_,_,(12,.eref (.slot 8) (v3 * 1)),(13,vi v4),(4,vi v4)] [0,1,2,3] [0,1,2,6] [zq [0,2] 4 12,zq [4,0] 5 13,zq [5] 6 4] [(_,_),(_,_),(_,_),(_,_)] rfl ⟨zp rfl (op_ix _ _ _ _ _ _ _ _ underlying22 sz3 (by decide) rfl rfl rfl (ix_ok hv3).1 (map_lt (ix_ok hv3).2) rfl),zp rfl (op_load_e _ _ _ _ _ _ underlying3 rfl rfl rfl (map_get hv4)),z2 rfl,zz⟩ ?_
     refine pt_then (ht_seq ?_)
     refine ht_joinS h (fun (s32 : Bool) => [(8, .fl .shr 1 (List.map (Value.int .i64) weights)), (9, .v (.int .i64 (weights.length : Int))), (10, .v (.int .i64 s18)), (19, .v (.bool s32))]) ?_ ?_
     ·rintro s32 h
      refine pt_then ?_
      refine ht_cond _ rfl (fun hb36 => ?_) (fun hb36 => ?_)
      ·have h := cond_t hb36 h
       refine zgg hn [_,_,_,_,(2,vb false)] [0,1,2,3] [4] [zq [] 4 2] [(_,_)] rfl ⟨z2 rfl,zz⟩ ?_
       refine ht_ret ?_
       refine pt_r_in ?_
       refine pt_r_then ?_
       refine pt_r_then ?_
       refine pt_r_in ?_
       refine pt_r_then ?_
       have h := hr27 _ (ho28 _ (Option.some.inj h).symm).symm
       obtain rfl := Option.some.inj h
       exact pt_ret hio rfl (.tmp _ _ .nil) rfl rfl
      ·have h := cond_f hb36 h
       refine ht_skip ?_
       refine pt_inb ?_
       refine pt_then ?_
       obtain ⟨v10, hv10, h⟩ := bind_some h
       refine zg hn [_,_,_,_,(20,vi v10),(10,vi v10)] [0,1,2,3] [0,1,5] [zq [2] 4 20,⟨[4],[2],[5],[(.slot 10)]⟩] [(_,_),(_,_),(_,_)] rfl ⟨zp rfl (oB rfl (ibind (f := Value.int .i64) (Option.some.inj hv10))),zp rfl (LOp.drop [_] (oM rfl)),zz⟩ ?_
       exact pt_next _ (Option.some.inj h).symm rfl
     ·intro u33 h hl34 hr35
      refine cond_some h (fun hg6_2 h => ?_) (fun hg6_2 h => ?_)
      ·refine zg hn [_,_,_,_,(14,vi v4),(15,vb (decide (v4 < 0))),(16,vb true),(17,.v undef),(18,.v undef),(19,vb true)] [0,1,2,3] [0,1,2,9] [zq [3] 4 14,zq [4] 5 15,zq [5] 6 16,zq [6] 7 17,zq [6] 8 18,zq [6] 9 19] [(_,_),(_,_),(_,_),(_,_)] rfl ⟨z1 rfl,z4 rfl rfl,z8 hg6_2 rfl,zf rfl,zf rfl,z3 true rfl,zz⟩ ?_
       exact hl34 _ (Option.some.inj h).symm
      ·refine zg hn [_,_,_,_,(14,vi v4),(15,vb (decide (v4 < 0))),(16,vb false),(17,vi v4),(18,vb (decide (1048576 < v4))),(19,vb (decide (1048576 < v4)))] [0,1,2,3] [0,1,2,9] [zq [3] 4 14,zq [4] 5 15,zq [5] 6 16,zq [6,3] 7 17,zq [6,7] 8 18,zq [6,8] 9 19] [(_,_),(_,_),(_,_),(_,_)] rfl ⟨z1 rfl,z4 rfl rfl,z8 hg6_2 rfl,zr' rfl (oM rfl),zr' rfl (oB rfl rfl),z3 false rfl,zz⟩ ?_
       exact hl34 _ (Option.some.inj h).symm
    ·have h := cond_f hb31 h
     refine ht_exit ?_
     refine pt_x_then ?_
     refine pt_x_then ?_
     refine pt_x_in ?_
     refine pt_pick [] (by kernel_rfl) (es' := []) rfl ?_
     exact hl26 _ (ho28 _ (Option.some.inj h).symm).symm
theorem ok_tree_positive (weights : (List Int)) (r : (List Int)) (h : Sh.tree_positive weights = some r) : FnOK Try.prog 32 [.fl .shr 1 (List.map (Value.int .i64) weights)] (.fl (.own 3) 1 (List.map (Value.int .i64) r)) := by
  unfold Sh.tree_positive at h
  refine fn_ok func32 rfl (zl rfl) rfl rfl fun g0 hn hio => ?_
  refine zgg hn [_,(2,.v (.slice none 0 0))] [0] [0] [zq [] 1 2] [(_,_)] rfl ⟨z2 rfl,zz⟩ ?_
  refine zgg hn [_,(3,.v (.slice none 0 0))] [0] [0,1] [zq [] 1 3] [(_,_),(_,_)] rfl ⟨z2 rfl,zz⟩ ?_
  refine ht_seq ?_
  refine zgg hn [_,_,(6,.fl .shr 1 (List.map (Value.int .i64) weights)),(7,vi (weights.length : Int)),(8,vi 0)] [0,1] [1,2,3,4] [zq [0] 2 6,zq [2] 3 7,zq [] 4 8] [(_,_),(_,_),(_,_),(_,_)] rfl ⟨z1 rfl,zp rfl (op_len_fl _ _ _ underlying22 rfl (by decide) (map_len _)),z1 rfl,zz⟩ ?_
  refine ht_sub (fs := [(3, .fl (.own 3) 1 (List.map (Value.int .i64) [])), (6, .fl .shr 1 (List.map (Value.int .i64) weights)), (7, .v (.int .i64 (weights.length : Int))), (8, .v (.int .i64 0))]) (.sub _ (sub_nil 3 1) rfl (.same _ (.same _ (.same _ .nil)))) ?_
  refine ht_loopS h (fun ((s21, s22) : (List Int) × Int) => [(3, .fl (.own 3) 1 (List.map (Value.int .i64) s21)), (6, .fl .shr 1 (List.map (Value.int .i64) weights)), (7, .v (.int .i64 (weights.length : Int))), (8, .v (.int .i64 s22))]) (fun (s30 : (List Int)) => [(3, .fl (.own 3) 1 (List.map (Value.int .i64) s30))]) ?_ ?_
  ·rintro s30 h
   refine pt_then ?_
   refine zgg hn [_,(20,.fl (.own 3) 1 (List.map (Value.int .i64) s30)),(2,.fl (.own 3) 1 (List.map (Value.int .i64) s30))] [0] [2] [⟨[],[0],[1],[(.slot 20)]⟩,⟨[],[1],[2],[(.slot 2)]⟩] [(_,_)] rfl ⟨zp rfl (op_move_take _ _ _ _ rfl),zp rfl (op_assign_take _ _ _ _ rfl),zz⟩ ?_
   refine ht_ret ?_
   obtain rfl := Option.some.inj h
   exact pt_ret hio rfl (.tmp _ _ .nil) rfl rfl
  ·rintro u31 hl32 hr33 ⟨s21, s22⟩ rr36 h ho34
   refine zgg hn [_,_,_,_,(9,vb (decide (s22 < (weights.length : Int))))] [0,1,2,3] [0,1,2,3,4] [zq [3,2] 4 9] [(_,_),(_,_),(_,_),(_,_),(_,_)] rfl ⟨z4 rfl rfl,zz⟩ ?_
   refine ht_seq ?_
   refine ht_cond _ rfl (fun hb37 => ?_) (fun hb37 => ?_)
   ·have h := cond_t hb37 h
    refine ht_skip ?_
    refine pt_then (ht_seq ?_)
    refine ht_joinS h (fun (s39 : (List Int)) => [(6, .fl .shr 1 (List.map (Value.int .i64) weights)), (7, .v (.int .i64 (weights.length : Int))), (8, .v (.int .i64 s22)), (3, .fl (.own 3) 1 (List.map (Value.int .i64) s39))]) ?_ ?_
    ·rintro s39 h
     refine pt_then ?_
     obtain ⟨v11, hv11, h⟩ := bind_some h
     refine zg hn [_,_,_,_,(19,vi v11),(8,vi v11)] [0,1,2,3] [0,1,3,5] [zq [2] 4 19,⟨[4],[2],[5],[(.slot 8)]⟩] [(_,_),(_,_),(_,_),(_,_)] rfl ⟨zp rfl (oB rfl (ibind (f := Value.int .i64) (Option.some.inj hv11))),zp rfl (LOp.drop [_] (oM rfl)),zz⟩ ?_
     refine pt_pick [2, 0, 1, 3] (by kernel_rfl) (es' := [(_,_),(_,_),(_,_),(_,_)]) rfl ?_
     exact pt_next _ (Option.some.inj h).symm rfl
    ·intro u40 h hl41 hr42
     refine ht_block ?_
     refine ht_seq ?_
     obtain ⟨v2, hv2, h⟩ := bind_some h
     obtain ⟨v3, hv3, h⟩ := bind_some h
     refine zg hn [_,_,_,_,_,(10,vi s22),(11,.eref (.slot 6) (v2 * 1)),(12,vi v3),(4,vi s22),(5,vi v3)] [0,1,2,3,4] [0,1,2,3,8,9] [zq [3] 5 10,zq [1,3] 6 11,zq [6,1] 7 12,zq [5] 8 4,zq [7] 9 5] [(_,_),(_,_),(_,_),(_,_),(_,_),(_,_)] rfl ⟨z1 rfl,zp rfl (op_ix _ _ _ _ _ _ _ _ underlying22 sz3 (by decide) rfl rfl rfl (ix_ok hv2).1 (map_lt (ix_ok hv2).2) rfl),zp rfl (op_load_e _ _ _ _ _ _ underlying3 rfl rfl rfl (map_get hv3)),z2 rfl,z2 rfl,zz⟩ ?_
     refine pt_then ?_
     refine zgg hn [_,_,_,_,_,_,(13,vi v3),(14,vb (decide (0 < v3)))] [0,1,2,3,4,5] [0,1,2,3,4,7] [zq [5] 6 13,zq [6] 7 14] [(_,_),(_,_),(_,_),(_,_),(_,_),(_,_)] rfl ⟨z1 rfl,z4 rfl rfl,zz⟩ ?_
     refine ht_cond _ rfl (fun hb43 => ?_) (fun hb43 => ?_)
     ·have h := cond_t hb43 h
      obtain ⟨v5, hv5, h⟩ := bind_some h
      refine zg hn [_,_,_,_,_,_,(15,.fl (.own 3) 1 (List.map (Value.int .i64) s21)),(16,vi s22),(17,.fl (.own 3) 1 (List.map (Value.int .i64) [s22])),(18,.fl (.own 3) 1 (List.map (Value.int .i64) v5)),(15,.any),(3,.fl (.own 3) 1 (List.map (Value.int .i64) v5))] [0,1,2,3,4,5] [1,2,3,11] [⟨[],[0],[6],[(.slot 15)]⟩,zq [4] 7 16,zq [7] 8 17,⟨[8],[6],[10,9],[(.slot 18)]⟩,⟨[],[9],[11],[(.slot 3)]⟩] [(_,_),(_,_),(_,_),(_,_)] rfl ⟨zp rfl (op_move_take _ _ _ _ rfl),z1 rfl,zp rfl (op_buildSlice _ _ 1 (.int .i64 0) (List.map (Value.int .i64) [s22]) [(0, .int .i64 s22)] underlying22 sz3 zr3 (fun _ V w o a hv hes => by have e0 := rd_v hv hes (x := .tmp 16) rfl; simp only [List.map_toArray, List.map_cons, List.map_nil, e0]; try rfl) (litfill (by simp [Instr.fill, Value.cells]; rfl) (by simp [List.range, List.range.loop] <;> rfl)) (by simp [Value.oneCell']) rfl (by decide) (by decide) (by decide)),zp rfl (op_app _ _ _ _ _ el22 rfl rfl (map_len _) (map_len _) hv5 ((List.map_append).symm.trans (congrArg (List.map _) (app_eq hv5)))),zp rfl (op_assign_take _ _ _ _ rfl),zz⟩ ?_
      refine pt_inb ?_
      exact hl41 _ (Option.some.inj h).symm
     ·have h := cond_f hb43 h
      refine ht_skip ?_
      refine pt_inb ?_
      refine pt_pick [1, 2, 3, 0] (by kernel_rfl) (es' := [(_,_),(_,_),(_,_),(_,_)]) rfl ?_
      exact hl41 _ (Option.some.inj h).symm
   ·have h := cond_f hb37 h
    refine ht_exit ?_
    refine pt_x_then ?_
    refine pt_x_then ?_
    refine pt_x_in ?_
    refine pt_pick [0] (by kernel_rfl) (es' := [(_,_)]) rfl ?_
    exact hl32 _ (ho34 _ (Option.some.inj h).symm).symm
theorem ok_tree_validLimit (weights : (List Int)) (limit : Int) (r : Bool) (h : Sh.tree_validLimit weights limit = some r) : FnOK Try.prog 20 [.fl .shr 1 (List.map (Value.int .i64) weights), .v (.int .i64 limit)] (.v (.bool r)) := by
  unfold Sh.tree_validLimit at h
  refine fn_ok func20 rfl (zl rfl) rfl rfl fun g0 hn hio => ?_
  refine zgg hn [_,_,(4,vb false)] [0,1] [0,1] [zq [] 2 4] [(_,_),(_,_)] rfl ⟨z2 rfl,zz⟩ ?_
  refine zgg hn [_,_,(5,vi 9)] [0,1] [0,1,2] [zq [] 2 5] [(_,_),(_,_),(_,_)] rfl ⟨z2 rfl,zz⟩ ?_
  refine ht_seq ?_
  refine ht_joinS h (fun (s3 : Int) => [(1, .v (.int .i64 limit)), (5, .v (.int .i64 s3))]) ?_ ?_
  ·rintro s3 h
   refine pt_then (ht_seq ?_)
   refine ht_joinS h (fun (s8 : Bool) => [(4, .v (.bool s8))]) ?_ ?_
   ·rintro s8 h
    refine pt_then (ht_ret ?_)
    obtain rfl := Option.some.inj h
    exact pt_ret hio rfl (.tmp _ _ .nil) rfl rfl
   ·intro u9 h hl10 hr11
    refine cond_some h (fun hg4_3 h => ?_) (fun hg4_3 h => ?_)
    ·refine zg hn [_,_,(10,vi limit),(11,vi s3),(12,vb (decide (s3 ≤ limit))),(13,vb true),(14,vi limit),(15,vb (decide (limit ≤ 15))),(16,vb (decide (limit ≤ 15))),(4,vb (decide (limit ≤ 15)))] [0,1] [9] [zq [0] 2 10,zq [1] 3 11,zq [2,3] 4 12,zq [4] 5 13,zq [5,0] 6 14,zq [5,6] 7 15,zq [5,7] 8 16,zq [8] 9 4] [(_,_)] rfl ⟨z1 rfl,z1 rfl,z4 rfl rfl,z8 hg4_3 rfl,zr' rfl (oM rfl),zr' rfl (oB rfl rfl),z3 true rfl,z2 rfl,zz⟩ ?_
     exact hl10 _ (Option.some.inj h).symm
    ·refine zg hn [_,_,(10,vi limit),(11,vi s3),(12,vb (decide (s3 ≤ limit))),(13,vb false),(14,.v undef),(15,.v undef),(16,vb false),(4,vb false)] [0,1] [9] [zq [0] 2 10,zq [1] 3 11,zq [2,3] 4 12,zq [4] 5 13,zq [5] 6 14,zq [5] 7 15,zq [5] 8 16,zq [8] 9 4] [(_,_)] rfl ⟨z1 rfl,z1 rfl,z4 rfl rfl,z8 hg4_3 rfl,zt rfl,zt rfl,z3 false rfl,z2 rfl,zz⟩ ?_
     exact hl10 _ (Option.some.inj h).symm
  ·intro u4 h hl5 hr6
   refine ht_seq ?_
   obtain ⟨v1, hv1, h⟩ := bind_some h
   refine zg hn [_,_,_,(6,.fl .shr 1 (List.map (Value.int .i64) weights)),(7,.fl (.own 3) 1 (List.map (Value.int .i64) v1)),(8,vi (v1.length : Int)),(9,vb (decide ((v1.length : Int) ≤ 19)))] [0,1,2] [1,2,6] [zq [0] 3 6,zq [3] 4 7,zq [4] 5 8,zq [5] 6 9] [(_,_),(_,_),(_,_)] rfl ⟨z1 rfl,zp rfl (op_call _ _ 32 _ _ rfl call32 rfl (ok_tree_positive weights _ hv1) rfl rfl),zp rfl (op_len_fl _ _ _ underlying22 rfl (by decide) (map_len _)),z4 rfl rfl,zz⟩ ?_
   refine pt_then ?_
   refine ht_cond _ rfl (fun hb7 => ?_) (fun hb7 => ?_)
   ·have h := cond_t hb7 h
    refine zg hn [_,_,_,(5,vi 5)] [0,1,2] [0,3] [⟨[],[1],[3],[(.slot 5)]⟩] [(_,_),(_,_)] rfl ⟨zp rfl (LOp.drop [_] (op_assign _ _ _ _ rfl rfl)),zz⟩ ?_
    exact hl5 _ (Option.some.inj h).symm
   ·have h := cond_f hb7 h
    refine ht_skip ?_
    refine pt_pick [0, 1] (by kernel_rfl) (es' := [(_,_),(_,_)]) rfl ?_
    exact hl5 _ (Option.some.inj h).symm
theorem ok_slices_Clone_int_int (l r : List Int) (h : Sh.slices_Clone_int_int l = some r) : FnOK Try.prog 21 [.fl .shr 1 (List.map (Value.int .i64) l)] (.fl (.own 3) 1 (List.map (Value.int .i64) r)) := lib_slices_Clone Try.slices_Clone_int_nil Try.slices_Clone_int Try.slices_Clone_int_zero l r h
theorem ok_tree_merge_1_clo (cap0 : Int) (cap1 : Int) (cap2 : Int) (cap3 : (List T_tree_node)) (r : (Int × Int × Int × Int × (List T_tree_node))) (h : Sh.tree_merge_1_clo cap0 cap1 cap2 cap3 = some r) : FnP Try.prog 40 [.box 3 [.v (.int .i64 cap0)], .box 3 [.v (.int .i64 cap1)], .box 3 [.v (.int .i64 cap2)], .box 49 [.fr (.own 51) false 2 (List.flatten (List.map T_tree_node.ienc cap3))]] [.box 3 [.v (.int .i64 r.2.1)], .box 3 [.v (.int .i64 r.2.2.1)], .box 3 [.v (.int .i64 r.2.2.2.1)], .box 49 [.fr (.own 51) false 2 (List.flatten (List.map T_tree_node.ienc r.2.2.2.2))]] (.v (.int .i64 r.1)) := by
  unfold Sh.tree_merge_1_clo at h
  refine fn_okP func40 rfl (zl rfl) rfl (zl rfl) fun args0 hargs0 g0 hn hio => ?_
  refine zgg hn [_,_,_,_,_,_,_,_,(4,vi 0)] [0,1,2,3,4,5,6,7] [0,1,2,3,4,5,6,7] [zq [] 8 4] [(_,_),(_,_),(_,_),(_,_),(_,_),(_,_),(_,_),(_,_)] rfl ⟨z2 rfl,zz⟩ ?_
  refine ht_seq ?_
  refine ht_seq ?_
  refine ht_joinS h (fun (s5 : Bool) => [(0, .box 3 [.v (.int .i64 cap0)]), (1, .box 3 [.v (.int .i64 cap1)]), (2, .box 3 [.v (.int .i64 cap2)]), (3, .box 49 [.fr (.own 51) false 2 (List.flatten (List.map T_tree_node.ienc cap3))]), (0, .v (List.getD args0 0 undef)), (1, .v (List.getD args0 1 undef)), (2, .v (List.getD args0 2 undef)), (3, .v (List.getD args0 3 undef)), (26, .v (.bool s5))]) ?_ ?_
  ·rintro s5 h
   refine pt_then ?_
   refine ht_cond _ rfl (fun hb9 => ?_) (fun hb9 => ?_)
   ·have h := cond_t hb9 h
    refine ht_seq ?_
    obtain ⟨v10, hv10, h⟩ := bind_some h
    refine zg hn [_,_,_,_,_,_,_,_,_,(27,vi cap0),(28,vi v10),(0,.box 3 [vi v10])] [0,1,2,3,4,5,6,7,8] [11,1,2,3,4,5,6,7] [zq [0] 9 27,zq [9] 10 28,⟨[10],[0],[11],[.cell 0 0]⟩] [(_,_),(_,_),(_,_),(_,_),(_,_),(_,_),(_,_),(_,_)] rfl ⟨zp rfl (oL underlying3 rfl),zp rfl (oB rfl (ibind (f := Value.int .i64) (Option.some.inj hv10))),zp rfl (oS sz3 rfl),zz⟩ ?_
    refine pt_then (ht_seq ?_)
    obtain ⟨v11, hv11, h⟩ := bind_some h
    refine zg hn [_,_,_,_,_,_,_,_,(29,vi v10),(30,vi v11),(4,vi v11)] [0,1,2,3,4,5,6,7] [0,1,2,3,4,5,6,7,10] [zq [0] 8 29,zq [8] 9 30,zq [9] 10 4] [(_,_),(_,_),(_,_),(_,_),(_,_),(_,_),(_,_),(_,_),(_,_)] rfl ⟨zp rfl (oL underlying3 rfl),zp rfl (oB rfl (ibind (f := Value.int .i64) (Option.some.inj hv11))),z2 rfl,zz⟩ ?_
    refine pt_then (ht_ret ?_)
    refine pt_pick [8, 0, 1, 2, 3, 4, 5, 6, 7] (by kernel_rfl) (es' := [(_,_),(_,_),(_,_),(_,_),(_,_),(_,_),(_,_),(_,_),(_,_)]) rfl ?_
    refine pt_r_then ?_
    obtain rfl := Option.some.inj h
    exact pt_retP (es := [(4, .v (.int .i64 v11))]) (posts := [.box 3 [.v (.int .i64 v10)], .box 3 [.v (.int .i64 cap1)], .box 3 [.v (.int .i64 cap2)], .box 49 [.fr (.own 51) false 2 (List.flatten (List.map T_tree_node.ienc cap3))]]) hio rfl rfl (.tmp _ _ .nil) rfl rfl hargs0 rfl
   ·have h := cond_f hb9 h
    refine ht_skip ?_
    refine pt_then (ht_seq ?_)
    obtain ⟨v12, hv12, h⟩ := bind_some h
    refine zg hn [_,_,_,_,_,_,_,_,_,(31,vi cap2),(32,vi v12),(2,.box 3 [vi v12])] [0,1,2,3,4,5,6,7,8] [0,1,11,3,4,5,6,7] [zq [2] 9 31,zq [9] 10 32,⟨[10],[2],[11],[.cell 2 0]⟩] [(_,_),(_,_),(_,_),(_,_),(_,_),(_,_),(_,_),(_,_)] rfl ⟨zp rfl (oL underlying3 rfl),zp rfl (oB rfl (ibind (f := Value.int .i64) (Option.some.inj hv12))),zp rfl (oS sz3 rfl),zz⟩ ?_
    refine pt_then (ht_seq ?_)
    obtain ⟨v13, hv13, h⟩ := bind_some h
    refine zg hn [_,_,_,_,_,_,_,_,(33,vi v12),(34,vi v13),(4,vi v13)] [0,1,2,3,4,5,6,7] [0,1,2,3,4,5,6,7,10] [zq [2] 8 33,zq [8] 9 34,zq [9] 10 4] [(_,_),(_,_),(_,_),(_,_),(_,_),(_,_),(_,_),(_,_),(_,_)] rfl ⟨zp rfl (oL underlying3 rfl),zp rfl (oB rfl (ibind (f := Value.int .i64) (Option.some.inj hv13))),z2 rfl,zz⟩ ?_
    refine pt_then (ht_ret ?_)
    refine pt_pick [8, 0, 1, 2, 3, 4, 5, 6, 7] (by kernel_rfl) (es' := [(_,_),(_,_),(_,_),(_,_),(_,_),(_,_),(_,_),(_,_),(_,_)]) rfl ?_
    obtain rfl := Option.some.inj h
    exact pt_retP (es := [(4, .v (.int .i64 v13))]) (posts := [.box 3 [.v (.int .i64 cap0)], .box 3 [.v (.int .i64 cap1)], .box 3 [.v (.int .i64 v12)], .box 49 [.fr (.own 51) false 2 (List.flatten (List.map T_tree_node.ienc cap3))]]) hio rfl rfl (.tmp _ _ .nil) rfl rfl hargs0 rfl
  ·intro u6 h hl7 hr8
   refine cond_some h (fun hg1_3 h => ?_) (fun hg1_3 h => ?_)
   ·refine cond_some h (fun hg1_8 h => ?_) (fun hg1_8 h => ?_)
    ·refine ht_anyR (by kernel_rfl) hn (El := (_ :: _ :: _ :: _ :: _ :: _ :: _ :: _ :: (5, .v (.int .i64 cap0)) :: (6, .v (.int .i64 cap1)) :: (7, .v (.bool ((decide (cap0 < cap1))))) :: (8, .v (.bool true)) :: (9, .v (.int .i64 cap2)) :: (10, .same (.cell 3 0)) :: (11, .v (.int .i64 (cap3.length : Int))) :: (12, .v (.bool ((cap2 == (cap3.length : Int))))) :: (13, .v (.bool true)) :: (14, .v undef) :: (15, .v undef) :: (16, .v undef) :: (17, .v undef) :: (18, .v undef) :: (19, .v undef) :: (20, .v undef) :: (21, .v undef) :: (22, .v undef) :: (23, .v undef) :: (24, .v undef) :: (25, .v (.bool true)) :: (26, .v (.bool true)) :: [])) (init := [0, 1, 2, 3, 4, 5, 6, 7]) (fin := [0, 1, 2, 3, 4, 5, 6, 7, 29]) (sps := (zq [0] 8 5 :: zq [1] 9 6 :: zq [8,9] 10 7 :: zq [10] 11 8 :: zq [11,2] 12 9 :: zq [11,3] 13 10 :: zq [11,13,3] 14 11 :: zq [11,12,14] 15 12 :: zq [11,15] 16 13 :: zq [16] 17 14 :: zq [16] 18 15 :: zq [16] 19 16 :: zq [16] 20 17 :: zq [16] 21 18 :: zq [16] 22 19 :: zq [16] 23 20 :: zq [16] 24 21 :: zq [16] 25 22 :: zq [16] 26 23 :: zq [16] 27 24 :: zq [11,16] 28 25 :: zq [11,28] 29 26 :: [])) (es' := [(_,_),(_,_),(_,_),(_,_),(_,_),(_,_),(_,_),(_,_),(26, .v (.bool true))]) (by kernel_rfl) rfl rfl ⟨zp rfl (oL underlying3 rfl),zp rfl (oL underlying3 rfl),z4 rfl rfl,z8 hg1_3 rfl,zr' rfl (oL underlying3 rfl),zr' rfl (oL underlying49 rfl),zr' rfl (op_len_fr _ _ _ underlying49 rfl (by decide) (gflat_len T_tree_node.ilen _)),zr' rfl (oB rfl rfl),zr' rfl (op_move _ _ _ _ (zb hg1_8) rfl),zf rfl,zf rfl,zf rfl,zf rfl,zf rfl,zf rfl,zf rfl,zf rfl,zf rfl,zf rfl,zf rfl,zr' rfl (op_pick _ _ true _ rfl rfl),z3 true rfl,zz⟩ ?_
     exact hl7 _ (Option.some.inj h).symm
    ·obtain ⟨v1, hv1, h⟩ := bind_some h
     obtain ⟨v2, hv2, h⟩ := bind_some h
     obtain ⟨v3, hv3, h⟩ := bind_some h
     obtain ⟨v4, hv4, h⟩ := bind_some h
     refine ht_anyR (by kernel_rfl) hn (El := (_ :: _ :: _ :: _ :: _ :: _ :: _ :: _ :: (5, .v (.int .i64 cap0)) :: (6, .v (.int .i64 cap1)) :: (7, .v (.bool ((decide (cap0 < cap1))))) :: (8, .v (.bool true)) :: (9, .v (.int .i64 cap2)) :: (10, .same (.cell 3 0)) :: (11, .v (.int .i64 (cap3.length : Int))) :: (12, .v (.bool ((cap2 == (cap3.length : Int))))) :: (13, .v (.bool false)) :: (14, .same (.cell 3 0)) :: (15, .v (.int .i64 cap0)) :: (16, .eref (.cell 3 0) (v1 * 2)) :: (17, .eref (.cell 3 0) (v1 * 2 + 0)) :: (18, .v (.int .i64 v2.weight)) :: (19, .same (.cell 3 0)) :: (20, .v (.int .i64 cap2)) :: (21, .eref (.cell 3 0) (v3 * 2)) :: (22, .eref (.cell 3 0) (v3 * 2 + 0)) :: (23, .v (.int .i64 v4.weight)) :: (24, .v (.bool ((decide (v2.weight ≤ v4.weight))))) :: (25, .v (.bool ((decide (v2.weight ≤ v4.weight))))) :: (26, .v (.bool ((decide (v2.weight ≤ v4.weight))))) :: [])) (init := [0, 1, 2, 3, 4, 5, 6, 7]) (fin := [0, 1, 2, 3, 4, 5, 6, 7, 29]) (sps := (zq [0] 8 5 :: zq [1] 9 6 :: zq [8,9] 10 7 :: zq [10] 11 8 :: zq [11,2] 12 9 :: zq [11,3] 13 10 :: zq [11,13,3] 14 11 :: zq [11,12,14] 15 12 :: zq [11,15] 16 13 :: zq [16,3] 17 14 :: zq [16,0] 18 15 :: zq [16,17,3,18] 19 16 :: zq [16,19,3] 20 17 :: zq [16,20,3] 21 18 :: zq [16,3] 22 19 :: zq [16,2] 23 20 :: zq [16,22,3,23] 24 21 :: zq [16,24,3] 25 22 :: zq [16,25,3] 26 23 :: zq [16,21,26] 27 24 :: zq [11,16,27] 28 25 :: zq [11,28] 29 26 :: [])) (es' := [(_,_),(_,_),(_,_),(_,_),(_,_),(_,_),(_,_),(_,_),(26, .v (.bool ((decide (v2.weight ≤ v4.weight)))))]) (by kernel_rfl) rfl rfl ⟨zp rfl (oL underlying3 rfl),zp rfl (oL underlying3 rfl),z4 rfl rfl,z8 hg1_3 rfl,zr' rfl (oL underlying3 rfl),zr' rfl (oL underlying49 rfl),zr' rfl (op_len_fr _ _ _ underlying49 rfl (by decide) (gflat_len T_tree_node.ilen _)),zr' rfl (oB rfl rfl),zr' rfl (op_move _ _ _ _ (zb hg1_8) rfl),zr' rfl (oL underlying49 rfl),zr' rfl (oL underlying3 rfl),zr' rfl (op_ix_fr _ _ _ _ _ _ _ _ underlying49 sz51 (by decide) rfl rfl rfl (ix_ok hv1).1 (gflat_lt T_tree_node.ilen (ix_ok hv1).2) rfl),zr' rfl (op_fieldAddr_e _ _ _ _ _ _ _ underlying51 rfl sz3 rfl rfl rfl),zr' rfl (op_load_fr _ _ _ _ _ _ _ underlying3 rfl rfl rfl (gflat_cell T_tree_node.ilen hv2 rfl) (.v _)),zr' rfl (oL underlying49 rfl),zr' rfl (oL underlying3 rfl),zr' rfl (op_ix_fr _ _ _ _ _ _ _ _ underlying49 sz51 (by decide) rfl rfl rfl (ix_ok hv3).1 (gflat_lt T_tree_node.ilen (ix_ok hv3).2) rfl),zr' rfl (op_fieldAddr_e _ _ _ _ _ _ _ underlying51 rfl sz3 rfl rfl rfl),zr' rfl (op_load_fr _ _ _ _ _ _ _ underlying3 rfl rfl rfl (gflat_cell T_tree_node.ilen hv4 rfl) (.v _)),zr' rfl (oB rfl rfl),zr' rfl (op_pick _ _ false _ rfl rfl),z3 true rfl,zz⟩ ?_
     exact hl7 _ (Option.some.inj h).symm
   ·refine ht_anyR (by kernel_rfl) hn (El := (_ :: _ :: _ :: _ :: _ :: _ :: _ :: _ :: (5, .v (.int .i64 cap0)) :: (6, .v (.int .i64 cap1)) :: (7, .v (.bool ((decide (cap0 < cap1))))) :: (8, .v (.bool false)) :: (9, .v undef) :: (10, .v undef) :: (11, .v undef) :: (12, .v undef) :: (13, .v undef) :: (14, .v undef) :: (15, .v undef) :: (16, .v undef) :: (17, .v undef) :: (18, .v undef) :: (19, .v undef) :: (20, .v undef) :: (21, .v undef) :: (22, .v undef) :: (23, .v undef) :: (24, .v undef) :: (25, .v undef) :: (26, .v (.bool false)) :: [])) (init := [0, 1, 2, 3, 4, 5, 6, 7]) (fin := [0, 1, 2, 3, 4, 5, 6, 7, 29]) (sps := (zq [0] 8 5 :: zq [1] 9 6 :: zq [8,9] 10 7 :: zq [10] 11 8 :: zq [11] 12 9 :: zq [11] 13 10 :: zq [11] 14 11 :: zq [11] 15 12 :: zq [11] 16 13 :: zq [16] 17 14 :: zq [16] 18 15 :: zq [16] 19 16 :: zq [16] 20 17 :: zq [16] 21 18 :: zq [16] 22 19 :: zq [16] 23 20 :: zq [16] 24 21 :: zq [16] 25 22 :: zq [16] 26 23 :: zq [16] 27 24 :: zq [11] 28 25 :: zq [11] 29 26 :: [])) (es' := [(_,_),(_,_),(_,_),(_,_),(_,_),(_,_),(_,_),(_,_),(26, .v (.bool false))]) (by kernel_rfl) rfl rfl ⟨zp rfl (oL underlying3 rfl),zp rfl (oL underlying3 rfl),z4 rfl rfl,z8 hg1_3 rfl,zt rfl,zt rfl,zt rfl,zt rfl,zt rfl,zu' rfl,zu' rfl,zu' rfl,zu' rfl,zu' rfl,zu' rfl,zu' rfl,zu' rfl,zu' rfl,zu' rfl,zu' rfl,zt rfl,z3 false rfl,zz⟩ ?_
    exact hl7 _ (Option.some.inj h).symm
theorem ok_tree_merge (nodes : (List T_tree_node)) (r : (List T_tree_node)) (h : Sh.tree_merge nodes = some r) : FnE Try.prog 35 [.fr (.own 51) false 2 (List.flatten (List.map T_tree_node.ienc nodes))] (.fr .ro false 2 (List.flatten (List.map T_tree_node.ienc r))) := by
  unfold Sh.tree_merge at h
  refine fn_okE func35 rfl (zl rfl) rfl rfl fun g0 hn hio => ?_
  refine zgg hn [_,(1,.box 49 [.fr (.own 51) false 2 (List.flatten (List.map T_tree_node.ienc nodes))]),(2,.v (.slice none 0 0))] [0] [1] [⟨[],[0],[1],[(.slot 1)]⟩,zq [] 2 2] [(_,_)] rfl ⟨zp rfl (op_box_take _ _ _ _ _ rfl rfl rfl),z2 rfl,zz⟩ ?_
  refine zgg hn [_,(9,.same (.cell 1 0)),(10,vi (nodes.length : Int)),(3,.box 3 [vi 0]),(3,.box 3 [vi (nodes.length : Int)])] [0] [0,4] [zq [0] 1 9,zq [1,0] 2 10,zq [] 3 3,⟨[2],[3],[4],[.cell 3 0]⟩] [(_,_),(_,_)] rfl ⟨zp rfl (oL underlying49 rfl),zp rfl (op_len_fr _ _ _ underlying49 rfl (by decide) (gflat_len T_tree_node.ilen _)),zp rfl (op_alloc _ _ zr3),zp rfl (oS sz3 rfl),zz⟩ ?_
  refine ht_seq ?_
  refine ht_anyR (by kernel_rfl) hn (El := [_, _, (11, .v (.int .i64 (nodes.length : Int))), (4, .box 3 [.v (.int .i64 0)]), (5, .box 3 [.v (.int .i64 0)]), (4, .box 3 [.v (.int .i64 0)]), (5, .box 3 [.v (.int .i64 (nodes.length : Int))])]) (init := [0, 1]) (fin := [0, 1, 5, 6]) (sps := [zq [1] 2 11, zq [] 3 4, zq [] 4 5, ⟨[], [3], [5], [.cell 4 0]⟩, ⟨[2], [4], [6], [.cell 5 0]⟩]) (es' := [(_,_),(_,_),(4, .box 3 [.v (.int .i64 0)]), (5, .box 3 [.v (.int .i64 (nodes.length : Int))])]) (by kernel_rfl) rfl rfl ⟨zp rfl (oL underlying3 rfl),zp rfl (op_alloc _ _ zr3),zp rfl (op_alloc _ _ zr3),zp rfl (oS sz3 rfl),zp rfl (oS sz3 rfl),zz⟩ ?_
  refine pt_then ?_
  refine zgg hn [_,_,_,_,(12,.clo 40 [4,3,5,1]),(6,.clo 40 [4,3,5,1])] [0,1,2,3] [0,1,2,3,5] [zq [] 4 12,zq [4,2,1,3,0] 5 6] [(_,_),(_,_),(_,_),(_,_),(_,_)] rfl ⟨zp rfl (op_makeFuncs_name _ _ _ [4, 3, 5, 1] rfl rfl),z2 rfl,zz⟩ ?_
  refine ht_seq ?_
  refine ht_loopS h (fun ((s42, s43, s44, s45) : (List T_tree_node) × Int × Int × Int) => [(1, .box 49 [.fr (.own 51) false 2 (List.flatten (List.map T_tree_node.ienc s42))]), (3, .box 3 [.v (.int .i64 s43)]), (4, .box 3 [.v (.int .i64 s44)]), (5, .box 3 [.v (.int .i64 s45)]), (6, .clo 40 [4, 3, 5, 1])]) (fun (s47 : (List T_tree_node)) => [(1, .box 49 [.fr (.own 51) false 2 (List.flatten (List.map T_tree_node.ienc s47))])]) ?_ ?_
  ·rintro s47 h
   refine pt_then (ht_seq ?_)
   refine ht_frzE 0 hio (es' := [(1, .box 49 [.fr .ro false 2 (List.flatten (List.map T_tree_node.ienc s47))])]) rfl ?_
   refine zg hn [_,(50,.fr .ro false 2 (List.flatten (List.map T_tree_node.ienc s47))),(2,.fr .ro false 2 (List.flatten (List.map T_tree_node.ienc s47)))] [0] [2] [zq [0] 1 50,zq [1] 2 2] [(_,_)] rfl ⟨zp rfl (oL underlying49 rfl),z2 rfl,zz⟩ ?_
   refine pt_then (ht_ret ?_)
   obtain rfl := Option.some.inj h
   exact pt_retE hio rfl (.tmp _ _ .nil) rfl rfl
  ·rintro u48 hl49 hr50 ⟨s42, s43, s44, s45⟩ rr53 h ho51
   refine ht_seq ?_
   refine ht_seq ?_
   obtain ⟨v1, hv1, h⟩ := bind_some h
   obtain ⟨v2, hv2, h⟩ := bind_some h
   refine zg hn [_,_,_,_,_,(13,.same (.cell 1 0)),(14,vi (s42.length : Int)),(15,vi s43),(16,vi v1),(17,vi v2),(18,vb (decide ((s42.length : Int) < v2)))] [0,1,2,3,4] [0,1,2,3,4,10] [zq [0] 5 13,zq [5,0] 6 14,zq [1] 7 15,zq [7] 8 16,zq [8] 9 17,zq [6,9] 10 18] [(_,_),(_,_),(_,_),(_,_),(_,_),(_,_)] rfl ⟨zp rfl (oL underlying49 rfl),zp rfl (op_len_fr _ _ _ underlying49 rfl (by decide) (gflat_len T_tree_node.ilen _)),zp rfl (oL underlying3 rfl),zp rfl (oB rfl (ibind (f := Value.int .i64) (Option.some.inj hv1))),zp rfl (oB rfl (ibind (f := Value.int .i64) (Option.some.inj hv2))),z4 rfl rfl,zz⟩ ?_
   refine pt_then ?_
   refine ht_cond _ rfl (fun hb54 => ?_) (fun hb54 => ?_)
   ·have h := cond_t hb54 h
    refine ht_skip ?_
    refine pt_then ?_
    refine ht_block ?_
    refine ht_seq ?_
    obtain ⟨v4, hv4, h⟩ := bind_some h
    obtain ⟨v5, hv5, h⟩ := bind_some h
    refine zg hn (_::_::_::_::_::_::(19,.clo 40 [4,3,5,1])::(20,vi v4.1)::(4,.box 3 [vi v4.2.1])::(3,.box 3 [vi v4.2.2.1])::(5,.box 3 [vi v4.2.2.2.1])::(1,.box 49 [.fr (.own 51) false 2 (List.flatten (List.map T_tree_node.ienc v4.2.2.2.2))])::(21,.clo 40 [4,3,5,1])::(22,vi v5.1)::(4,.box 3 [vi v5.2.1])::(3,.box 3 [vi v5.2.2.1])::(5,.box 3 [vi v5.2.2.2.1])::(1,.box 49 [.fr (.own 51) false 2 (List.flatten (List.map T_tree_node.ienc v5.2.2.2.2))])::(7,vi v4.1)::(8,vi v5.1)::[]) [0,1,2,3,4,5] [17,15,14,16,4,18,19] [zq [4,2,1,3,0] 6 19,⟨[6],[2,1,3,0],[8,9,10,11,7],[(.slot 20),(.cell 4 0),(.cell 3 0),(.cell 5 0),(.cell 1 0)]⟩,zq [4,8,9,10,11] 12 21,⟨[12],[8,9,10,11],[14,15,16,17,13],[(.slot 22),(.cell 4 0),(.cell 3 0),(.cell 5 0),(.cell 1 0)]⟩,zq [7] 18 7,zq [13] 19 8] [(_,_),(_,_),(_,_),(_,_),(_,_),(_,_),(_,_)] rfl ⟨z1 rfl,zp rfl (op_callLs _ _ _ _ 20 19 40 [] [4, 3, 5, 1] _ _ _ rfl rfl rfl call40 rfl rfl (ok_tree_merge_1_clo s44 s43 s45 s42 _ hv4) rfl rfl rfl rfl rfl rfl rfl rfl rfl),z1 rfl,zp rfl (op_callLs _ _ _ _ 22 21 40 [] [4, 3, 5, 1] _ _ _ rfl rfl rfl call40 rfl rfl (ok_tree_merge_1_clo v4.2.1 v4.2.2.1 v4.2.2.2.1 v4.2.2.2.2 _ hv5) rfl rfl rfl rfl rfl rfl rfl rfl rfl),z2 rfl,z2 rfl,zz⟩ ?_
    refine pt_then (ht_seq ?_)
    obtain ⟨v6, hv6, h⟩ := bind_some h
    obtain ⟨v7, hv7, h⟩ := bind_some h
    obtain ⟨v8, hv8, h⟩ := bind_some h
    obtain ⟨v9, hv9, h⟩ := bind_some h
    obtain ⟨v10, hv10, h⟩ := bind_some h
    obtain ⟨v11, hv11, h⟩ := bind_some h
    refine ht_pick [0, 1, 2, 3, 4, 5, 6] rfl rfl ?_
    refine ht_open 58 0 (fun rb6 rn6 rc6 => [.v (.slice (some ⟨rb6, 0, none⟩) rn6 rc6)]) (zl rfl) rfl (fun _ _ _ => rfl) (ics_pos T_tree_node.ilen (by decide) hv7) fun rb6 rn6 rc6 rl6 => ?_
    refine ht_anyR (by kernel_rfl) hn (El := (_ :: _ :: _ :: _ :: _ :: _ :: _ :: _ :: (23, .v (.slice (some ⟨rb6, 0, none⟩) rn6 rc6)) :: (24, .v (.int .i64 v4.1)) :: (25, .v (.slice (some ⟨rb6, 0, none⟩) rn6 rc6)) :: (26, .v (.int .i64 v5.1)) :: (27, .v (.slice (some ⟨rb6, 0, none⟩) rn6 rc6)) :: (28, .v (.int .i64 (v5.2.2.2.2.length : Int))) :: (29, .v (.slice (some ⟨rb6, 0, none⟩) rn6 rc6)) :: (30, .v (.int .i64 (v5.2.2.2.2.length : Int))) :: (31, .v (.pointer (some ⟨rb6, (v6 * 2), none⟩))) :: (32, .v (.pointer (some ⟨rb6, (v6 * 2 + 1), none⟩))) :: (58, .inv (rowJ 51 false 2 (List.flatten (List.map T_tree_node.ienc v8)) rb6 rn6 rc6)) :: (33, .v (.pointer (some ⟨rb6, (v9 * 2), none⟩))) :: (34, .v (.pointer (some ⟨rb6, (v9 * 2 + 1), none⟩))) :: (58, .inv (rowJ 51 false 2 (List.flatten (List.map T_tree_node.ienc v11)) rb6 rn6 rc6)) :: [])) (init := [0, 1, 2, 3, 4, 5, 6, 7]) (fin := [0, 21, 2, 3, 4, 5, 6, 7]) (sps := [zq [0] 8 23, zq [6] 9 24, zq [0] 10 25, zq [7] 11 26, zq [0] 12 27, zq [12] 13 28, zq [0] 14 29, zq [14] 15 30, zq [8,9] 16 31, zq [16] 17 32, ⟨[17, 13], [1], [18], []⟩, zq [10,11] 19 33, zq [19] 20 34, ⟨[20, 15], [18], [21], []⟩]) (es' := [(_,_),(58, .inv (rowJ 51 false 2 (List.flatten (List.map T_tree_node.ienc v11)) rb6 rn6 rc6)), (_,_),(_,_),(_,_),(_,_),(_,_),(_,_)]) (by kernel_rfl) rfl rfl ⟨zp rfl (oL underlying49 rfl),z1 rfl,zp rfl (oL underlying49 rfl),z1 rfl,zp rfl (oL underlying49 rfl),zp rfl (op_len_val _ _ rb6 rn6 rc6 _ underlying49 rfl (ics_eq rl6 (gflat_len T_tree_node.ilen _) (by decide))),zp rfl (oL underlying49 rfl),zp rfl (op_len_val _ _ rb6 rn6 rc6 _ underlying49 rfl (ics_eq rl6 (gflat_len T_tree_node.ilen _) (by decide))),zp rfl (op_ix_val _ _ _ _ _ rb6 rn6 rc6 _ _ underlying49 sz51 rfl rfl (ix_ok hv6).1 (ics_lt rl6 (gflat_len T_tree_node.ilen _) (by decide) (ix_ok hv6).2)),zp rfl (op_fieldAddr_v _ _ _ _ rb6 (v6 * 2) _ underlying51 rfl sz3 rfl rfl),zp rfl (op_store_row _ _ _ 58 rb6 rn6 rc6 _ 1 _ sz3 rfl rfl rfl (by decide) (gflat_fit (q := 1) (s := 1) T_tree_node.ilen hv7 (by decide)) ((gflat_setc (q := 1) (s := 1) (y := (T_tree_node.mk v7.weight (v5.2.2.2.2.length : Int))) T_tree_node.ilen hv7 rfl (by decide)).trans (congrArg (fun l => List.flatten (List.map T_tree_node.ienc l)) (Option.some.inj hv8)))),zp rfl (op_ix_val _ _ _ _ _ rb6 rn6 rc6 _ _ underlying49 sz51 rfl rfl (ix_ok hv9).1 (ics_lt rl6 (gflat_len T_tree_node.ilen _) (by decide) (ix_ok hv9).2)),zp rfl (op_fieldAddr_v _ _ _ _ rb6 (v9 * 2) _ underlying51 rfl sz3 rfl rfl),zp rfl (op_store_row _ _ _ 58 rb6 rn6 rc6 _ 1 _ sz3 rfl rfl rfl (by decide) (gflat_fit (q := 1) (s := 1) T_tree_node.ilen hv10 (by decide)) ((gflat_setc (q := 1) (s := 1) (y := (T_tree_node.mk v10.weight (v5.2.2.2.2.length : Int))) T_tree_node.ilen hv10 rfl (by decide)).trans (congrArg (fun l => List.flatten (List.map T_tree_node.ienc l)) (Option.some.inj hv11)))),zz⟩ ?_
    refine pt_close 0 [.fr (.own 51) false 2 (List.flatten (List.map T_tree_node.ienc v11))] (zl rfl) rfl rfl ?_
    refine pt_then ?_
    obtain ⟨v12, hv12, h⟩ := bind_some h
    obtain ⟨v13, hv13, h⟩ := bind_some h
    obtain ⟨v14, hv14, h⟩ := bind_some h
    obtain ⟨v15, hv15, h⟩ := bind_some h
    obtain ⟨v16, hv16, h⟩ := bind_some h
    obtain ⟨v17, hv17, h⟩ := bind_some h
    refine ht_anyR (by kernel_rfl) hn (El := (_ :: _ :: _ :: _ :: _ :: _ :: _ :: (35, .same (.cell 1 0)) :: (36, .same (.cell 1 0)) :: (37, .v (.int .i64 v4.1)) :: (38, .eref (.cell 1 0) (v12 * 2)) :: (39, .eref (.cell 1 0) (v12 * 2 + 0)) :: (40, .v (.int .i64 v13.weight)) :: (41, .same (.cell 1 0)) :: (42, .v (.int .i64 v5.1)) :: (43, .eref (.cell 1 0) (v14 * 2)) :: (44, .eref (.cell 1 0) (v14 * 2 + 0)) :: (45, .v (.int .i64 v15.weight)) :: (46, .v (.int .i64 v16)) :: (47, .agg [.v (.int .i64 v16), .v (.int .i64 0)]) :: (48, .fr (.own 51) false 2 (List.flatten (List.map T_tree_node.ienc [(T_tree_node.mk v16 0)]))) :: (49, .fr (.own 51) false 2 (List.flatten (List.map T_tree_node.ienc v17))) :: (1, .box 49 [.any]) :: (1, .box 49 [.fr (.own 51) false 2 (List.flatten (List.map T_tree_node.ienc v17))]) :: [])) (init := [0, 1, 2, 3, 4, 5, 6]) (fin := [23, 1, 2, 3, 4]) (sps := (zq [0] 7 35 :: zq [0] 8 36 :: zq [5] 9 37 :: zq [8,0,9] 10 38 :: zq [10,0] 11 39 :: zq [11,0] 12 40 :: zq [0] 13 41 :: zq [6] 14 42 :: zq [13,0,14] 15 43 :: zq [15,0] 16 44 :: zq [16,0] 17 45 :: zq [12,17] 18 46 :: zq [18] 19 47 :: zq [19] 20 48 :: ⟨[7, 20], [0], [22, 21], [(.slot 49)]⟩ :: ⟨[], [7, 8, 10, 11, 13, 15, 16, 21, 22], [23], [.cell 1 0]⟩ :: [])) (es' := [(1, .box 49 [.fr (.own 51) false 2 (List.flatten (List.map T_tree_node.ienc v17))]), (_,_),(_,_),(_,_),(_,_)]) (by kernel_rfl) rfl rfl ⟨zp rfl (oL underlying49 rfl),zp rfl (oL underlying49 rfl),z1 rfl,zp rfl (op_ix_fr _ _ _ _ _ _ _ _ underlying49 sz51 (by decide) rfl rfl rfl (ix_ok hv12).1 (gflat_lt T_tree_node.ilen (ix_ok hv12).2) rfl),zp rfl (op_fieldAddr_e _ _ _ _ _ _ _ underlying51 rfl sz3 rfl rfl rfl),zp rfl (op_load_fr _ _ _ _ _ _ _ underlying3 rfl rfl rfl (gflat_cell T_tree_node.ilen hv13 rfl) (.v _)),zp rfl (oL underlying49 rfl),z1 rfl,zp rfl (op_ix_fr _ _ _ _ _ _ _ _ underlying49 sz51 (by decide) rfl rfl rfl (ix_ok hv14).1 (gflat_lt T_tree_node.ilen (ix_ok hv14).2) rfl),zp rfl (op_fieldAddr_e _ _ _ _ _ _ _ underlying51 rfl sz3 rfl rfl rfl),zp rfl (op_load_fr _ _ _ _ _ _ _ underlying3 rfl rfl rfl (gflat_cell T_tree_node.ilen hv15 rfl) (.v _)),zp rfl (oB rfl (ibind (f := Value.int .i64) (Option.some.inj hv16))),zp rfl (op_build _ _ _ _ [1, 1] _ _ underlying51 zr51 (fs51 _ underlying51) (.copy _ Src.nil) rfl rfl rfl),zp rfl (op_build1_fr _ _ _ 2 (.agg #[.int .i64 0, .int .i64 0]) false _ _ underlying49 sz51 zr51 rfl rfl (.cons (.v _) (.cons (.v _) (.nil))) rfl (by decide) (by decide)),zp rfl (op_app_fr_cell _ 49 1 0 _ _ el49 rfl rfl (zl rfl) rfl (gflat_len T_tree_node.ilen _) (gflat_len T_tree_node.ilen _) hv17 (gflat_app (app_eq hv17)) (by decide) (by decide) (by decide) rfl rfl),zp rfl (LOp.drop [_] (LOp.drop [_] (LOp.drop [_] (LOp.drop [_] (LOp.drop [_] (LOp.drop [_] (LOp.drop [_] (op_store_take _ _ _ _ _ _ _ _ sz49 rfl rfl rfl (zl rfl) rfl rfl)))))))),zz⟩ ?_
    refine pt_inb ?_
    exact pt_next _ (Option.some.inj h).symm rfl
   ·have h := cond_f hb54 h
    refine ht_exit ?_
    refine pt_x_then ?_
    refine pt_x_then ?_
    refine pt_x_in ?_
    refine pt_pick [0] (by kernel_rfl) (es' := [(_,_)]) rfl ?_
    exact hl49 _ (ho51 _ (Option.some.inj h).symm).symm
theorem ok_tree_depths (weights : (List Int)) (r : (List Int)) (h : Sh.tree_depths weights = some r) : FnOK Try.prog 22 [.fl .shr 1 (List.map (Value.int .i64) weights)] (.fl (.own 3) 1 (List.map (Value.int .i64) r)) := by
  unfold Sh.tree_depths at h
  refine fn_ok func22 rfl (zl rfl) rfl rfl fun g0 hn hio => ?_
  refine zgg hn [_,(1,.box 22 [.fl .shr 1 (List.map (Value.int .i64) weights)]),(2,.v (.slice none 0 0))] [0] [1] [zq [0] 1 1,zq [] 2 2] [(_,_)] rfl ⟨zp rfl (op_box _ _ _ _ rfl rfl rfl),z2 rfl,zz⟩ ?_
  refine ht_seq ?_
  obtain ⟨v1, hv1, h⟩ := bind_some h
  refine zg hn [_,(12,.fl .shr 1 (List.map (Value.int .i64) weights)),(13,vi (weights.length : Int)),(14,.fl (.own 3) 1 (List.map (Value.int .i64) v1)),(3,.fl (.own 3) 1 (List.map (Value.int .i64) v1))] [0] [0,4] [zq [0] 1 12,zq [1] 2 13,zq [2] 3 14,⟨[],[3],[4],[(.slot 3)]⟩] [(_,_),(_,_)] rfl ⟨zp rfl (oL underlying22 rfl),zp rfl (op_len_fl _ _ _ underlying22 rfl (by decide) (map_len _)),zp rfl (op_mk (f := Value.int .i64) _ _ _ _ el22 (by decide) zr3 rfl rfl rfl hv1),zp rfl (op_assign_take _ _ _ _ rfl),zz⟩ ?_
  refine pt_then (ht_seq ?_)
  obtain ⟨v2, hv2, h⟩ := bind_some h
  refine zg hn [_,_,(15,.fl .shr 1 (List.map (Value.int .i64) weights)),(16,.fl (.own 3) 1 (List.map (Value.int .i64) v2)),(4,.fl (.own 3) 1 (List.map (Value.int .i64) v2))] [0,1] [0,1,4] [zq [0] 2 15,zq [2] 3 16,⟨[],[3],[4],[(.slot 4)]⟩] [(_,_),(_,_),(_,_)] rfl ⟨zp rfl (oL underlying22 rfl),zp rfl (op_call _ _ 32 _ _ rfl call32 rfl (ok_tree_positive weights _ hv2) rfl rfl),zp rfl (op_assign_take _ _ _ _ rfl),zz⟩ ?_
  refine pt_then (ht_seq ?_)
  refine zgg hn [_,_,_,(17,.same (.slot 4)),(18,vi (v2.length : Int)),(19,vb ((v2.length : Int) == 0))] [0,1,2] [0,1,2,5] [zq [2] 3 17,zq [3,2] 4 18,zq [4] 5 19] [(_,_),(_,_),(_,_),(_,_)] rfl ⟨z1 rfl,zp rfl (op_len_fl _ _ _ underlying22 rfl (by decide) (map_len _)),z4 rfl rfl,zz⟩ ?_
  refine ht_cond _ rfl (fun hb3 => ?_) (fun hb3 => ?_)
  ·have h := cond_t hb3 h
   refine zgg hn [_,_,_,_,(20,.fl (.own 3) 1 (List.map (Value.int .i64) v1)),(2,.fl (.own 3) 1 (List.map (Value.int .i64) v1))] [0,1,2,3] [5] [⟨[],[1],[4],[(.slot 20)]⟩,⟨[],[4],[5],[(.slot 2)]⟩] [(_,_)] rfl ⟨zp rfl (op_move_take _ _ _ _ rfl),zp rfl (op_assign_take _ _ _ _ rfl),zz⟩ ?_
   refine ht_ret ?_
   refine pt_r_then ?_
   obtain rfl := Option.some.inj h
   exact pt_ret hio rfl (.tmp _ _ .nil) rfl rfl
  ·have h := cond_f hb3 h
   refine ht_skip ?_
   refine pt_then (ht_seq ?_)
   refine zgg hn [_,_,_,_,(21,.same (.slot 4)),(22,vi (v2.length : Int)),(23,vb ((v2.length : Int) == 1))] [0,1,2,3] [0,1,2,6] [zq [2] 4 21,zq [4,2] 5 22,zq [5] 6 23] [(_,_),(_,_),(_,_),(_,_)] rfl ⟨z1 rfl,zp rfl (op_len_fl _ _ _ underlying22 rfl (by decide) (map_len _)),z4 rfl rfl,zz⟩ ?_
   refine ht_cond _ rfl (fun hb4 => ?_) (fun hb4 => ?_)
   ·have h := cond_t hb4 h
    refine ht_seq ?_
    obtain ⟨v5, hv5, h⟩ := bind_some h
    obtain ⟨v6, hv6, h⟩ := bind_some h
    obtain ⟨v7, hv7, h⟩ := bind_some h
    obtain ⟨v8, hv8, h⟩ := bind_some h
    refine zg hn [_,_,_,_,(24,.same (.slot 3)),(25,.fl (.own 3) 1 (List.map (Value.int .i64) v2)),(26,.eref (.slot 25) (v5 * 1)),(27,vi v6),(28,.eref (.slot 3) (v7 * 1)),(3,.fl (.own 3) 1 (List.map (Value.int .i64) v8))] [0,1,2,3] [9] [zq [1] 4 24,⟨[],[2],[5],[(.slot 25)]⟩,zq [5] 6 26,zq [6,5] 7 27,zq [4,1,7] 8 28,⟨[8],[1],[9],[]⟩] [(_,_)] rfl ⟨z1 rfl,zp rfl (op_move_take _ _ _ _ rfl),zp rfl (op_ix _ _ _ _ _ _ _ _ underlying22 sz3 (by decide) rfl rfl rfl (ix_ok hv5).1 (map_lt (ix_ok hv5).2) rfl),zp rfl (op_load_e _ _ _ _ _ _ underlying3 rfl rfl rfl (map_get hv6)),zp rfl (op_ix _ _ _ _ _ _ _ _ underlying22 sz3 (by decide) rfl rfl rfl (ix_ok hv7).1 (map_lt (ix_ok hv7).2) rfl),zp rfl (op_store_e _ _ _ _ _ _ _ _ sz3 rfl rfl rfl (by decide) (map_lt (ix_ok hv7).2) ((map_set (f := Value.int .i64) _ (ix_ok hv7).2).trans (congrArg (List.map _) (Option.some.inj hv8)))),zz⟩ ?_
    refine pt_then ?_
    refine zgg hn [_,(29,.fl (.own 3) 1 (List.map (Value.int .i64) v8)),(2,.fl (.own 3) 1 (List.map (Value.int .i64) v8))] [0] [2] [⟨[],[0],[1],[(.slot 29)]⟩,⟨[],[1],[2],[(.slot 2)]⟩] [(_,_)] rfl ⟨zp rfl (op_move_take _ _ _ _ rfl),zp rfl (op_assign_take _ _ _ _ rfl),zz⟩ ?_
    refine ht_ret ?_
    refine pt_r_then ?_
    obtain rfl := Option.some.inj h
    exact pt_ret hio rfl (.tmp _ _ .nil) rfl rfl
   ·have h := cond_f hb4 h
    refine ht_skip ?_
    refine pt_then (ht_seq ?_)
    obtain ⟨v9, hv9, h⟩ := bind_some h
    refine zg hn [_,_,_,_,(30,.same (.slot 4)),(31,.clo 34 [1]),(32,.tup []),(4,.fl (.own 3) 1 (List.map (Value.int .i64) v9))] [0,1,2,3] [0,1,7] [zq [2] 4 30,zq [] 5 31,⟨[4,5,0],[2],[7,6],[(.slot 32)]⟩] [(_,_),(_,_),(_,_)] rfl ⟨z1 rfl,zp rfl (op_makeFunc_name _ _ _ 1 (by decide)),zp rfl (op_sort _ 32 4 31 1 _ _ weights v2 v9 rfl call33 Try.sort_ok rfl rfl rfl rfl rfl hv9 rfl (by decide)),zz⟩ ?_
    refine pt_then (ht_seq ?_)
    obtain ⟨v10, hv10, h⟩ := bind_some h
    obtain ⟨v11, hv11, h⟩ := bind_some h
    refine zg hn [_,_,_,(33,.same (.slot 4)),(34,vi (v9.length : Int)),(35,vi v10),(36,.fr (.own 51) false 2 (List.flatten (List.map T_tree_node.ienc ([] : List T_tree_node)))),(5,.fr (.own 51) false 2 (List.flatten (List.map T_tree_node.ienc ([] : List T_tree_node))))] [0,1,2] [0,1,2,7] [zq [2] 3 33,zq [3,2] 4 34,zq [4] 5 35,zq [5] 6 36,⟨[],[6],[7],[(.slot 5)]⟩] [(_,_),(_,_),(_,_),(_,_)] rfl ⟨z1 rfl,zp rfl (op_len_fl _ _ _ underlying22 rfl (by decide) (map_len _)),zp rfl (oB rfl (ibind (f := Value.int .i64) (Option.some.inj hv10))),zp rfl (op_mk0f _ _ 2 false _ _ el49 (by decide) rfl rfl hv11),zp rfl (op_assign_take _ _ _ _ rfl),zz⟩ ?_
    refine pt_then (ht_seq ?_)
    refine zgg hn [_,_,_,_,(37,.same (.slot 4)),(38,vi (v9.length : Int)),(39,vi 0)] [0,1,2,3] [0,1,2,3,4,5,6] [zq [2] 4 37,zq [4,2] 5 38,zq [] 6 39] [(_,_),(_,_),(_,_),(_,_),(_,_),(_,_),(_,_)] rfl ⟨z1 rfl,zp rfl (op_len_fl _ _ _ underlying22 rfl (by decide) (map_len _)),z1 rfl,zz⟩ ?_
    refine ht_loopS h (fun ((s22, s23) : (List T_tree_node) × Int) => [(1, .box 22 [.fl .shr 1 (List.map (Value.int .i64) weights)]), (3, .fl (.own 3) 1 (List.map (Value.int .i64) v1)), (4, .fl (.own 3) 1 (List.map (Value.int .i64) v9)), (5, .fr (.own 51) false 2 (List.flatten (List.map T_tree_node.ienc s22))), (37, .same (.slot 4)), (38, .v (.int .i64 (v9.length : Int))), (39, .v (.int .i64 s23))]) (fun (s25 : (List T_tree_node)) => [(3, .fl (.own 3) 1 (List.map (Value.int .i64) v1)), (4, .fl (.own 3) 1 (List.map (Value.int .i64) v9)), (5, .fr (.own 51) false 2 (List.flatten (List.map T_tree_node.ienc s25)))]) ?_ ?_
    ·rintro s25 h
     refine pt_then (ht_seq ?_)
     obtain ⟨v33, hv33, h⟩ := bind_some h
     refine zg hn [_,_,_,(52,.fr (.own 51) false 2 (List.flatten (List.map T_tree_node.ienc s25))),(53,.fr .ro false 2 (List.flatten (List.map T_tree_node.ienc v33))),(52,.any),(5,.fr .ro false 2 (List.flatten (List.map T_tree_node.ienc v33)))] [0,1,2] [0,1,6] [⟨[],[2],[3],[(.slot 52)]⟩,⟨[],[3],[5,4],[(.slot 53)]⟩,zq [4] 6 5] [(_,_),(_,_),(_,_)] rfl ⟨zp rfl (op_move_take _ _ _ _ rfl),zp rfl (op_callEf _ _ 52 35 _ _ rfl call35 rfl rfl (ok_tree_merge s25 _ hv33) rfl rfl rfl),z2 rfl,zz⟩ ?_
     refine pt_then (ht_seq ?_)
     obtain ⟨v34, hv34, h⟩ := bind_some h
     refine zg hn [_,_,_,(54,.fr .ro false 2 (List.flatten (List.map T_tree_node.ienc v33))),(55,vi (v33.length : Int)),(56,.fl (.own 3) 1 (List.map (Value.int .i64) v34)),(8,.fl (.own 3) 1 (List.map (Value.int .i64) v34))] [0,1,2] [0,1,2,6] [zq [2] 3 54,zq [3] 4 55,zq [4] 5 56,⟨[],[5],[6],[(.slot 8)]⟩] [(_,_),(_,_),(_,_),(_,_)] rfl ⟨z1 rfl,zp rfl (op_len_fr _ _ _ underlying49 rfl (by decide) (gflat_len T_tree_node.ilen _)),zp rfl (op_mk (f := Value.int .i64) _ _ _ _ el22 (by decide) zr3 rfl rfl rfl hv34),zp rfl (op_assign_take _ _ _ _ rfl),zz⟩ ?_
     refine pt_then (ht_seq ?_)
     refine ht_seq ?_
     obtain ⟨v35, hv35, h⟩ := bind_some h
     refine zg hn [_,_,_,_,(57,.fr .ro false 2 (List.flatten (List.map T_tree_node.ienc v33))),(58,vi (v33.length : Int)),(59,vi v35),(9,vi v35)] [0,1,2,3] [0,1,2,3,7] [zq [2] 4 57,zq [4] 5 58,zq [5] 6 59,zq [6] 7 9] [(_,_),(_,_),(_,_),(_,_),(_,_)] rfl ⟨z1 rfl,zp rfl (op_len_fr _ _ _ underlying49 rfl (by decide) (gflat_len T_tree_node.ilen _)),zp rfl (oB rfl (ibind (f := Value.int .i64) (Option.some.inj hv35))),z2 rfl,zz⟩ ?_
     refine pt_then ?_
     refine ht_loopS h (fun ((s48, s49) : (List Int) × Int) => [(3, .fl (.own 3) 1 (List.map (Value.int .i64) v1)), (4, .fl (.own 3) 1 (List.map (Value.int .i64) v9)), (5, .fr .ro false 2 (List.flatten (List.map T_tree_node.ienc v33))), (8, .fl (.own 3) 1 (List.map (Value.int .i64) s48)), (9, .v (.int .i64 s49))]) (fun (s51 : (List Int)) => [(3, .fl (.own 3) 1 (List.map (Value.int .i64) v1)), (4, .fl (.own 3) 1 (List.map (Value.int .i64) v9)), (8, .fl (.own 3) 1 (List.map (Value.int .i64) s51))]) ?_ ?_
     ·rintro s51 h
      refine pt_then (ht_seq ?_)
      refine zgg hn [_,_,_,(76,.fl (.own 3) 1 (List.map (Value.int .i64) v9)),(77,vi (v9.length : Int)),(78,vi 0)] [0,1,2] [0,2,3,4,5] [⟨[],[1],[3],[(.slot 76)]⟩,zq [3] 4 77,zq [] 5 78] [(_,_),(_,_),(_,_),(_,_),(_,_)] rfl ⟨zp rfl (op_move_take _ _ _ _ rfl),zp rfl (op_len_fl _ _ _ underlying22 rfl (by decide) (map_len _)),z1 rfl,zz⟩ ?_
      refine ht_loopS h (fun ((s70, s71) : (List Int) × Int) => [(3, .fl (.own 3) 1 (List.map (Value.int .i64) s70)), (8, .fl (.own 3) 1 (List.map (Value.int .i64) s51)), (76, .fl (.own 3) 1 (List.map (Value.int .i64) v9)), (77, .v (.int .i64 (v9.length : Int))), (78, .v (.int .i64 s71))]) (fun (s73 : (List Int)) => [(3, .fl (.own 3) 1 (List.map (Value.int .i64) s73))]) ?_ ?_
      ·rintro s73 h
       refine pt_then ?_
       refine zgg hn [_,(91,.fl (.own 3) 1 (List.map (Value.int .i64) s73)),(2,.fl (.own 3) 1 (List.map (Value.int .i64) s73))] [0] [2] [⟨[],[0],[1],[(.slot 91)]⟩,⟨[],[1],[2],[(.slot 2)]⟩] [(_,_)] rfl ⟨zp rfl (op_move_take _ _ _ _ rfl),zp rfl (op_assign_take _ _ _ _ rfl),zz⟩ ?_
       refine ht_ret ?_
       obtain rfl := Option.some.inj h
       exact pt_ret hio rfl (.tmp _ _ .nil) rfl rfl
      ·rintro u74 hl75 hr76 ⟨s70, s71⟩ rr79 h ho77
       refine zgg hn [_,_,_,_,_,(79,vb (decide (s71 < (v9.length : Int))))] [0,1,2,3,4] [0,1,2,3,4,5] [zq [4,3] 5 79] [(_,_),(_,_),(_,_),(_,_),(_,_),(_,_)] rfl ⟨z4 rfl rfl,zz⟩ ?_
       refine ht_seq ?_
       refine ht_cond _ rfl (fun hb80 => ?_) (fun hb80 => ?_)
       ·have h := cond_t hb80 h
        refine ht_skip ?_
        refine pt_then (ht_seq ?_)
        refine ht_block ?_
        refine ht_seq ?_
        obtain ⟨v60, hv60, h⟩ := bind_some h
        obtain ⟨v61, hv61, h⟩ := bind_some h
        refine zg hn [_,_,_,_,_,_,(80,vi s71),(81,.eref (.slot 76) (v60 * 1)),(82,vi v61),(10,vi s71),(11,vi v61)] [0,1,2,3,4,5] [0,1,2,3,4,9,10] [zq [4] 6 80,zq [2,4] 7 81,zq [7,2] 8 82,zq [6] 9 10,zq [8] 10 11] [(_,_),(_,_),(_,_),(_,_),(_,_),(_,_),(_,_)] rfl ⟨z1 rfl,zp rfl (op_ix _ _ _ _ _ _ _ _ underlying22 sz3 (by decide) rfl rfl rfl (ix_ok hv60).1 (map_lt (ix_ok hv60).2) rfl),zp rfl (op_load_e _ _ _ _ _ _ underlying3 rfl rfl rfl (map_get hv61)),z2 rfl,z2 rfl,zz⟩ ?_
        refine pt_then ?_
        obtain ⟨v62, hv62, h⟩ := bind_some h
        obtain ⟨v63, hv63, h⟩ := bind_some h
        obtain ⟨v64, hv64, h⟩ := bind_some h
        obtain ⟨v65, hv65, h⟩ := bind_some h
        refine zg hn (_::_::_::_::_::_::_::(83,.same (.slot 3))::(84,vi v61)::(85,.same (.slot 8))::(86,vi s71)::(87,.eref (.slot 8) (v62 * 1))::(88,vi v63)::(89,.eref (.slot 3) (v64 * 1))::(3,.fl (.own 3) 1 (List.map (Value.int .i64) v65))::[]) [0,1,2,3,4,5,6] [14,1,2,3,4] [zq [0] 7 83,zq [6] 8 84,zq [1] 9 85,zq [5] 10 86,zq [9,1,10] 11 87,zq [11,1] 12 88,zq [7,0,8] 13 89,⟨[13,12],[0],[14],[]⟩] [(_,_),(_,_),(_,_),(_,_),(_,_)] rfl ⟨z1 rfl,z1 rfl,z1 rfl,z1 rfl,zp rfl (op_ix _ _ _ _ _ _ _ _ underlying22 sz3 (by decide) rfl rfl rfl (ix_ok hv62).1 (map_lt (ix_ok hv62).2) rfl),zp rfl (op_load_e _ _ _ _ _ _ underlying3 rfl rfl rfl (map_get hv63)),zp rfl (op_ix _ _ _ _ _ _ _ _ underlying22 sz3 (by decide) rfl rfl rfl (ix_ok hv64).1 (map_lt (ix_ok hv64).2) rfl),zp rfl (op_store_e _ _ _ _ _ _ _ _ sz3 rfl rfl rfl (by decide) (map_lt (ix_ok hv64).2) ((map_set (f := Value.int .i64) _ (ix_ok hv64).2).trans (congrArg (List.map _) (Option.some.inj hv65)))),zz⟩ ?_
        refine pt_inb ?_
        refine pt_then ?_
        obtain ⟨v66, hv66, h⟩ := bind_some h
        refine zg hn [_,_,_,_,_,(90,vi v66),(78,vi v66)] [0,1,2,3,4] [0,1,2,3,6] [zq [4] 5 90,⟨[5],[4],[6],[(.slot 78)]⟩] [(_,_),(_,_),(_,_),(_,_),(_,_)] rfl ⟨zp rfl (oB rfl (ibind (f := Value.int .i64) (Option.some.inj hv66))),zp rfl (LOp.drop [_] (oM rfl)),zz⟩ ?_
        exact pt_next _ (Option.some.inj h).symm rfl
       ·have h := cond_f hb80 h
        refine ht_exit ?_
        refine pt_x_then ?_
        refine pt_x_then ?_
        refine pt_x_in ?_
        refine pt_pick [0] (by kernel_rfl) (es' := [(_,_)]) rfl ?_
        exact hl75 _ (ho77 _ (Option.some.inj h).symm).symm
     ·rintro u52 hl53 hr54 ⟨s48, s49⟩ rr57 h ho55
      refine ht_seq ?_
      refine zgg hn [_,_,_,_,_,(60,vi s49),(61,vb (decide (0 ≤ s49)))] [0,1,2,3,4] [0,1,2,3,4,6] [zq [4] 5 60,zq [5] 6 61] [(_,_),(_,_),(_,_),(_,_),(_,_),(_,_)] rfl ⟨z1 rfl,z4 rfl rfl,zz⟩ ?_
      refine ht_cond _ rfl (fun hb58 => ?_) (fun hb58 => ?_)
      ·have h := cond_t hb58 h
       refine ht_skip ?_
       refine pt_then (ht_seq ?_)
       refine ht_block ?_
       obtain ⟨v37, hv37, h⟩ := bind_some h
       obtain ⟨v38, hv38, h⟩ := bind_some h
       obtain ⟨v39, hv39, h⟩ := bind_some h
       obtain ⟨v40, hv40, h⟩ := bind_some h
       obtain ⟨v41, hv41, h⟩ := bind_some h
       obtain ⟨v42, hv42, h⟩ := bind_some h
       obtain ⟨v43, hv43, h⟩ := bind_some h
       refine zg hn (_::_::_::_::_::_::(64,.same (.slot 8))::(65,vi s49)::(66,.same (.slot 8))::(67,.fr .ro false 2 (List.flatten (List.map T_tree_node.ienc v33)))::(68,vi s49)::(69,.eref (.slot 67) (v37 * 2))::(70,.eref (.slot 67) (v37 * 2 + 1))::(71,vi v38.parent)::(72,.eref (.slot 8) (v39 * 1))::(73,vi v40)::(74,vi v41)::(75,.eref (.slot 8) (v42 * 1))::(8,.fl (.own 3) 1 (List.map (Value.int .i64) v43))::[]) [0,1,2,3,4,5] [0,1,2,18,4] [zq [3] 6 64,zq [4] 7 65,zq [3] 8 66,zq [2] 9 67,zq [4] 10 68,zq [9,10] 11 69,zq [11,9] 12 70,zq [12,9] 13 71,zq [8,3,13] 14 72,zq [14,3] 15 73,zq [15] 16 74,zq [6,3,7] 17 75,⟨[17,16],[3],[18],[]⟩] [(_,_),(_,_),(_,_),(_,_),(_,_)] rfl ⟨z1 rfl,z1 rfl,z1 rfl,z1 rfl,z1 rfl,zp rfl (op_ix_fr _ _ _ _ _ _ _ _ underlying49 sz51 (by decide) rfl rfl rfl (ix_ok hv37).1 (gflat_lt T_tree_node.ilen (ix_ok hv37).2) rfl),zp rfl (op_fieldAddr_e _ _ _ _ _ _ _ underlying51 rfl sz3 rfl rfl rfl),zp rfl (op_load_fr _ _ _ _ _ _ _ underlying3 rfl rfl rfl (gflat_cell T_tree_node.ilen hv38 rfl) (.v _)),zp rfl (op_ix _ _ _ _ _ _ _ _ underlying22 sz3 (by decide) rfl rfl rfl (ix_ok hv39).1 (map_lt (ix_ok hv39).2) rfl),zp rfl (op_load_e _ _ _ _ _ _ underlying3 rfl rfl rfl (map_get hv40)),zp rfl (oB rfl (ibind (f := Value.int .i64) (Option.some.inj hv41))),zp rfl (op_ix _ _ _ _ _ _ _ _ underlying22 sz3 (by decide) rfl rfl rfl (ix_ok hv42).1 (map_lt (ix_ok hv42).2) rfl),zp rfl (op_store_e _ _ _ _ _ _ _ _ sz3 rfl rfl rfl (by decide) (map_lt (ix_ok hv42).2) ((map_set (f := Value.int .i64) _ (ix_ok hv42).2).trans (congrArg (List.map _) (Option.some.inj hv43)))),zz⟩ ?_
       refine pt_inb ?_
       refine pt_then ?_
       obtain ⟨v44, hv44, h⟩ := bind_some h
       refine zg hn [_,_,_,_,_,(62,vi s49),(63,vi v44),(9,vi v44)] [0,1,2,3,4] [0,1,2,3,7] [zq [4] 5 62,zq [5] 6 63,⟨[6],[4],[7],[(.slot 9)]⟩] [(_,_),(_,_),(_,_),(_,_),(_,_)] rfl ⟨z1 rfl,zp rfl (oB rfl (ibind (f := Value.int .i64) (Option.some.inj hv44))),zp rfl (LOp.drop [_] (op_assign _ _ _ _ rfl rfl)),zz⟩ ?_
       exact pt_next _ (Option.some.inj h).symm rfl
      ·have h := cond_f hb58 h
       refine ht_exit ?_
       refine pt_x_then ?_
       refine pt_x_then ?_
       refine pt_x_in ?_
       refine pt_pick [0, 1, 3] (by kernel_rfl) (es' := [(_,_),(_,_),(_,_)]) rfl ?_
       exact hl53 _ (ho55 _ (Option.some.inj h).symm).symm
    ·rintro u26 hl27 hr28 ⟨s22, s23⟩ rr31 h ho29
     refine zgg hn [_,_,_,_,_,_,_,(40,vb (decide (s23 < (v9.length : Int))))] [0,1,2,3,4,5,6] [0,1,2,3,4,5,6,7] [zq [6,5] 7 40] [(_,_),(_,_),(_,_),(_,_),(_,_),(_,_),(_,_),(_,_)] rfl ⟨z4 rfl rfl,zz⟩ ?_
     refine ht_seq ?_
     refine ht_cond _ rfl (fun hb32 => ?_) (fun hb32 => ?_)
     ·have h := cond_t hb32 h
      refine ht_skip ?_
      refine pt_then (ht_seq ?_)
      refine ht_block ?_
      refine ht_seq ?_
      obtain ⟨v13, hv13, h⟩ := bind_some h
      obtain ⟨v14, hv14, h⟩ := bind_some h
      refine zg hn [_,_,_,_,_,_,_,_,(41,.eref (.slot 4) (v13 * 1)),(42,vi v14),(7,vi v14)] [0,1,2,3,4,5,6,7] [0,1,2,3,4,5,6,10] [zq [4,2,6] 8 41,zq [8,2] 9 42,zq [9] 10 7] [(_,_),(_,_),(_,_),(_,_),(_,_),(_,_),(_,_),(_,_)] rfl ⟨zp rfl (op_ix _ _ _ _ _ _ _ _ underlying22 sz3 (by decide) rfl rfl rfl (ix_ok hv13).1 (map_lt (ix_ok hv13).2) rfl),zp rfl (op_load_e _ _ _ _ _ _ underlying3 rfl rfl rfl (map_get hv14)),z2 rfl,zz⟩ ?_
      refine pt_then ?_
      obtain ⟨v15, hv15, h⟩ := bind_some h
      obtain ⟨v16, hv16, h⟩ := bind_some h
      obtain ⟨v17, hv17, h⟩ := bind_some h
      refine zg hn (_::_::_::_::_::_::_::_::(43,.fr (.own 51) false 2 (List.flatten (List.map T_tree_node.ienc s22)))::(44,.fl .shr 1 (List.map (Value.int .i64) weights))::(45,vi v14)::(46,.eref (.slot 44) (v15 * 1))::(47,vi v16)::(48,.agg [vi v16,vi 0])::(49,.fr (.own 51) false 2 (List.flatten (List.map T_tree_node.ienc [(T_tree_node.mk v16 0)])))::(50,.fr (.own 51) false 2 (List.flatten (List.map T_tree_node.ienc v17)))::(43,.any)::(5,.fr (.own 51) false 2 (List.flatten (List.map T_tree_node.ienc v17)))::[]) [0,1,2,3,4,5,6,7] [0,1,2,4,5,6,17] [⟨[],[3],[8],[(.slot 43)]⟩,zq [0] 9 44,zq [7] 10 45,zq [9,10] 11 46,zq [11,9] 12 47,zq [12] 13 48,zq [13] 14 49,⟨[14],[8],[16,15],[(.slot 50)]⟩,⟨[],[15],[17],[(.slot 5)]⟩] [(_,_),(_,_),(_,_),(_,_),(_,_),(_,_),(_,_)] rfl ⟨zp rfl (op_move_take _ _ _ _ rfl),zp rfl (oL underlying22 rfl),z1 rfl,zp rfl (op_ix _ _ _ _ _ _ _ _ underlying22 sz3 (by decide) rfl rfl rfl (ix_ok hv15).1 (map_lt (ix_ok hv15).2) rfl),zp rfl (op_load_e _ _ _ _ _ _ underlying3 rfl rfl rfl (map_get hv16)),zp rfl (op_build _ _ _ _ [1, 1] _ _ underlying51 zr51 (fs51 _ underlying51) (.copy _ Src.nil) rfl rfl rfl),zp rfl (op_build1_fr _ _ _ 2 (.agg #[.int .i64 0, .int .i64 0]) false _ _ underlying49 sz51 zr51 rfl rfl (.cons (.v _) (.cons (.v _) (.nil))) rfl (by decide) (by decide)),zp rfl (op_app_fr _ _ _ _ _ el49 rfl rfl (gflat_len T_tree_node.ilen _) (gflat_len T_tree_node.ilen _) hv17 (gflat_app (app_eq hv17)) (by decide) (by decide)),zp rfl (op_assign_take _ _ _ _ rfl),zz⟩ ?_
      refine pt_inb ?_
      refine pt_then ?_
      obtain ⟨v18, hv18, h⟩ := bind_some h
      refine zg hn [_,_,_,_,_,_,_,(51,vi v18),(39,vi v18)] [0,1,2,3,4,5,6] [0,1,2,3,4,6,8] [zq [5] 7 51,⟨[7],[5],[8],[(.slot 39)]⟩] [(_,_),(_,_),(_,_),(_,_),(_,_),(_,_),(_,_)] rfl ⟨zp rfl (oB rfl (ibind (f := Value.int .i64) (Option.some.inj hv18))),zp rfl (LOp.drop [_] (oM rfl)),zz⟩ ?_
      refine pt_pick [0, 1, 2, 5, 3, 4, 6] (by kernel_rfl) (es' := [(_,_),(_,_),(_,_),(_,_),(_,_),(_,_),(_,_)]) rfl ?_
      exact pt_next _ (Option.some.inj h).symm rfl
     ·have h := cond_f hb32 h
      refine ht_exit ?_
      refine pt_x_then ?_
      refine pt_x_then ?_
      refine pt_x_in ?_
      refine pt_pick [1, 2, 3] (by kernel_rfl) (es' := [(_,_),(_,_),(_,_)]) rfl ?_
      exact hl27 _ (ho29 _ (Option.some.inj h).symm).symm
theorem ok_tree_Lengths_1_cap (bx : Nat) (n : Int) (cap : Int) (r : Bool) (h : Sh.tree_Lengths_1_cap n cap = some r) : FnG Try.prog [(bx, [.int .i64 cap])] 24 [.v (.int .i64 n), .v (.pointer (some ⟨bx, 0, none⟩))] (.v (.bool r)) := by
  unfold Sh.tree_Lengths_1_cap at h
  refine fn_okG func24 rfl (zl rfl) rfl rfl fun g0 hn hio => ?_
  refine zgg hn [_,_,_,(3,vb false)] [0,1,2] [0,1,2] [zq [] 3 3] [(_,_),(_,_),(_,_)] rfl ⟨z2 rfl,zz⟩ ?_
  refine zgg hn [_,_,_,(4,vi n),(5,vi cap),(6,vb (decide (cap < n))),(3,vb (decide (cap < n)))] [0,1,2] [2,6] [zq [0] 3 4,zq [1,2] 4 5,zq [3,4] 5 6,zq [5] 6 3] [(_,_),(_,_)] rfl ⟨z1 rfl,zp rfl (op_load_glob _ _ 7 bx 0 _ _ underlying3 rfl rfl rfl (.head _) rfl),z4 rfl rfl,z2 rfl,zz⟩ ?_
  refine ht_ret ?_
  refine pt_pick [1] (by kernel_rfl) (es' := [(_,_)]) rfl ?_
  obtain rfl := Option.some.inj h
  exact pt_ret hio rfl (.tmp _ _ .nil) rfl rfl
theorem ok_slices_IndexFunc_int_int_of_tree_Lengths_1 (bx : Nat) (s : (List Int)) (cap : Int) (r : Int) (h : Sh.slices_IndexFunc_int_int_of_tree_Lengths_1 s cap = some r) : FnG Try.prog [(bx, [.int .i64 cap])] 36 [.fl .shr 1 (List.map (Value.int .i64) s), .v (.func (.func 24) #[] #[.pointer (some ⟨bx, 0, none⟩)])] (.v (.int .i64 r)) := by
  unfold Sh.slices_IndexFunc_int_int_of_tree_Lengths_1 at h
  refine fn_okG func36 rfl (zl rfl) rfl rfl fun g0 hn hio => ?_
  refine zgg hn [_,_,_,(4,vi 0)] [0,1,2] [0,1,2] [zq [] 3 4] [(_,_),(_,_),(_,_)] rfl ⟨z2 rfl,zz⟩ ?_
  refine ht_seq ?_
  refine zgg hn [_,_,_,(6,.fl .shr 1 (List.map (Value.int .i64) s)),(7,vi (s.length : Int)),(8,vi 0)] [0,1,2] [0,1,2,4,5] [zq [0] 3 6,zq [3] 4 7,zq [] 5 8] [(_,_),(_,_),(_,_),(_,_),(_,_)] rfl ⟨z1 rfl,zp rfl (op_len_fl _ _ _ underlying22 rfl (by decide) (map_len _)),z1 rfl,zz⟩ ?_
  refine ht_loopS h (fun (s10 : Int) => [(0, .fl .shr 1 (List.map (Value.int .i64) s)), (1, .v (.func (.func 24) #[] #[.pointer (some ⟨bx, 0, none⟩)])), (19, .glob [(bx, [.int .i64 cap])]), (7, .v (.int .i64 (s.length : Int))), (8, .v (.int .i64 s10))]) (fun (() : Unit) => [(19, .glob [(bx, [.int .i64 cap])])]) ?_ ?_
  ·rintro ⟨⟩ h
   refine pt_then ?_
   refine zgg hn [_,(4,vi (-1))] [0] [0,1] [zq [] 1 4] [(_,_),(_,_)] rfl ⟨z2 rfl,zz⟩ ?_
   refine ht_ret ?_
   refine pt_pick [1] (by kernel_rfl) (es' := [(_,_)]) rfl ?_
   obtain rfl := Option.some.inj h
   exact pt_ret hio rfl (.tmp _ _ .nil) rfl rfl
  ·rintro u13 hl14 hr15 s10 rr18 h ho16
   refine zgg hn [_,_,_,_,_,(9,vb (decide (s10 < (s.length : Int))))] [0,1,2,3,4] [0,1,2,3,4,5] [zq [4,3] 5 9] [(_,_),(_,_),(_,_),(_,_),(_,_),(_,_)] rfl ⟨z4 rfl rfl,zz⟩ ?_
   refine ht_seq ?_
   refine ht_cond _ rfl (fun hb19 => ?_) (fun hb19 => ?_)
   ·have h := cond_t hb19 h
    refine ht_skip ?_
    refine pt_then (ht_seq ?_)
    refine ht_block ?_
    refine zgg hn [_,_,_,_,_,_,(10,vi s10),(5,vi s10)] [0,1,2,3,4,5] [0,1,2,3,4,7] [zq [4] 6 10,zq [6] 7 5] [(_,_),(_,_),(_,_),(_,_),(_,_),(_,_)] rfl ⟨z1 rfl,z2 rfl,zz⟩ ?_
    refine ht_seq ?_
    obtain ⟨v2, hv2, h⟩ := bind_some h
    obtain ⟨v3, hv3, h⟩ := bind_some h
    obtain ⟨v4, hv4, h⟩ := bind_some h
    refine zg hn [_,_,_,_,_,_,(11,.v (.func (.func 24) #[] #[.pointer (some ⟨bx,0,none⟩)])),(12,.fl .shr 1 (List.map (Value.int .i64) s)),(13,vi s10),(14,.eref (.slot 12) (v2 * 1)),(15,vi v3),(16,vb v4)] [0,1,2,3,4,5] [0,1,2,3,4,5,11] [zq [1] 6 11,zq [0] 7 12,zq [5] 8 13,zq [7,8] 9 14,zq [9,7] 10 15,zq [10,6,2] 11 16] [(_,_),(_,_),(_,_),(_,_),(_,_),(_,_),(_,_)] rfl ⟨z1 rfl,z1 rfl,z1 rfl,zp rfl (op_ix _ _ _ _ _ _ _ _ underlying22 sz3 (by decide) rfl rfl rfl (ix_ok hv2).1 (map_lt (ix_ok hv2).2) rfl),zp rfl (op_load_e _ _ _ _ _ _ underlying3 rfl rfl rfl (map_get hv3)),zp rfl (op_callV _ _ 19 24 (.pointer (some ⟨bx, 0, none⟩)) _ _ rfl call24 rfl rfl (fun _ h => h) (ok_tree_Lengths_1_cap bx v3 cap _ hv4) rfl rfl),zz⟩ ?_
    refine pt_then ?_
    refine ht_cond _ rfl (fun hb20 => ?_) (fun hb20 => ?_)
    ·have h := cond_t hb20 h
     refine zgg hn [_,_,_,_,_,_,_,(17,vi s10),(4,vi s10)] [0,1,2,3,4,5,6] [2,8] [zq [5] 7 17,zq [7] 8 4] [(_,_),(_,_)] rfl ⟨z1 rfl,z2 rfl,zz⟩ ?_
     refine ht_ret ?_
     refine pt_pick [1] (by kernel_rfl) (es' := [(_,_)]) rfl ?_
     refine pt_r_in ?_
     refine pt_r_then ?_
     refine pt_r_then ?_
     refine pt_r_in ?_
     refine pt_r_then ?_
     have h := hr15 _ (ho16 _ (Option.some.inj h).symm).symm
     obtain rfl := Option.some.inj h
     exact pt_ret hio rfl (.tmp _ _ .nil) rfl rfl
    ·have h := cond_f hb20 h
     refine ht_skip ?_
     refine pt_inb ?_
     refine pt_then ?_
     obtain ⟨v6, hv6, h⟩ := bind_some h
     refine zg hn [_,_,_,_,_,_,_,(18,vi v6),(8,vi v6)] [0,1,2,3,4,5,6] [0,1,2,3,8] [zq [4] 7 18,⟨[7],[4],[8],[(.slot 8)]⟩] [(_,_),(_,_),(_,_),(_,_),(_,_)] rfl ⟨zp rfl (oB rfl (ibind (f := Value.int .i64) (Option.some.inj hv6))),zp rfl (LOp.drop [_] (oM rfl)),zz⟩ ?_
     exact pt_next _ (Option.some.inj h).symm rfl
   ·have h := cond_f hb19 h
    refine ht_exit ?_
    refine pt_x_then ?_
    refine pt_x_then ?_
    refine pt_x_in ?_
    refine pt_pick [2] (by kernel_rfl) (es' := [(_,_)]) rfl ?_
    exact hl14 _ (ho16 _ (Option.some.inj h).symm).symm
theorem ok_slices_ContainsFunc_int_int_of_tree_Lengths_1 (bx : Nat) (s : (List Int)) (cap : Int) (r : Bool) (h : Sh.slices_ContainsFunc_int_int_of_tree_Lengths_1 s cap = some r) : FnG Try.prog [(bx, [.int .i64 cap])] 23 [.fl .shr 1 (List.map (Value.int .i64) s), .v (.func (.func 24) #[] #[.pointer (some ⟨bx, 0, none⟩)])] (.v (.bool r)) := by
  unfold Sh.slices_ContainsFunc_int_int_of_tree_Lengths_1 at h
  refine fn_okG func23 rfl (zl rfl) rfl rfl fun g0 hn hio => ?_
  refine zgg hn [_,_,_,(4,vb false)] [0,1,2] [0,1,2] [zq [] 3 4] [(_,_),(_,_),(_,_)] rfl ⟨z2 rfl,zz⟩ ?_
  refine ht_seq ?_
  obtain ⟨v1, hv1, h⟩ := bind_some h
  refine zg hn [_,_,_,(5,.fl .shr 1 (List.map (Value.int .i64) s)),(6,.v (.func (.func 24) #[] #[.pointer (some ⟨bx,0,none⟩)])),(7,vi v1),(8,vb (decide (0 ≤ v1))),(4,vb (decide (0 ≤ v1)))] [0,1,2] [2,7] [zq [0] 3 5,zq [1] 4 6,zq [3,4,2] 5 7,zq [5] 6 8,zq [6] 7 4] [(_,_),(_,_)] rfl ⟨z1 rfl,z1 rfl,zp rfl (op_callG _ _ 9 36 _ _ rfl call36 rfl rfl (fun _ h => h) (ok_slices_IndexFunc_int_int_of_tree_Lengths_1 bx s cap _ hv1) rfl rfl),z4 rfl rfl,z2 rfl,zz⟩ ?_
  refine pt_then (ht_ret ?_)
  refine pt_pick [1] (by kernel_rfl) (es' := [(_,_)]) rfl ?_
  obtain rfl := Option.some.inj h
  exact pt_ret hio rfl (.tmp _ _ .nil) rfl rfl
theorem ok_tree_Lengths (weights : (List Int)) (limit : Int) (r : ((List Int) × Int)) (h : Sh.tree_Lengths weights limit = some r) : FnOK Try.prog 12 [.fl .shr 1 (List.map (Value.int .i64) weights), .v (.int .i64 limit)] (.tup [.fl (.own 3) 1 (List.map (Value.int .i64) r.1), .v (.int .i64 r.2)]) := by
  unfold Sh.tree_Lengths at h
  refine fn_ok func12 rfl (zl rfl) rfl rfl fun g0 hn hio => ?_
  refine zgg hn [_,_,(3,.box 3 [vi limit]),(4,.v (.slice none 0 0)),(5,vi 0)] [0,1] [0,2] [zq [1] 2 3,zq [] 3 4,zq [] 4 5] [(_,_),(_,_)] rfl ⟨zp rfl (op_box _ _ _ _ rfl rfl rfl),z2 rfl,z2 rfl,zz⟩ ?_
  refine ht_seq ?_
  refine ht_seq ?_
  refine ht_joinS h (fun (s3 : Bool) => [(0, .fl .shr 1 (List.map (Value.int .i64) weights)), (3, .box 3 [.v (.int .i64 limit)]), (18, .v (.bool s3))]) ?_ ?_
  ·rintro s3 h
   refine pt_then ?_
   refine ht_cond _ rfl (fun hb7 => ?_) (fun hb7 => ?_)
   ·have h := cond_t hb7 h
    refine zgg hn [_,_,_,(4,.v (.slice none 0 0)),(5,vi 1)] [0,1,2] [3,4] [zq [] 3 4,zq [] 4 5] [(_,_),(_,_)] rfl ⟨z2 rfl,z2 rfl,zz⟩ ?_
    refine ht_ret ?_
    refine pt_sub (fs := [(4, .fl (.own 3) 1 (List.map (Value.int .i64) [])), (5, .v (.int .i64 1))]) (.sub _ (sub_nil 3 1) rfl (.same _ .nil)) ?_
    refine pt_r_then ?_
    obtain rfl := Option.some.inj h
    exact pt_ret hio rfl (.tmp _ _ (.tmp _ _ .nil)) rfl rfl
   ·have h := cond_f hb7 h
    refine ht_skip ?_
    refine pt_then (ht_seq ?_)
    obtain ⟨v8, hv8, h⟩ := bind_some h
    refine zg hn [_,_,_,(19,.fl .shr 1 (List.map (Value.int .i64) weights)),(20,.fl (.own 3) 1 (List.map (Value.int .i64) v8)),(6,.fl (.own 3) 1 (List.map (Value.int .i64) v8))] [0,1,2] [1,5] [zq [0] 3 19,zq [3] 4 20,⟨[],[4],[5],[(.slot 6)]⟩] [(_,_),(_,_)] rfl ⟨z1 rfl,zp rfl (op_call _ _ 21 _ _ rfl call21 rfl (ok_slices_Clone_int_int weights _ hv8) rfl rfl),zp rfl (op_assign_take _ _ _ _ rfl),zz⟩ ?_
    refine pt_then ?_
    refine ht_loopS h (fun (s51 : (List Int)) => [(3, .box 3 [.v (.int .i64 limit)]), (6, .fl (.own 3) 1 (List.map (Value.int .i64) s51))]) (fun (() : Unit) => []) ?_ ?_
    ·rintro ⟨⟩ h
     cases h
    ·rintro u68 hl69 hr70 s51 rr73 h ho71
     refine ht_block ?_
     refine ht_seq ?_
     obtain ⟨v9, hv9, h⟩ := bind_some h
     refine zg hn [_,_,(21,.same (.slot 6)),(22,.fl (.own 3) 1 (List.map (Value.int .i64) v9)),(7,.fl (.own 3) 1 (List.map (Value.int .i64) v9))] [0,1] [0,1,4] [zq [1] 2 21,zq [2,1] 3 22,⟨[],[3],[4],[(.slot 7)]⟩] [(_,_),(_,_),(_,_)] rfl ⟨z1 rfl,zp rfl (op_call _ _ 22 _ _ rfl call22 rfl (ok_tree_depths s51 _ hv9) rfl rfl),zp rfl (op_assign_take _ _ _ _ rfl),zz⟩ ?_
     refine pt_then (ht_seq ?_)
     refine ht_seq ?_
     obtain ⟨v10, hv10, h⟩ := bind_some h
     refine zg hn [_,_,_,(23,.same (.slot 7)),(24,.clo 24 [3]),(25,vb v10),(26,vb (!v10))] [0,1,2] [0,1,2,6] [zq [2] 3 23,zq [] 4 24,zq [3,2,4,0] 5 25,zq [5] 6 26] [(_,_),(_,_),(_,_),(_,_)] rfl ⟨z1 rfl,zp rfl (op_makeFunc_name _ _ _ 3 (by decide)),zp rfl (op_callC _ 25 3 24 23 24 [.int .i64 limit] [.tmp 23] _ _ rfl call23 rfl rfl rfl rfl (fun bx => ok_slices_ContainsFunc_int_int_of_tree_Lengths_1 bx v9 limit _ hv10) rfl rfl),zp rfl (op_un _ _ _ _ rfl rfl),zz⟩ ?_
     refine pt_then ?_
     refine ht_cond _ rfl (fun hb74 => ?_) (fun hb74 => ?_)
     ·have h := cond_t hb74 h
      refine zgg hn [_,_,_,_,(27,.fl (.own 3) 1 (List.map (Value.int .i64) v9)),(4,.fl (.own 3) 1 (List.map (Value.int .i64) v9)),(5,vi 0)] [0,1,2,3] [5,6] [⟨[],[2],[4],[(.slot 27)]⟩,⟨[],[4],[5],[(.slot 4)]⟩,zq [] 6 5] [(_,_),(_,_)] rfl ⟨zp rfl (op_move_take _ _ _ _ rfl),zp rfl (op_assign_take _ _ _ _ rfl),z2 rfl,zz⟩ ?_
      refine ht_ret ?_
      refine pt_r_then ?_
      refine pt_r_in ?_
      refine pt_r_then ?_
      refine pt_r_in ?_
      have h := hr70 _ (ho71 _ (Option.some.inj h).symm).symm
      obtain rfl := Option.some.inj h
      exact pt_ret hio rfl (.tmp _ _ (.tmp _ _ .nil)) rfl rfl
     ·have h := cond_f hb74 h
      refine ht_skip ?_
      refine pt_then ?_
      refine zgg hn [_,_,_,_,(28,.same (.slot 6)),(29,vi (s51.length : Int)),(30,vi 0)] [0,1,2,3] [0,1,4,5,6] [zq [1] 4 28,zq [4,1] 5 29,zq [] 6 30] [(_,_),(_,_),(_,_),(_,_),(_,_)] rfl ⟨z1 rfl,zp rfl (op_len_fl _ _ _ underlying22 rfl (by decide) (map_len _)),z1 rfl,zz⟩ ?_
      refine ht_loopS h (fun ((s79, s80) : (List Int) × Int) => [(3, .box 3 [.v (.int .i64 limit)]), (6, .fl (.own 3) 1 (List.map (Value.int .i64) s79)), (28, .same (.slot 6)), (29, .v (.int .i64 (s51.length : Int))), (30, .v (.int .i64 s80))]) (fun (s82 : (List Int)) => [(3, .box 3 [.v (.int .i64 limit)]), (6, .fl (.own 3) 1 (List.map (Value.int .i64) s82))]) ?_ ?_
      ·rintro s82 h
       refine pt_inb ?_
       exact pt_next _ (Option.some.inj h).symm rfl
      ·rintro u83 hl84 hr85 ⟨s79, s80⟩ rr88 h ho86
       refine zgg hn [_,_,_,_,_,(31,vb (decide (s80 < (s51.length : Int))))] [0,1,2,3,4] [0,1,2,3,4,5] [zq [4,3] 5 31] [(_,_),(_,_),(_,_),(_,_),(_,_),(_,_)] rfl ⟨z4 rfl rfl,zz⟩ ?_
       refine ht_seq ?_
       refine ht_cond _ rfl (fun hb89 => ?_) (fun hb89 => ?_)
       ·have h := cond_t hb89 h
        refine ht_skip ?_
        refine pt_then (ht_seq ?_)
        refine ht_block ?_
        refine ht_seq ?_
        obtain ⟨v13, hv13, h⟩ := bind_some h
        obtain ⟨v14, hv14, h⟩ := bind_some h
        refine zg hn [_,_,_,_,_,_,(32,vi s80),(33,.eref (.slot 6) (v13 * 1)),(34,vi v14),(8,vi s80),(9,vi v14)] [0,1,2,3,4,5] [0,1,2,3,4,9,10] [zq [4] 6 32,zq [2,1,4] 7 33,zq [7,1] 8 34,zq [6] 9 8,zq [8] 10 9] [(_,_),(_,_),(_,_),(_,_),(_,_),(_,_),(_,_)] rfl ⟨z1 rfl,zp rfl (op_ix _ _ _ _ _ _ _ _ underlying22 sz3 (by decide) rfl rfl rfl (ix_ok hv13).1 (map_lt (ix_ok hv13).2) rfl),zp rfl (op_load_e _ _ _ _ _ _ underlying3 rfl rfl rfl (map_get hv14)),z2 rfl,z2 rfl,zz⟩ ?_
        refine pt_then ?_
        obtain ⟨v15, hv15, h⟩ := bind_some h
        obtain ⟨v16, hv16, h⟩ := bind_some h
        obtain ⟨v17, hv17, h⟩ := bind_some h
        obtain ⟨v18, hv18, h⟩ := bind_some h
        refine zg hn [_,_,_,_,_,_,_,(35,.same (.slot 6)),(36,vi s80),(37,vi v14),(38,vi v15),(39,vi v16),(40,.eref (.slot 6) (v17 * 1)),(6,.fl (.own 3) 1 (List.map (Value.int .i64) v18))] [0,1,2,3,4,5,6] [0,13,2,3,4] [zq [1] 7 35,zq [5] 8 36,zq [6] 9 37,zq [9] 10 38,zq [10] 11 39,zq [7,1,8] 12 40,⟨[12,11],[1],[13],[]⟩] [(_,_),(_,_),(_,_),(_,_),(_,_)] rfl ⟨z1 rfl,z1 rfl,z1 rfl,zp rfl (oB rfl (ibind (f := Value.int .i64) (Option.some.inj hv15))),zp rfl (oB rfl (quo_ok hv16)),zp rfl (op_ix _ _ _ _ _ _ _ _ underlying22 sz3 (by decide) rfl rfl rfl (ix_ok hv17).1 (map_lt (ix_ok hv17).2) rfl),zp rfl (op_store_e _ _ _ _ _ _ _ _ sz3 rfl rfl rfl (by decide) (map_lt (ix_ok hv17).2) ((map_set (f := Value.int .i64) _ (ix_ok hv17).2).trans (congrArg (List.map _) (Option.some.inj hv18)))),zz⟩ ?_
        refine pt_inb ?_
        refine pt_then ?_
        obtain ⟨v19, hv19, h⟩ := bind_some h
        refine zg hn [_,_,_,_,_,(41,vi v19),(30,vi v19)] [0,1,2,3,4] [0,1,2,3,6] [zq [4] 5 41,⟨[5],[4],[6],[(.slot 30)]⟩] [(_,_),(_,_),(_,_),(_,_),(_,_)] rfl ⟨zp rfl (oB rfl (ibind (f := Value.int .i64) (Option.some.inj hv19))),zp rfl (LOp.drop [_] (oM rfl)),zz⟩ ?_
        exact pt_next _ (Option.some.inj h).symm rfl
       ·have h := cond_f hb89 h
        refine ht_exit ?_
        refine pt_x_then ?_
        refine pt_x_then ?_
        refine pt_x_in ?_
        refine pt_pick [0, 1] (by kernel_rfl) (es' := [(_,_),(_,_)]) rfl ?_
        exact hl84 _ (ho86 _ (Option.some.inj h).symm).symm
  ·intro u4 h hl5 hr6
   obtain ⟨v1, hv1, h⟩ := bind_some h
   refine cond_some h (fun hg1_3 h => ?_) (fun hg1_3 h => ?_)
   ·refine zg hn [_,_,(10,.fl .shr 1 (List.map (Value.int .i64) weights)),(11,vb v1),(12,vb (!v1)),(13,vb true),(14,.v undef),(15,.v undef),(16,.v undef),(17,.v undef),(18,vb true)] [0,1] [0,1,10] [zq [0] 2 10,zq [2] 3 11,zq [3] 4 12,zq [4] 5 13,zq [5] 6 14,zq [5] 7 15,zq [5] 8 16,zq [5] 9 17,zq [5] 10 18] [(_,_),(_,_),(_,_)] rfl ⟨z1 rfl,zp rfl (op_call _ _ 19 _ _ rfl call19 rfl (ok_tree_validWeights weights _ hv1) rfl rfl),zp rfl (op_un _ _ _ _ rfl rfl),z8 hg1_3 rfl,zf rfl,zf rfl,zf rfl,zf rfl,z3 true rfl,zz⟩ ?_
    exact hl5 _ (Option.some.inj h).symm
   ·obtain ⟨v2, hv2, h⟩ := bind_some h
    refine zg hn [_,_,(10,.fl .shr 1 (List.map (Value.int .i64) weights)),(11,vb v1),(12,vb (!v1)),(13,vb false),(14,.fl .shr 1 (List.map (Value.int .i64) weights)),(15,vi limit),(16,vb v2),(17,vb (!v2)),(18,vb (!v2))] [0,1] [0,1,10] [zq [0] 2 10,zq [2] 3 11,zq [3] 4 12,zq [4] 5 13,zq [5,0] 6 14,zq [5,1] 7 15,zq [5,6,7] 8 16,zq [5,8] 9 17,zq [5,9] 10 18] [(_,_),(_,_),(_,_)] rfl ⟨z1 rfl,zp rfl (op_call _ _ 19 _ _ rfl call19 rfl (ok_tree_validWeights weights _ hv1) rfl rfl),zp rfl (op_un _ _ _ _ rfl rfl),z8 hg1_3 rfl,zr' rfl (oM rfl),zr' rfl (oL underlying3 rfl),zr' rfl (op_call _ _ 20 _ _ rfl call20 rfl (ok_tree_validLimit weights limit _ hv2) rfl rfl),zr' rfl (op_un _ _ _ _ rfl rfl),z3 false rfl,zz⟩ ?_
    exact hl5 _ (Option.some.inj h).symm
theorem ok_wherryref01_in (n : Int) (lo : Int) (hi : Int) (r : Bool) (h : Sh.wherryref01_in n lo hi = some r) : FnOK Try.prog 26 [.v (.int .i64 n), .v (.int .i64 lo), .v (.int .i64 hi)] (.v (.bool r)) := by
  unfold Sh.wherryref01_in at h
  refine fn_ok func26 rfl (zl rfl) rfl rfl fun g0 hn hio => ?_
  refine zgg hn [_,_,_,(6,vb false)] [0,1,2] [0,1,2] [zq [] 3 6] [(_,_),(_,_),(_,_)] rfl ⟨z2 rfl,zz⟩ ?_
  refine ht_seq ?_
  refine ht_joinS h (fun (s1 : Bool) => [(6, .v (.bool s1))]) ?_ ?_
  ·rintro s1 h
   refine pt_then (ht_ret ?_)
   obtain rfl := Option.some.inj h
   exact pt_ret hio rfl (.tmp _ _ .nil) rfl rfl
  ·intro u2 h hl3 hr4
   refine cond_some h (fun hg1_3 h => ?_) (fun hg1_3 h => ?_)
   ·refine zg hn [_,_,_,(7,vi n),(8,vi lo),(9,vb (decide (lo ≤ n))),(10,vb true),(11,vi n),(12,vi hi),(13,vb (decide (n ≤ hi))),(14,vb (decide (n ≤ hi))),(6,vb (decide (n ≤ hi)))] [0,1,2] [11] [zq [0] 3 7,zq [1] 4 8,zq [3,4] 5 9,zq [5] 6 10,zq [6,0] 7 11,zq [6,2] 8 12,zq [6,7,8] 9 13,zq [6,9] 10 14,zq [10] 11 6] [(_,_)] rfl ⟨z1 rfl,z1 rfl,z4 rfl rfl,z8 hg1_3 rfl,zr' rfl (oM rfl),zr' rfl (oM rfl),zr' rfl (oB rfl rfl),z3 true rfl,z2 rfl,zz⟩ ?_
    exact hl3 _ (Option.some.inj h).symm
   ·refine zg hn [_,_,_,(7,vi n),(8,vi lo),(9,vb (decide (lo ≤ n))),(10,vb false),(11,.v undef),(12,.v undef),(13,.v undef),(14,vb false),(6,vb false)] [0,1,2] [11] [zq [0] 3 7,zq [1] 4 8,zq [3,4] 5 9,zq [5] 6 10,zq [6] 7 11,zq [6] 8 12,zq [6] 9 13,zq [6] 10 14,zq [10] 11 6] [(_,_)] rfl ⟨z1 rfl,z1 rfl,z4 rfl rfl,z8 hg1_3 rfl,zt rfl,zt rfl,zt rfl,z3 false rfl,z2 rfl,zz⟩ ?_
    exact hl3 _ (Option.some.inj h).symm
theorem ok_wherryref01_rightWeights (w : (List Int)) (r : Bool) (h : Sh.wherryref01_rightWeights w = some r) : FnOK Try.prog 25 [.fl .shr 1 (List.map (Value.int .i64) w)] (.v (.bool r)) := by
  unfold Sh.wherryref01_rightWeights at h
  refine fn_ok func25 rfl (zl rfl) rfl rfl fun g0 hn hio => ?_
  refine zgg hn [_,(2,vb false)] [0] [0] [zq [] 1 2] [(_,_)] rfl ⟨z2 rfl,zz⟩ ?_
  refine ht_seq ?_
  refine zgg hn [_,(4,.fl .shr 1 (List.map (Value.int .i64) w)),(5,vi (w.length : Int)),(6,vb (decide (300 < (w.length : Int))))] [0] [0,3] [zq [0] 1 4,zq [1] 2 5,zq [2] 3 6] [(_,_),(_,_)] rfl ⟨z1 rfl,zp rfl (op_len_fl _ _ _ underlying22 rfl (by decide) (map_len _)),z4 rfl rfl,zz⟩ ?_
  refine ht_cond _ rfl (fun hb1 => ?_) (fun hb1 => ?_)
  ·have h := cond_t hb1 h
   refine zgg hn [_,_,(2,vb false)] [0,1] [2] [zq [] 2 2] [(_,_)] rfl ⟨z2 rfl,zz⟩ ?_
   refine ht_ret ?_
   refine pt_r_then ?_
   obtain rfl := Option.some.inj h
   exact pt_ret hio rfl (.tmp _ _ .nil) rfl rfl
  ·have h := cond_f hb1 h
   refine ht_skip ?_
   refine pt_then (ht_seq ?_)
   refine zgg hn [_,_,(3,vi 0)] [0,1] [0,2] [zq [] 2 3] [(_,_),(_,_)] rfl ⟨z2 rfl,zz⟩ ?_
   refine ht_loopS h (fun (s11 : Int) => [(0, .fl .shr 1 (List.map (Value.int .i64) w)), (3, .v (.int .i64 s11))]) (fun (() : Unit) => []) ?_ ?_
   ·rintro ⟨⟩ h
    refine pt_then ?_
    refine zgg hn [(2,vb true)] [] [0] [zq [] 0 2] [(_,_)] rfl ⟨z2 rfl,zz⟩ ?_
    refine ht_ret ?_
    obtain rfl := Option.some.inj h
    exact pt_ret hio rfl (.tmp _ _ .nil) rfl rfl
   ·rintro u14 hl15 hr16 s11 rr19 h ho17
    refine ht_seq ?_
    refine zgg hn [_,_,(7,vi s11),(8,.fl .shr 1 (List.map (Value.int .i64) w)),(9,vi (w.length : Int)),(10,vb (decide (s11 < (w.length : Int))))] [0,1] [0,1,5] [zq [1] 2 7,zq [0] 3 8,zq [3] 4 9,zq [2,4] 5 10] [(_,_),(_,_),(_,_)] rfl ⟨z1 rfl,z1 rfl,zp rfl (op_len_fl _ _ _ underlying22 rfl (by decide) (map_len _)),z4 rfl rfl,zz⟩ ?_
    refine ht_cond _ rfl (fun hb20 => ?_) (fun hb20 => ?_)
    ·have h := cond_t hb20 h
     refine ht_skip ?_
     refine pt_then (ht_seq ?_)
     refine ht_block ?_
     refine ht_seq ?_
     obtain ⟨v3, hv3, h⟩ := bind_some h
     obtain ⟨v4, hv4, h⟩ := bind_some h
     obtain ⟨v5, hv5, h⟩ := bind_some h
     refine zg hn [_,_,_,(13,.fl .shr 1 (List.map (Value.int .i64) w)),(14,vi s11),(15,.eref (.slot 13) (v3 * 1)),(16,vi v4),(17,vb v5),(18,vb (!v5))] [0,1,2] [0,1,8] [zq [0] 3 13,zq [1] 4 14,zq [3,4] 5 15,zq [5,3] 6 16,zq [6] 7 17,zq [7] 8 18] [(_,_),(_,_),(_,_)] rfl ⟨z1 rfl,z1 rfl,zp rfl (op_ix _ _ _ _ _ _ _ _ underlying22 sz3 (by decide) rfl rfl rfl (ix_ok hv3).1 (map_lt (ix_ok hv3).2) rfl),zp rfl (op_load_e _ _ _ _ _ _ underlying3 rfl rfl rfl (map_get hv4)),zp rfl (op_call _ _ 26 _ _ rfl call26 rfl (ok_wherryref01_in v4 0 1048576 _ hv5) rfl rfl),zp rfl (op_un _ _ _ _ rfl rfl),zz⟩ ?_
     refine pt_then ?_
     refine ht_cond _ rfl (fun hb21 => ?_) (fun hb21 => ?_)
     ·have h := cond_t hb21 h
      refine zgg hn [_,_,_,(2,vb false)] [0,1,2] [3] [zq [] 3 2] [(_,_)] rfl ⟨z2 rfl,zz⟩ ?_
      refine ht_ret ?_
      refine pt_r_in ?_
      refine pt_r_then ?_
      refine pt_r_then ?_
      refine pt_r_in ?_
      refine pt_r_then ?_
      have h := hr16 _ (ho17 _ (Option.some.inj h).symm).symm
      obtain rfl := Option.some.inj h
      exact pt_ret hio rfl (.tmp _ _ .nil) rfl rfl
     ·have h := cond_f hb21 h
      refine ht_skip ?_
      refine pt_inb ?_
      refine pt_then ?_
      obtain ⟨v7, hv7, h⟩ := bind_some h
      refine zg hn [_,_,_,(11,vi s11),(12,vi v7),(3,vi v7)] [0,1,2] [0,5] [zq [1] 3 11,zq [3] 4 12,⟨[4],[1],[5],[(.slot 3)]⟩] [(_,_),(_,_)] rfl ⟨z1 rfl,zp rfl (oB rfl (ibind (f := Value.int .i64) (Option.some.inj hv7))),zp rfl (LOp.drop [_] (op_assign _ _ _ _ rfl rfl)),zz⟩ ?_
      exact pt_next _ (Option.some.inj h).symm rfl
    ·have h := cond_f hb20 h
     refine ht_exit ?_
     refine pt_x_then ?_
     refine pt_x_then ?_
     refine pt_x_in ?_
     refine pt_pick [] (by kernel_rfl) (es' := []) rfl ?_
     exact hl15 _ (ho17 _ (Option.some.inj h).symm).symm
theorem ok_wherryref01_least (l : (List T_wherryref01_node)) (but : Int) (r : Int) (h : Sh.wherryref01_least l but = some r) : FnOK Try.prog 37 [.fr .shr true 2 (List.flatten (List.map T_wherryref01_node.ienc l)), .v (.int .i64 but)] (.v (.int .i64 r)) := by
  unfold Sh.wherryref01_least at h
  refine fn_ok func37 rfl (zl rfl) rfl rfl fun g0 hn hio => ?_
  refine zgg hn [_,_,(4,vi 0)] [0,1] [0,1] [zq [] 2 4] [(_,_),(_,_)] rfl ⟨z2 rfl,zz⟩ ?_
  refine zgg hn [_,_,(5,vi (-1))] [0,1] [0,1,2] [zq [] 2 5] [(_,_),(_,_),(_,_)] rfl ⟨z2 rfl,zz⟩ ?_
  refine ht_seq ?_
  refine zgg hn [_,_,_,(6,vi 0)] [0,1,2] [0,1,2,3] [zq [] 3 6] [(_,_),(_,_),(_,_),(_,_)] rfl ⟨z2 rfl,zz⟩ ?_
  refine ht_loopS h (fun ((s38, s39) : Int × Int) => [(0, .fr .shr true 2 (List.flatten (List.map T_wherryref01_node.ienc l))), (1, .v (.int .i64 but)), (5, .v (.int .i64 s38)), (6, .v (.int .i64 s39))]) (fun (s55 : Int) => [(5, .v (.int .i64 s55))]) ?_ ?_
  ·rintro s55 h
   refine pt_then ?_
   refine zgg hn [_,(34,vi s55),(4,vi s55)] [0] [2] [zq [0] 1 34,zq [1] 2 4] [(_,_)] rfl ⟨z1 rfl,z2 rfl,zz⟩ ?_
   refine ht_ret ?_
   obtain rfl := Option.some.inj h
   exact pt_ret hio rfl (.tmp _ _ .nil) rfl rfl
  ·rintro u56 hl57 hr58 ⟨s38, s39⟩ rr61 h ho59
   refine ht_seq ?_
   refine zgg hn [_,_,_,_,(7,vi s39),(8,.fr .shr true 2 (List.flatten (List.map T_wherryref01_node.ienc l))),(9,vi (l.length : Int)),(10,vb (decide (s39 < (l.length : Int))))] [0,1,2,3] [0,1,2,3,7] [zq [3] 4 7,zq [0] 5 8,zq [5] 6 9,zq [4,6] 7 10] [(_,_),(_,_),(_,_),(_,_),(_,_)] rfl ⟨z1 rfl,z1 rfl,zp rfl (op_len_fr _ _ _ underlying54 rfl (by decide) (gflat_len T_wherryref01_node.ilen _)),z4 rfl rfl,zz⟩ ?_
   refine ht_cond _ rfl (fun hb62 => ?_) (fun hb62 => ?_)
   ·have h := cond_t hb62 h
    refine ht_skip ?_
    refine pt_then (ht_seq ?_)
    refine ht_joinS h (fun (s68 : Int) => [(0, .fr .shr true 2 (List.flatten (List.map T_wherryref01_node.ienc l))), (1, .v (.int .i64 but)), (6, .v (.int .i64 s39)), (5, .v (.int .i64 s68))]) ?_ ?_
    ·rintro s68 h
     refine pt_then ?_
     obtain ⟨v20, hv20, h⟩ := bind_some h
     refine zg hn [_,_,_,_,(11,vi s39),(12,vi v20),(6,vi v20)] [0,1,2,3] [0,1,3,6] [zq [2] 4 11,zq [4] 5 12,⟨[5],[2],[6],[(.slot 6)]⟩] [(_,_),(_,_),(_,_),(_,_)] rfl ⟨z1 rfl,zp rfl (oB rfl (ibind (f := Value.int .i64) (Option.some.inj hv20))),zp rfl (LOp.drop [_] (op_assign _ _ _ _ rfl rfl)),zz⟩ ?_
     exact pt_next _ (Option.some.inj h).symm rfl
    ·intro u69 h hl70 hr71
     refine ht_block ?_
     refine ht_seq ?_
     refine ht_joinS h (fun (s72 : Bool) => [(0, .fr .shr true 2 (List.flatten (List.map T_wherryref01_node.ienc l))), (1, .v (.int .i64 but)), (5, .v (.int .i64 s38)), (6, .v (.int .i64 s39)), (32, .v (.bool s72))]) ?_ ?_
     ·rintro s72 h
      refine pt_then ?_
      refine ht_cond _ rfl (fun hb76 => ?_) (fun hb76 => ?_)
      ·have h := cond_t hb76 h
       refine zg hn [_,_,_,_,_,(33,vi s39),(5,vi s39)] [0,1,2,3,4] [0,1,3,6] [zq [3] 5 33,⟨[5],[2],[6],[(.slot 5)]⟩] [(_,_),(_,_),(_,_),(_,_)] rfl ⟨z1 rfl,zp rfl (LOp.drop [_] (op_assign _ _ _ _ rfl rfl)),zz⟩ ?_
       refine pt_inb ?_
       exact hl70 _ (Option.some.inj h).symm
      ·have h := cond_f hb76 h
       refine ht_skip ?_
       refine pt_inb ?_
       refine pt_pick [0, 1, 3, 2] (by kernel_rfl) (es' := [(_,_),(_,_),(_,_),(_,_)]) rfl ?_
       exact hl70 _ (Option.some.inj h).symm
     ·intro u73 h hl74 hr75
      refine cond_some h (fun hg5_3 h => ?_) (fun hg5_3 h => ?_)
      ·refine cond_some h (fun hg5_6 h => ?_) (fun hg5_6 h => ?_)
       ·refine ht_anyR (by kernel_rfl) hn (El := (_ :: _ :: _ :: _ :: _ :: (13, .v (.int .i64 s39)) :: (14, .v (.int .i64 but)) :: (15, .v (.bool (s39 != but))) :: (16, .v (.bool true)) :: (17, .v (.int .i64 s38)) :: (18, .v (.bool ((decide (s38 < 0))))) :: (19, .v (.bool true)) :: (20, .v undef) :: (21, .v undef) :: (22, .v undef) :: (23, .v undef) :: (24, .v undef) :: (25, .v undef) :: (26, .v undef) :: (27, .v undef) :: (28, .v undef) :: (29, .v undef) :: (30, .v undef) :: (31, .v (.bool true)) :: (32, .v (.bool true)) :: [])) (init := [0, 1, 2, 3, 4]) (fin := [0, 1, 2, 3, 24]) (sps := (zq [3] 5 13 :: zq [1] 6 14 :: zq [5,6] 7 15 :: zq [7] 8 16 :: zq [8,2] 9 17 :: zq [8,9] 10 18 :: zq [8,10] 11 19 :: zq [11] 12 20 :: zq [11] 13 21 :: zq [11] 14 22 :: zq [11] 15 23 :: zq [11] 16 24 :: zq [11] 17 25 :: zq [11] 18 26 :: zq [11] 19 27 :: zq [11] 20 28 :: zq [11] 21 29 :: zq [11] 22 30 :: zq [8,11] 23 31 :: zq [8,23] 24 32 :: [])) (es' := [(_,_),(_,_),(_,_),(_,_),(32, .v (.bool true))]) (by kernel_rfl) rfl rfl ⟨z1 rfl,z1 rfl,z4 rfl rfl,z8 hg5_3 rfl,zr' rfl (oM rfl),zr' rfl (oB rfl rfl),zr' rfl (op_move _ _ _ _ (zb hg5_6) rfl),zf rfl,zf rfl,zf rfl,zf rfl,zf rfl,zf rfl,zf rfl,zf rfl,zf rfl,zf rfl,zf rfl,zr' rfl (op_pick _ _ true _ rfl rfl),z3 true rfl,zz⟩ ?_
        exact hl74 _ (Option.some.inj h).symm
       ·obtain ⟨v2, hv2, h⟩ := bind_some h
        obtain ⟨v3, hv3, h⟩ := bind_some h
        obtain ⟨v4, hv4, h⟩ := bind_some h
        obtain ⟨v5, hv5, h⟩ := bind_some h
        refine ht_anyR (by kernel_rfl) hn (El := (_ :: _ :: _ :: _ :: _ :: (13, .v (.int .i64 s39)) :: (14, .v (.int .i64 but)) :: (15, .v (.bool (s39 != but))) :: (16, .v (.bool true)) :: (17, .v (.int .i64 s38)) :: (18, .v (.bool ((decide (s38 < 0))))) :: (19, .v (.bool false)) :: (20, .fr .shr true 2 (List.flatten (List.map T_wherryref01_node.ienc l))) :: (21, .v (.int .i64 s39)) :: (22, .eref (.slot 20) (v2 * 2)) :: (23, .eref (.slot 20) (v2 * 2 + 0)) :: (24, .v (.int .i64 v3.w)) :: (25, .fr .shr true 2 (List.flatten (List.map T_wherryref01_node.ienc l))) :: (26, .v (.int .i64 s38)) :: (27, .eref (.slot 25) (v4 * 2)) :: (28, .eref (.slot 25) (v4 * 2 + 0)) :: (29, .v (.int .i64 v5.w)) :: (30, .v (.bool ((decide (v3.w < v5.w))))) :: (31, .v (.bool ((decide (v3.w < v5.w))))) :: (32, .v (.bool ((decide (v3.w < v5.w))))) :: [])) (init := [0, 1, 2, 3, 4]) (fin := [0, 1, 2, 3, 24]) (sps := (zq [3] 5 13 :: zq [1] 6 14 :: zq [5,6] 7 15 :: zq [7] 8 16 :: zq [8,2] 9 17 :: zq [8,9] 10 18 :: zq [8,10] 11 19 :: zq [11,0] 12 20 :: zq [11,3] 13 21 :: zq [11,12,13] 14 22 :: zq [11,14,12] 15 23 :: zq [11,15,12] 16 24 :: zq [11,0] 17 25 :: zq [11,2] 18 26 :: zq [11,17,18] 19 27 :: zq [11,19,17] 20 28 :: zq [11,20,17] 21 29 :: zq [11,16,21] 22 30 :: zq [8,11,22] 23 31 :: zq [8,23] 24 32 :: [])) (es' := [(_,_),(_,_),(_,_),(_,_),(32, .v (.bool ((decide (v3.w < v5.w)))))]) (by kernel_rfl) rfl rfl ⟨z1 rfl,z1 rfl,z4 rfl rfl,z8 hg5_3 rfl,zr' rfl (oM rfl),zr' rfl (oB rfl rfl),zr' rfl (op_move _ _ _ _ (zb hg5_6) rfl),zr' rfl (oM rfl),zr' rfl (oM rfl),zr' rfl (op_ix_fr _ _ _ _ _ _ _ _ underlying54 sz56 (by decide) rfl rfl rfl (ix_ok hv2).1 (gflat_lt T_wherryref01_node.ilen (ix_ok hv2).2) rfl),zr' rfl (op_fieldAddr_e _ _ _ _ _ _ _ underlying56 rfl sz3 rfl rfl rfl),zr' rfl (op_load_fr _ _ _ _ _ _ _ underlying3 rfl rfl rfl (gflat_cell T_wherryref01_node.ilen hv3 rfl) (.v _)),zr' rfl (oM rfl),zr' rfl (oM rfl),zr' rfl (op_ix_fr _ _ _ _ _ _ _ _ underlying54 sz56 (by decide) rfl rfl rfl (ix_ok hv4).1 (gflat_lt T_wherryref01_node.ilen (ix_ok hv4).2) rfl),zr' rfl (op_fieldAddr_e _ _ _ _ _ _ _ underlying56 rfl sz3 rfl rfl rfl),zr' rfl (op_load_fr _ _ _ _ _ _ _ underlying3 rfl rfl rfl (gflat_cell T_wherryref01_node.ilen hv5 rfl) (.v _)),zr' rfl (oB rfl rfl),zr' rfl (op_pick _ _ false _ rfl rfl),z3 true rfl,zz⟩ ?_
        exact hl74 _ (Option.some.inj h).symm
      ·refine ht_anyR (by kernel_rfl) hn (El := (_ :: _ :: _ :: _ :: _ :: (13, .v (.int .i64 s39)) :: (14, .v (.int .i64 but)) :: (15, .v (.bool (s39 != but))) :: (16, .v (.bool false)) :: (17, .v undef) :: (18, .v undef) :: (19, .v undef) :: (20, .v undef) :: (21, .v undef) :: (22, .v undef) :: (23, .v undef) :: (24, .v undef) :: (25, .v undef) :: (26, .v undef) :: (27, .v undef) :: (28, .v undef) :: (29, .v undef) :: (30, .v undef) :: (31, .v undef) :: (32, .v (.bool false)) :: [])) (init := [0, 1, 2, 3, 4]) (fin := [0, 1, 2, 3, 24]) (sps := (zq [3] 5 13 :: zq [1] 6 14 :: zq [5,6] 7 15 :: zq [7] 8 16 :: zq [8] 9 17 :: zq [8] 10 18 :: zq [8] 11 19 :: zq [11] 12 20 :: zq [11] 13 21 :: zq [11] 14 22 :: zq [11] 15 23 :: zq [11] 16 24 :: zq [11] 17 25 :: zq [11] 18 26 :: zq [11] 19 27 :: zq [11] 20 28 :: zq [11] 21 29 :: zq [11] 22 30 :: zq [8] 23 31 :: zq [8] 24 32 :: [])) (es' := [(_,_),(_,_),(_,_),(_,_),(32, .v (.bool false))]) (by kernel_rfl) rfl rfl ⟨z1 rfl,z1 rfl,z4 rfl rfl,z8 hg5_3 rfl,zt rfl,zt rfl,zt rfl,zu' rfl,zu' rfl,zu' rfl,zu' rfl,zu' rfl,zu' rfl,zu' rfl,zu' rfl,zu' rfl,zu' rfl,zu' rfl,zt rfl,z3 false rfl,zz⟩ ?_
       exact hl74 _ (Option.some.inj h).symm
   ·have h := cond_f hb62 h
    refine ht_exit ?_
    refine pt_x_then ?_
    refine pt_x_then ?_
    refine pt_x_in ?_
    refine pt_pick [2] (by kernel_rfl) (es' := [(_,_)]) rfl ?_
    exact hl57 _ (ho59 _ (Option.some.inj h).symm).symm
theorem ok_wherryref01_lengths (w : (List Int)) (r : (List Int)) (h : Sh.wherryref01_lengths w = some r) : FnOK Try.prog 27 [.fl .shr 1 (List.map (Value.int .i64) w)] (.fl (.own 3) 1 (List.map (Value.int .i64) r)) := by
  unfold Sh.wherryref01_lengths at h
  refine fn_ok func27 rfl (zl rfl) rfl rfl fun g0 hn hio => ?_
  refine zgg hn [_,(2,.v (.slice none 0 0))] [0] [0] [zq [] 1 2] [(_,_)] rfl ⟨z2 rfl,zz⟩ ?_
  refine ht_seq ?_
  obtain ⟨v1, hv1, h⟩ := bind_some h
  refine zg hn [_,(12,.fl .shr 1 (List.map (Value.int .i64) w)),(13,vi (w.length : Int)),(14,.fl (.own 3) 1 (List.map (Value.int .i64) v1)),(3,.fl (.own 3) 1 (List.map (Value.int .i64) v1))] [0] [0,4] [zq [0] 1 12,zq [1] 2 13,zq [2] 3 14,⟨[],[3],[4],[(.slot 3)]⟩] [(_,_),(_,_)] rfl ⟨z1 rfl,zp rfl (op_len_fl _ _ _ underlying22 rfl (by decide) (map_len _)),zp rfl (op_mk (f := Value.int .i64) _ _ _ _ el22 (by decide) zr3 rfl rfl rfl hv1),zp rfl (op_assign_take _ _ _ _ rfl),zz⟩ ?_
  refine pt_then ?_
  refine zgg hn [_,_,(4,.v (.slice none 0 0))] [0,1] [0,1,2] [zq [] 2 4] [(_,_),(_,_),(_,_)] rfl ⟨z2 rfl,zz⟩ ?_
  refine ht_seq ?_
  refine zgg hn [_,_,_,(5,vi 0)] [0,1,2] [0,1,2,3] [zq [] 3 5] [(_,_),(_,_),(_,_),(_,_)] rfl ⟨z2 rfl,zz⟩ ?_
  refine ht_sub (fs := [(0, .fl .shr 1 (List.map (Value.int .i64) w)), (3, .fl (.own 3) 1 (List.map (Value.int .i64) v1)), (4, .fr (.own 56) false 2 (List.flatten (List.map T_wherryref01_node.ienc []))), (5, .v (.int .i64 0))]) (.same _ (.same _ (.sub _ (sub_nil_fr 56 false 2) rfl (.same _ .nil)))) ?_
  refine ht_loopS h (fun ((s24, s25) : (List T_wherryref01_node) × Int) => [(0, .fl .shr 1 (List.map (Value.int .i64) w)), (3, .fl (.own 3) 1 (List.map (Value.int .i64) v1)), (4, .fr (.own 56) false 2 (List.flatten (List.map T_wherryref01_node.ienc s24))), (5, .v (.int .i64 s25))]) (fun (s33 : (List T_wherryref01_node)) => [(3, .fl (.own 3) 1 (List.map (Value.int .i64) v1)), (4, .fr (.own 56) false 2 (List.flatten (List.map T_wherryref01_node.ienc s33)))]) ?_ ?_
  ·rintro s33 h
   refine pt_then (ht_seq ?_)
   refine ht_joinS h (fun (s54 : (List Int)) => [(3, .fl (.own 3) 1 (List.map (Value.int .i64) s54)), (4, .fr (.own 56) false 2 (List.flatten (List.map T_wherryref01_node.ienc s33)))]) ?_ ?_
   ·rintro s54 h
    refine pt_then (ht_seq ?_)
    refine ht_loopS h (fun ((s261, s262) : (List Int) × (List T_wherryref01_node)) => [(3, .fl (.own 3) 1 (List.map (Value.int .i64) s261)), (4, .fr (.own 56) false 2 (List.flatten (List.map T_wherryref01_node.ienc s262)))]) (fun (s350 : (List Int)) => [(3, .fl (.own 3) 1 (List.map (Value.int .i64) s350))]) ?_ ?_
    ·rintro s350 h
     refine pt_then ?_
     refine zgg hn [_,(124,.fl (.own 3) 1 (List.map (Value.int .i64) s350)),(2,.fl (.own 3) 1 (List.map (Value.int .i64) s350))] [0] [2] [⟨[],[0],[1],[(.slot 124)]⟩,⟨[],[1],[2],[(.slot 2)]⟩] [(_,_)] rfl ⟨zp rfl (op_move_take _ _ _ _ rfl),zp rfl (op_assign_take _ _ _ _ rfl),zz⟩ ?_
     refine ht_ret ?_
     obtain rfl := Option.some.inj h
     exact pt_ret hio rfl (.tmp _ _ .nil) rfl rfl
    ·rintro u351 hl352 hr353 ⟨s261, s262⟩ rr356 h ho354
     refine ht_seq ?_
     refine zgg hn [_,_,(47,.same (.slot 4)),(48,vi (s262.length : Int)),(49,vb (decide (1 < (s262.length : Int))))] [0,1] [0,1,4] [zq [1] 2 47,zq [2,1] 3 48,zq [3] 4 49] [(_,_),(_,_),(_,_)] rfl ⟨z1 rfl,zp rfl (op_len_fr _ _ _ underlying54 rfl (by decide) (gflat_len T_wherryref01_node.ilen _)),z4 rfl rfl,zz⟩ ?_
     refine ht_cond _ rfl (fun hb357 => ?_) (fun hb357 => ?_)
     ·have h := cond_t hb357 h
      refine ht_skip ?_
      refine pt_then ?_
      refine ht_block ?_
      refine ht_seq ?_
      obtain ⟨v60, hv60, h⟩ := bind_some h
      refine zg hn [_,_,_,(50,.same (.slot 4)),(51,vi v60),(6,vi v60)] [0,1,2] [0,1,5] [zq [1] 3 50,zq [3,1] 4 51,zq [4] 5 6] [(_,_),(_,_),(_,_)] rfl ⟨z1 rfl,zp rfl (op_call _ _ 37 _ _ rfl call37 rfl (ok_wherryref01_least s262 (-1) _ hv60) rfl rfl),z2 rfl,zz⟩ ?_
      refine pt_then (ht_seq ?_)
      obtain ⟨v61, hv61, h⟩ := bind_some h
      refine zg hn [_,_,_,(52,.same (.slot 4)),(53,vi v60),(54,vi v61),(7,vi v61)] [0,1,2] [0,1,2,6] [zq [1] 3 52,zq [2] 4 53,zq [3,1,4] 5 54,zq [5] 6 7] [(_,_),(_,_),(_,_),(_,_)] rfl ⟨z1 rfl,z1 rfl,zp rfl (op_call _ _ 37 _ _ rfl call37 rfl (ok_wherryref01_least s262 v60 _ hv61) rfl rfl),z2 rfl,zz⟩ ?_
      refine pt_then (ht_seq ?_)
      obtain ⟨v62, hv62, h⟩ := bind_some h
      obtain ⟨v63, hv63, h⟩ := bind_some h
      obtain ⟨v64, hv64, h⟩ := bind_some h
      obtain ⟨v65, hv65, h⟩ := bind_some h
      obtain ⟨v66, hv66, h⟩ := bind_some h
      refine ht_anyR (by kernel_rfl) hn (El := (_ :: _ :: _ :: _ :: (55, .same (.slot 4)) :: (56, .v (.int .i64 v60)) :: (57, .eref (.slot 4) (v62 * 2)) :: (58, .eref (.slot 4) (v62 * 2 + 0)) :: (59, .v (.int .i64 v63.w)) :: (60, .same (.slot 4)) :: (61, .v (.int .i64 v61)) :: (62, .eref (.slot 4) (v64 * 2)) :: (63, .eref (.slot 4) (v64 * 2 + 0)) :: (64, .v (.int .i64 v65.w)) :: (65, .v (.int .i64 v66)) :: (66, .agg [.v (.int .i64 v66), .v (.slice none 0 0)]) :: (8, .box 56 [.v (.int .i64 0), .v (.slice none 0 0)]) :: (8, .box 56 [.v (.int .i64 v66), .v (.slice none 0 0)]) :: [])) (init := [0, 1, 2, 3]) (fin := [0, 1, 2, 3, 17]) (sps := [zq [1] 4 55, zq [2] 5 56, zq [4,1,5] 6 57, zq [6,1] 7 58, zq [7,1] 8 59, zq [1] 9 60, zq [3] 10 61, zq [9,1,10] 11 62, zq [11,1] 12 63, zq [12,1] 13 64, zq [8,13] 14 65, zq [14] 15 66, zq [] 16 8, ⟨[15], [16], [17], [.cell 8 0, .cell 8 1]⟩]) (es' := [(_,_),(_,_),(_,_),(_,_),(8, .box 56 [.v (.int .i64 v66), .v (.slice none 0 0)])]) (by kernel_rfl) rfl rfl ⟨z1 rfl,z1 rfl,zp rfl (op_ix_fr _ _ _ _ _ _ _ _ underlying54 sz56 (by decide) rfl rfl rfl (ix_ok hv62).1 (gflat_lt T_wherryref01_node.ilen (ix_ok hv62).2) rfl),zp rfl (op_fieldAddr_e _ _ _ _ _ _ _ underlying56 rfl sz3 rfl rfl rfl),zp rfl (op_load_fr _ _ _ _ _ _ _ underlying3 rfl rfl rfl (gflat_cell T_wherryref01_node.ilen hv63 rfl) (.v _)),z1 rfl,z1 rfl,zp rfl (op_ix_fr _ _ _ _ _ _ _ _ underlying54 sz56 (by decide) rfl rfl rfl (ix_ok hv64).1 (gflat_lt T_wherryref01_node.ilen (ix_ok hv64).2) rfl),zp rfl (op_fieldAddr_e _ _ _ _ _ _ _ underlying56 rfl sz3 rfl rfl rfl),zp rfl (op_load_fr _ _ _ _ _ _ _ underlying3 rfl rfl rfl (gflat_cell T_wherryref01_node.ilen hv65 rfl) (.v _)),zp rfl (oB rfl (ibind (f := Value.int .i64) (Option.some.inj hv66))),zp rfl (op_build _ _ _ _ [1, 1] _ _ underlying56 zr56 (fs56 _ underlying56) (.copy _ Src.nil) rfl rfl rfl),zp rfl (op_alloc _ _ zr56),zp rfl (oS sz56 rfl),zz⟩ ?_
      refine pt_then (ht_seq ?_)
      obtain ⟨v67, hv67, h⟩ := bind_some h
      obtain ⟨v68, hv68, h⟩ := bind_some h
      obtain ⟨v69, hv69, h⟩ := bind_some h
      obtain ⟨v70, hv70, h⟩ := bind_some h
      obtain ⟨v71, hv71, h⟩ := bind_some h
      obtain ⟨v72, hv72, h⟩ := bind_some h
      refine ht_anyR (by kernel_rfl) hn (El := (_ :: _ :: _ :: _ :: _ :: (67, .ptr 8 1) :: (68, .v (.slice none 0 0)) :: (69, .same (.slot 4)) :: (70, .v (.int .i64 v60)) :: (71, .eref (.slot 4) (v67 * 2)) :: (72, .eref (.slot 4) (v67 * 2 + 1)) :: (73, .fl .ro 1 (List.map (Value.int .i64) v68.who)) :: (74, .fl (.own 3) 1 (List.map (Value.int .i64) v69)) :: (75, .same (.slot 4)) :: (76, .v (.int .i64 v61)) :: (77, .eref (.slot 4) (v70 * 2)) :: (78, .eref (.slot 4) (v70 * 2 + 1)) :: (79, .fl .ro 1 (List.map (Value.int .i64) v71.who)) :: (80, .fl (.own 3) 1 (List.map (Value.int .i64) v72)) :: (74, .any) :: (81, .ptr 8 1) :: (8, .box 56 [.v (.int .i64 v66), .fl (.own 3) 1 (List.map (Value.int .i64) v72)]) :: [])) (init := [0, 1, 2, 3, 4]) (fin := [0, 1, 2, 3, 21]) (sps := (zq [4] 5 67 :: zq [5,4] 6 68 :: zq [1] 7 69 :: zq [2] 8 70 :: zq [7,1,8] 9 71 :: zq [9,1] 10 72 :: zq [10,1] 11 73 :: zq [6,11] 12 74 :: zq [1] 13 75 :: zq [3] 14 76 :: zq [13,1,14] 15 77 :: zq [15,1] 16 78 :: zq [16,1] 17 79 :: ⟨[17], [12], [19, 18], [(.slot 80)]⟩ :: zq [4] 20 81 :: ⟨[20], [18, 4], [21], [.cell 8 1]⟩ :: [])) (es' := [(_,_),(_,_),(_,_),(_,_),(8, .box 56 [.v (.int .i64 v66), .fl (.own 3) 1 (List.map (Value.int .i64) v72)])]) (by kernel_rfl) rfl rfl ⟨zp rfl (oF underlying56 rfl sz22),zp rfl (oL underlying22 rfl),z1 rfl,z1 rfl,zp rfl (op_ix_fr _ _ _ _ _ _ _ _ underlying54 sz56 (by decide) rfl rfl rfl (ix_ok hv67).1 (gflat_lt T_wherryref01_node.ilen (ix_ok hv67).2) rfl),zp rfl (op_fieldAddr_e _ _ _ _ _ _ _ underlying56 rfl sz22 rfl rfl rfl),zp rfl (op_load_fr _ _ _ _ _ _ _ underlying22 rfl rfl rfl (gflat_cell T_wherryref01_node.ilen hv68 rfl) (.fl _ _ rfl)),zp rfl (op_app_nil _ _ _ _ el22 rfl rfl (map_len _) hv69 (congrArg (List.map _) (app_nil_eq hv69))),z1 rfl,z1 rfl,zp rfl (op_ix_fr _ _ _ _ _ _ _ _ underlying54 sz56 (by decide) rfl rfl rfl (ix_ok hv70).1 (gflat_lt T_wherryref01_node.ilen (ix_ok hv70).2) rfl),zp rfl (op_fieldAddr_e _ _ _ _ _ _ _ underlying56 rfl sz22 rfl rfl rfl),zp rfl (op_load_fr _ _ _ _ _ _ _ underlying22 rfl rfl rfl (gflat_cell T_wherryref01_node.ilen hv71 rfl) (.fl _ _ rfl)),zp rfl (op_app _ _ _ _ _ el22 rfl rfl (map_len _) (map_len _) hv72 ((List.map_append).symm.trans (congrArg (List.map _) (app_eq hv72)))),zp rfl (oF underlying56 rfl sz22),zp rfl (op_store_take _ _ _ _ _ _ _ _ sz22 rfl rfl rfl (zl rfl) rfl rfl),zz⟩ ?_
      refine pt_then (ht_seq ?_)
      refine zgg hn [_,_,_,_,_,(9,vi 0)] [0,1,2,3,4] [0,1,2,3,4,5] [zq [] 5 9] [(_,_),(_,_),(_,_),(_,_),(_,_),(_,_)] rfl ⟨z2 rfl,zz⟩ ?_
      refine ht_loopS h (fun ((s362, s363) : (List Int) × Int) => [(3, .fl (.own 3) 1 (List.map (Value.int .i64) s362)), (4, .fr (.own 56) false 2 (List.flatten (List.map T_wherryref01_node.ienc s262))), (6, .v (.int .i64 v60)), (7, .v (.int .i64 v61)), (8, .box 56 [.v (.int .i64 v66), .fl (.own 3) 1 (List.map (Value.int .i64) v72)]), (9, .v (.int .i64 s363))]) (fun (s365 : (List Int)) => [(3, .fl (.own 3) 1 (List.map (Value.int .i64) s365)), (4, .fr (.own 56) false 2 (List.flatten (List.map T_wherryref01_node.ienc s262))), (6, .v (.int .i64 v60)), (7, .v (.int .i64 v61)), (8, .box 56 [.v (.int .i64 v66), .fl (.own 3) 1 (List.map (Value.int .i64) v72)])]) ?_ ?_
      ·rintro s365 h
       refine pt_then ?_
       refine zgg hn [_,_,_,_,_,(10,.v (.slice none 0 0))] [0,1,2,3,4] [0,1,2,3,4,5] [zq [] 5 10] [(_,_),(_,_),(_,_),(_,_),(_,_),(_,_)] rfl ⟨z2 rfl,zz⟩ ?_
       refine ht_seq ?_
       refine zgg hn [_,_,_,_,_,_,(11,vi 0)] [0,1,2,3,4,5] [0,1,2,3,4,5,6] [zq [] 6 11] [(_,_),(_,_),(_,_),(_,_),(_,_),(_,_),(_,_)] rfl ⟨z2 rfl,zz⟩ ?_
       refine ht_sub (fs := [(3, .fl (.own 3) 1 (List.map (Value.int .i64) s365)), (4, .fr (.own 56) false 2 (List.flatten (List.map T_wherryref01_node.ienc s262))), (6, .v (.int .i64 v60)), (7, .v (.int .i64 v61)), (8, .box 56 [.v (.int .i64 v66), .fl (.own 3) 1 (List.map (Value.int .i64) v72)]), (10, .fr (.own 56) false 2 (List.flatten (List.map T_wherryref01_node.ienc []))), (11, .v (.int .i64 0))]) (.same _ (.same _ (.same _ (.same _ (.same _ (.sub _ (sub_nil_fr 56 false 2) rfl (.same _ .nil))))))) ?_
       refine ht_loopS h (fun ((s405, s406) : (List T_wherryref01_node) × Int) => [(3, .fl (.own 3) 1 (List.map (Value.int .i64) s365)), (4, .fr (.own 56) false 2 (List.flatten (List.map T_wherryref01_node.ienc s262))), (6, .v (.int .i64 v60)), (7, .v (.int .i64 v61)), (8, .box 56 [.v (.int .i64 v66), .fl (.own 3) 1 (List.map (Value.int .i64) v72)]), (10, .fr (.own 56) false 2 (List.flatten (List.map T_wherryref01_node.ienc s405))), (11, .v (.int .i64 s406))]) (fun (s422 : (List T_wherryref01_node)) => [(3, .fl (.own 3) 1 (List.map (Value.int .i64) s365)), (8, .box 56 [.v (.int .i64 v66), .fl (.own 3) 1 (List.map (Value.int .i64) v72)]), (10, .fr (.own 56) false 2 (List.flatten (List.map T_wherryref01_node.ienc s422)))]) ?_ ?_
       ·rintro s422 h
        refine pt_then ?_
        obtain ⟨v171, hv171, h⟩ := bind_some h
        refine zg hn [_,_,_,(120,.fr (.own 56) false 2 (List.flatten (List.map T_wherryref01_node.ienc s422))),(121,.agg [vi v66,.fl (.own 3) 1 (List.map (Value.int .i64) v72)]),(122,.fr (.own 56) false 2 (List.flatten (List.map T_wherryref01_node.ienc [(T_wherryref01_node.mk v66 v72)]))),(123,.fr (.own 56) false 2 (List.flatten (List.map T_wherryref01_node.ienc v171))),(120,.any),(4,.fr (.own 56) false 2 (List.flatten (List.map T_wherryref01_node.ienc v171)))] [0,1,2] [0,8] [⟨[],[2],[3],[(.slot 120)]⟩,⟨[],[1],[4],[(.slot 121)]⟩,⟨[],[4],[5],[(.slot 122)]⟩,⟨[5],[3],[7,6],[(.slot 123)]⟩,⟨[],[6],[8],[(.slot 4)]⟩] [(_,_),(_,_)] rfl ⟨zp rfl (op_move_take _ _ _ _ rfl),zp rfl (op_loadA_take _ _ _ _ underlying56 rfl sz56 rfl rfl),zp rfl (op_build1_fr_take _ _ _ 2 (.agg #[.int .i64 0, .slice none 0 0]) false _ _ underlying54 sz56 zr56 rfl (.cons (.v _) (.cons (.ro _ _ rfl) (.nil))) rfl (by decide) (by decide)),zp rfl (op_app_fr _ _ _ _ _ el54 rfl rfl (gflat_len T_wherryref01_node.ilen _) (gflat_len T_wherryref01_node.ilen _) hv171 (gflat_app (app_eq hv171)) (by decide) (by decide)),zp rfl (op_assign_take _ _ _ _ rfl),zz⟩ ?_
        refine pt_inb ?_
        exact pt_next _ (Option.some.inj h).symm rfl
       ·rintro u423 hl424 hr425 ⟨s405, s406⟩ rr428 h ho426
        refine ht_seq ?_
        refine zgg hn [_,_,_,_,_,_,_,(99,vi s406),(100,.same (.slot 4)),(101,vi (s262.length : Int)),(102,vb (decide (s406 < (s262.length : Int))))] [0,1,2,3,4,5,6] [0,1,2,3,4,5,6,10] [zq [6] 7 99,zq [1] 8 100,zq [8,1] 9 101,zq [7,9] 10 102] [(_,_),(_,_),(_,_),(_,_),(_,_),(_,_),(_,_),(_,_)] rfl ⟨z1 rfl,z1 rfl,zp rfl (op_len_fr _ _ _ underlying54 rfl (by decide) (gflat_len T_wherryref01_node.ilen _)),z4 rfl rfl,zz⟩ ?_
        refine ht_cond _ rfl (fun hb429 => ?_) (fun hb429 => ?_)
        ·have h := cond_t hb429 h
         refine ht_skip ?_
         refine pt_then (ht_seq ?_)
         refine ht_joinS h (fun (s435 : (List T_wherryref01_node)) => [(3, .fl (.own 3) 1 (List.map (Value.int .i64) s365)), (4, .fr (.own 56) false 2 (List.flatten (List.map T_wherryref01_node.ienc s262))), (6, .v (.int .i64 v60)), (7, .v (.int .i64 v61)), (8, .box 56 [.v (.int .i64 v66), .fl (.own 3) 1 (List.map (Value.int .i64) v72)]), (11, .v (.int .i64 s406)), (10, .fr (.own 56) false 2 (List.flatten (List.map T_wherryref01_node.ienc s435)))]) ?_ ?_
         ·rintro s435 h
          refine pt_then ?_
          obtain ⟨v114, hv114, h⟩ := bind_some h
          refine zg hn [_,_,_,_,_,_,_,(103,vi s406),(104,vi v114),(11,vi v114)] [0,1,2,3,4,5,6] [0,1,2,3,4,6,9] [zq [5] 7 103,zq [7] 8 104,⟨[8],[5],[9],[(.slot 11)]⟩] [(_,_),(_,_),(_,_),(_,_),(_,_),(_,_),(_,_)] rfl ⟨z1 rfl,zp rfl (oB rfl (ibind (f := Value.int .i64) (Option.some.inj hv114))),zp rfl (LOp.drop [_] (op_assign _ _ _ _ rfl rfl)),zz⟩ ?_
          exact pt_next _ (Option.some.inj h).symm rfl
         ·intro u436 h hl437 hr438
          refine ht_block ?_
          refine ht_seq ?_
          refine ht_joinS h (fun (s439 : Bool) => [(3, .fl (.own 3) 1 (List.map (Value.int .i64) s365)), (4, .fr (.own 56) false 2 (List.flatten (List.map T_wherryref01_node.ienc s262))), (6, .v (.int .i64 v60)), (7, .v (.int .i64 v61)), (8, .box 56 [.v (.int .i64 v66), .fl (.own 3) 1 (List.map (Value.int .i64) v72)]), (10, .fr (.own 56) false 2 (List.flatten (List.map T_wherryref01_node.ienc s405))), (11, .v (.int .i64 s406)), (112, .v (.bool s439))]) ?_ ?_
          ·rintro s439 h
           refine pt_then ?_
           refine ht_cond _ rfl (fun hb443 => ?_) (fun hb443 => ?_)
           ·have h := cond_t hb443 h
            obtain ⟨v102, hv102, h⟩ := bind_some h
            obtain ⟨v103, hv103, h⟩ := bind_some h
            obtain ⟨v104, hv104, h⟩ := bind_some h
            refine zg hn (_::_::_::_::_::_::_::_::(113,.fr (.own 56) false 2 (List.flatten (List.map T_wherryref01_node.ienc s405)))::(114,.same (.slot 4))::(115,vi s406)::(116,.eref (.slot 4) (v102 * 2))::(117,.agg [vi v103.w,.fl .ro 1 (List.map (Value.int .i64) v103.who)])::(118,.fr (.own 56) false 2 (List.flatten (List.map T_wherryref01_node.ienc [v103])))::(119,.fr (.own 56) false 2 (List.flatten (List.map T_wherryref01_node.ienc v104)))::(113,.any)::(10,.fr (.own 56) false 2 (List.flatten (List.map T_wherryref01_node.ienc v104)))::[]) [0,1,2,3,4,5,6,7] [0,1,2,3,4,6,16] [⟨[],[5],[8],[(.slot 113)]⟩,zq [1] 9 114,zq [6] 10 115,zq [9,1,10] 11 116,zq [11,1] 12 117,zq [12] 13 118,⟨[13],[8],[15,14],[(.slot 119)]⟩,⟨[],[14],[16],[(.slot 10)]⟩] [(_,_),(_,_),(_,_),(_,_),(_,_),(_,_),(_,_)] rfl ⟨zp rfl (op_move_take _ _ _ _ rfl),z1 rfl,z1 rfl,zp rfl (op_ix_fr _ _ _ _ _ _ _ _ underlying54 sz56 (by decide) rfl rfl rfl (ix_ok hv102).1 (gflat_lt T_wherryref01_node.ilen (ix_ok hv102).2) rfl),zp rfl (op_loadA_fr _ _ _ _ _ _ _ _ underlying56 rfl sz56 rfl rfl (gflat_get T_wherryref01_node.ilen hv103) (.cons (.v _) (.cons (.fl _ _ rfl) (.nil))) rfl (by decide)),zp rfl (op_build1_fr _ _ _ 2 (.agg #[.int .i64 0, .slice none 0 0]) false _ _ underlying54 sz56 zr56 rfl rfl (.cons (.v _) (.cons (.ro _ _ rfl) (.nil))) rfl (by decide) (by decide)),zp rfl (op_app_fr _ _ _ _ _ el54 rfl rfl (gflat_len T_wherryref01_node.ilen _) (gflat_len T_wherryref01_node.ilen _) hv104 (gflat_app (app_eq hv104)) (by decide) (by decide)),zp rfl (op_assign_take _ _ _ _ rfl),zz⟩ ?_
            refine pt_inb ?_
            exact hl437 _ (Option.some.inj h).symm
           ·have h := cond_f hb443 h
            refine ht_skip ?_
            refine pt_inb ?_
            refine pt_pick [0, 1, 2, 3, 4, 6, 5] (by kernel_rfl) (es' := [(_,_),(_,_),(_,_),(_,_),(_,_),(_,_),(_,_)]) rfl ?_
            exact hl437 _ (Option.some.inj h).symm
          ·intro u440 h hl441 hr442
           refine cond_some h (fun hg23_3 h => ?_) (fun hg23_3 h => ?_)
           ·refine zg hn (_::_::_::_::_::_::_::_::(105,vi s406)::(106,vi v60)::(107,vb (s406 != v60))::(108,vb true)::(109,vi s406)::(110,vi v61)::(111,vb (s406 != v61))::(112,vb (s406 != v61))::[]) [0,1,2,3,4,5,6,7] [0,1,2,3,4,5,6,15] [zq [6] 8 105,zq [2] 9 106,zq [8,9] 10 107,zq [10] 11 108,zq [11,6] 12 109,zq [11,3] 13 110,zq [11,12,13] 14 111,zq [11,14] 15 112] [(_,_),(_,_),(_,_),(_,_),(_,_),(_,_),(_,_),(_,_)] rfl ⟨z1 rfl,z1 rfl,z4 rfl rfl,z8 hg23_3 rfl,zr' rfl (oM rfl),zr' rfl (oM rfl),zr' rfl (oB rfl rfl),z3 true rfl,zz⟩ ?_
            exact hl441 _ (Option.some.inj h).symm
           ·refine zg hn (_::_::_::_::_::_::_::_::(105,vi s406)::(106,vi v60)::(107,vb (s406 != v60))::(108,vb false)::(109,.v undef)::(110,.v undef)::(111,.v undef)::(112,vb false)::[]) [0,1,2,3,4,5,6,7] [0,1,2,3,4,5,6,15] [zq [6] 8 105,zq [2] 9 106,zq [8,9] 10 107,zq [10] 11 108,zq [11] 12 109,zq [11] 13 110,zq [11] 14 111,zq [11] 15 112] [(_,_),(_,_),(_,_),(_,_),(_,_),(_,_),(_,_),(_,_)] rfl ⟨z1 rfl,z1 rfl,z4 rfl rfl,z8 hg23_3 rfl,zt rfl,zt rfl,zt rfl,z3 false rfl,zz⟩ ?_
            exact hl441 _ (Option.some.inj h).symm
        ·have h := cond_f hb429 h
         refine ht_exit ?_
         refine pt_x_then ?_
         refine pt_x_then ?_
         refine pt_x_in ?_
         refine pt_pick [0, 4, 5] (by kernel_rfl) (es' := [(_,_),(_,_),(_,_)]) rfl ?_
         exact hl424 _ (ho426 _ (Option.some.inj h).symm).symm
      ·rintro u366 hl367 hr368 ⟨s362, s363⟩ rr371 h ho369
       refine ht_seq ?_
       refine zgg hn [_,_,_,_,_,_,(82,vi s363),(83,.ptr 8 1),(84,.same (.cell 8 1)),(85,vi (v72.length : Int)),(86,vb (decide (s363 < (v72.length : Int))))] [0,1,2,3,4,5] [0,1,2,3,4,5,10] [zq [5] 6 82,zq [4] 7 83,zq [7,4] 8 84,zq [8,4] 9 85,zq [6,9] 10 86] [(_,_),(_,_),(_,_),(_,_),(_,_),(_,_),(_,_)] rfl ⟨z1 rfl,zp rfl (oF underlying56 rfl sz22),zp rfl (oL underlying22 rfl),zp rfl (op_len_fl _ _ _ underlying22 rfl (by decide) (map_len _)),z4 rfl rfl,zz⟩ ?_
       refine ht_cond _ rfl (fun hb372 => ?_) (fun hb372 => ?_)
       ·have h := cond_t hb372 h
        refine ht_skip ?_
        refine pt_then (ht_seq ?_)
        refine ht_block ?_
        obtain ⟨v74, hv74, h⟩ := bind_some h
        obtain ⟨v75, hv75, h⟩ := bind_some h
        obtain ⟨v76, hv76, h⟩ := bind_some h
        obtain ⟨v77, hv77, h⟩ := bind_some h
        obtain ⟨v78, hv78, h⟩ := bind_some h
        obtain ⟨v79, hv79, h⟩ := bind_some h
        obtain ⟨v80, hv80, h⟩ := bind_some h
        refine zg hn (_::_::_::_::_::_::_::(89,.same (.slot 3))::(90,.ptr 8 1)::(91,.same (.cell 8 1))::(92,vi s363)::(93,.eref (.cell 8 1) (v74 * 1))::(94,vi v75)::(95,.eref (.slot 3) (v76 * 1))::(96,vi v77)::(97,vi v78)::(98,.eref (.slot 3) (v79 * 1))::(3,.fl (.own 3) 1 (List.map (Value.int .i64) v80))::[]) [0,1,2,3,4,5,6] [17,1,2,3,4,5] [zq [0] 7 89,zq [4] 8 90,zq [8,4] 9 91,zq [5] 10 92,zq [9,4,10] 11 93,zq [11,4] 12 94,zq [7,0,12] 13 95,zq [13,0] 14 96,zq [14] 15 97,zq [7,0,12] 16 98,⟨[16,15],[0],[17],[]⟩] [(_,_),(_,_),(_,_),(_,_),(_,_),(_,_)] rfl ⟨z1 rfl,zp rfl (oF underlying56 rfl sz22),zp rfl (oL underlying22 rfl),z1 rfl,zp rfl (op_ix _ _ _ _ _ _ _ _ underlying22 sz3 (by decide) rfl rfl rfl (ix_ok hv74).1 (map_lt (ix_ok hv74).2) rfl),zp rfl (op_load_e _ _ _ _ _ _ underlying3 rfl rfl rfl (map_get hv75)),zp rfl (op_ix _ _ _ _ _ _ _ _ underlying22 sz3 (by decide) rfl rfl rfl (ix_ok hv76).1 (map_lt (ix_ok hv76).2) rfl),zp rfl (op_load_e _ _ _ _ _ _ underlying3 rfl rfl rfl (map_get hv77)),zp rfl (oB rfl (ibind (f := Value.int .i64) (Option.some.inj hv78))),zp rfl (op_ix _ _ _ _ _ _ _ _ underlying22 sz3 (by decide) rfl rfl rfl (ix_ok hv79).1 (map_lt (ix_ok hv79).2) rfl),zp rfl (op_store_e _ _ _ _ _ _ _ _ sz3 rfl rfl rfl (by decide) (map_lt (ix_ok hv79).2) ((map_set (f := Value.int .i64) _ (ix_ok hv79).2).trans (congrArg (List.map _) (Option.some.inj hv80)))),zz⟩ ?_
        refine pt_inb ?_
        refine pt_then ?_
        obtain ⟨v81, hv81, h⟩ := bind_some h
        refine zg hn [_,_,_,_,_,_,(87,vi s363),(88,vi v81),(9,vi v81)] [0,1,2,3,4,5] [0,1,2,3,4,8] [zq [5] 6 87,zq [6] 7 88,⟨[7],[5],[8],[(.slot 9)]⟩] [(_,_),(_,_),(_,_),(_,_),(_,_),(_,_)] rfl ⟨z1 rfl,zp rfl (oB rfl (ibind (f := Value.int .i64) (Option.some.inj hv81))),zp rfl (LOp.drop [_] (op_assign _ _ _ _ rfl rfl)),zz⟩ ?_
        exact pt_next _ (Option.some.inj h).symm rfl
       ·have h := cond_f hb372 h
        refine ht_exit ?_
        refine pt_x_then ?_
        refine pt_x_then ?_
        refine pt_x_in ?_
        refine pt_pick [0, 1, 2, 3, 4] (by kernel_rfl) (es' := [(_,_),(_,_),(_,_),(_,_),(_,_)]) rfl ?_
        exact hl367 _ (ho369 _ (Option.some.inj h).symm).symm
     ·have h := cond_f hb357 h
      refine ht_exit ?_
      refine pt_x_then ?_
      refine pt_x_then ?_
      refine pt_x_in ?_
      refine pt_pick [0] (by kernel_rfl) (es' := [(_,_)]) rfl ?_
      exact hl352 _ (ho354 _ (Option.some.inj h).symm).symm
   ·intro u55 h hl56 hr57
    refine zgg hn [_,_,(36,.same (.slot 4)),(37,vi (s33.length : Int)),(38,vb ((s33.length : Int) == 1))] [0,1] [0,1,4] [zq [1] 2 36,zq [2,1] 3 37,zq [3] 4 38] [(_,_),(_,_),(_,_)] rfl ⟨z1 rfl,zp rfl (op_len_fr _ _ _ underlying54 rfl (by decide) (gflat_len T_wherryref01_node.ilen _)),z4 rfl rfl,zz⟩ ?_
    refine ht_cond _ rfl (fun hb58 => ?_) (fun hb58 => ?_)
    ·have h := cond_t hb58 h
     obtain ⟨v48, hv48, h⟩ := bind_some h
     obtain ⟨v49, hv49, h⟩ := bind_some h
     obtain ⟨v50, hv50, h⟩ := bind_some h
     obtain ⟨v51, hv51, h⟩ := bind_some h
     obtain ⟨v52, hv52, h⟩ := bind_some h
     obtain ⟨v53, hv53, h⟩ := bind_some h
     refine zg hn [_,_,_,(39,.same (.slot 3)),(40,.same (.slot 4)),(41,.eref (.slot 4) (v48 * 2)),(42,.eref (.slot 4) (v48 * 2 + 1)),(43,.fl .ro 1 (List.map (Value.int .i64) v49.who)),(44,.eref (.slot 43) (v50 * 1)),(45,vi v51),(46,.eref (.slot 3) (v52 * 1)),(3,.fl (.own 3) 1 (List.map (Value.int .i64) v53))] [0,1,2] [11,1] [zq [0] 3 39,zq [1] 4 40,zq [4,1] 5 41,zq [5,1] 6 42,zq [6,1] 7 43,zq [7] 8 44,zq [8,7] 9 45,zq [3,0,9] 10 46,⟨[10],[0],[11],[]⟩] [(_,_),(_,_)] rfl ⟨z1 rfl,z1 rfl,zp rfl (op_ix_fr _ _ _ _ _ _ _ _ underlying54 sz56 (by decide) rfl rfl rfl (ix_ok hv48).1 (gflat_lt T_wherryref01_node.ilen (ix_ok hv48).2) rfl),zp rfl (op_fieldAddr_e _ _ _ _ _ _ _ underlying56 rfl sz22 rfl rfl rfl),zp rfl (op_load_fr _ _ _ _ _ _ _ underlying22 rfl rfl rfl (gflat_cell T_wherryref01_node.ilen hv49 rfl) (.fl _ _ rfl)),zp rfl (op_ix _ _ _ _ _ _ _ _ underlying22 sz3 (by decide) rfl rfl rfl (ix_ok hv50).1 (map_lt (ix_ok hv50).2) rfl),zp rfl (op_load_e _ _ _ _ _ _ underlying3 rfl rfl rfl (map_get hv51)),zp rfl (op_ix _ _ _ _ _ _ _ _ underlying22 sz3 (by decide) rfl rfl rfl (ix_ok hv52).1 (map_lt (ix_ok hv52).2) rfl),zp rfl (op_store_e _ _ _ _ _ _ _ _ sz3 rfl rfl rfl (by decide) (map_lt (ix_ok hv52).2) ((map_set (f := Value.int .i64) _ (ix_ok hv52).2).trans (congrArg (List.map _) (Option.some.inj hv53)))),zz⟩ ?_
     exact hl56 _ (Option.some.inj h).symm
    ·have h := cond_f hb58 h
     refine ht_skip ?_
     refine pt_pick [0, 1] (by kernel_rfl) (es' := [(_,_),(_,_)]) rfl ?_
     exact hl56 _ (Option.some.inj h).symm
  ·rintro u34 hl35 hr36 ⟨s24, s25⟩ rr39 h ho37
   refine ht_seq ?_
   refine zgg hn [_,_,_,_,(15,vi s25),(16,.fl .shr 1 (List.map (Value.int .i64) w)),(17,vi (w.length : Int)),(18,vb (decide (s25 < (w.length : Int))))] [0,1,2,3] [0,1,2,3,7] [zq [3] 4 15,zq [0] 5 16,zq [5] 6 17,zq [4,6] 7 18] [(_,_),(_,_),(_,_),(_,_),(_,_)] rfl ⟨z1 rfl,z1 rfl,zp rfl (op_len_fl _ _ _ underlying22 rfl (by decide) (map_len _)),z4 rfl rfl,zz⟩ ?_
   refine ht_cond _ rfl (fun hb40 => ?_) (fun hb40 => ?_)
   ·have h := cond_t hb40 h
    refine ht_skip ?_
    refine pt_then (ht_seq ?_)
    refine ht_joinS h (fun (s42 : (List T_wherryref01_node)) => [(0, .fl .shr 1 (List.map (Value.int .i64) w)), (3, .fl (.own 3) 1 (List.map (Value.int .i64) v1)), (5, .v (.int .i64 s25)), (4, .fr (.own 56) false 2 (List.flatten (List.map T_wherryref01_node.ienc s42)))]) ?_ ?_
    ·rintro s42 h
     refine pt_then ?_
     obtain ⟨v14, hv14, h⟩ := bind_some h
     refine zg hn [_,_,_,_,(19,vi s25),(20,vi v14),(5,vi v14)] [0,1,2,3] [0,1,3,6] [zq [2] 4 19,zq [4] 5 20,⟨[5],[2],[6],[(.slot 5)]⟩] [(_,_),(_,_),(_,_),(_,_)] rfl ⟨z1 rfl,zp rfl (oB rfl (ibind (f := Value.int .i64) (Option.some.inj hv14))),zp rfl (LOp.drop [_] (op_assign _ _ _ _ rfl rfl)),zz⟩ ?_
     exact pt_next _ (Option.some.inj h).symm rfl
    ·intro u43 h hl44 hr45
     refine ht_block ?_
     refine ht_seq ?_
     obtain ⟨v3, hv3, h⟩ := bind_some h
     obtain ⟨v4, hv4, h⟩ := bind_some h
     refine zg hn [_,_,_,_,_,(21,.fl .shr 1 (List.map (Value.int .i64) w)),(22,vi s25),(23,.eref (.slot 21) (v3 * 1)),(24,vi v4),(25,vb (decide (0 < v4)))] [0,1,2,3,4] [0,1,2,3,9] [zq [0] 5 21,zq [3] 6 22,zq [5,6] 7 23,zq [7,5] 8 24,zq [8] 9 25] [(_,_),(_,_),(_,_),(_,_),(_,_)] rfl ⟨z1 rfl,z1 rfl,zp rfl (op_ix _ _ _ _ _ _ _ _ underlying22 sz3 (by decide) rfl rfl rfl (ix_ok hv3).1 (map_lt (ix_ok hv3).2) rfl),zp rfl (op_load_e _ _ _ _ _ _ underlying3 rfl rfl rfl (map_get hv4)),z4 rfl rfl,zz⟩ ?_
     refine pt_then ?_
     refine ht_cond _ rfl (fun hb46 => ?_) (fun hb46 => ?_)
     ·have h := cond_t hb46 h
      obtain ⟨v6, hv6, h⟩ := bind_some h
      obtain ⟨v7, hv7, h⟩ := bind_some h
      obtain ⟨v8, hv8, h⟩ := bind_some h
      refine zg hn (_::_::_::_::_::(26,.fr (.own 56) false 2 (List.flatten (List.map T_wherryref01_node.ienc s24)))::(27,.fl .shr 1 (List.map (Value.int .i64) w))::(28,vi s25)::(29,.eref (.slot 27) (v6 * 1))::(30,vi v7)::(31,vi s25)::(32,.fl (.own 3) 1 (List.map (Value.int .i64) [s25]))::(33,.agg [vi v7,.fl (.own 3) 1 (List.map (Value.int .i64) [s25])])::(34,.fr (.own 56) false 2 (List.flatten (List.map T_wherryref01_node.ienc ([(T_wherryref01_node.mk v7 [s25])]))))::(35,.fr (.own 56) false 2 (List.flatten (List.map T_wherryref01_node.ienc v8)))::(26,.any)::(4,.fr (.own 56) false 2 (List.flatten (List.map T_wherryref01_node.ienc v8)))::[]) [0,1,2,3,4] [0,1,3,16] [⟨[],[2],[5],[(.slot 26)]⟩,zq [0] 6 27,zq [3] 7 28,zq [6,7] 8 29,zq [8,6] 9 30,zq [3] 10 31,zq [10] 11 32,⟨[9],[11],[12],[(.slot 33)]⟩,⟨[],[12],[13],[(.slot 34)]⟩,⟨[13],[5],[15,14],[(.slot 35)]⟩,⟨[],[14],[16],[(.slot 4)]⟩] [(_,_),(_,_),(_,_),(_,_)] rfl ⟨zp rfl (op_move_take _ _ _ _ rfl),z1 rfl,z1 rfl,zp rfl (op_ix _ _ _ _ _ _ _ _ underlying22 sz3 (by decide) rfl rfl rfl (ix_ok hv6).1 (map_lt (ix_ok hv6).2) rfl),zp rfl (op_load_e _ _ _ _ _ _ underlying3 rfl rfl rfl (map_get hv7)),z1 rfl,zp rfl (op_buildSlice _ _ 1 (.int .i64 0) (List.map (Value.int .i64) [s25]) [(0, .int .i64 s25)] underlying22 sz3 zr3 (fun _ V w o a hv hes => by have e0 := rd_v hv hes (x := .tmp 31) rfl; simp only [List.map_toArray, List.map_cons, List.map_nil, e0]; try rfl) (litfill (by simp [Instr.fill, Value.cells]; rfl) (by simp [List.range, List.range.loop] <;> rfl)) (by simp [Value.oneCell']) rfl (by decide) (by decide) (by decide)),zp rfl (op_build _ _ _ _ [1, 1] _ _ underlying56 zr56 (fs56 _ underlying56) (.copy _ (.take _ _ Src.nil)) rfl rfl rfl),zp rfl (op_build1_fr_take _ _ _ 2 (.agg #[.int .i64 0, .slice none 0 0]) false _ _ underlying54 sz56 zr56 rfl (.cons (.v _) (.cons (.ro _ _ rfl) (.nil))) rfl (by decide) (by decide)),zp rfl (op_app_fr _ _ _ _ _ el54 rfl rfl (gflat_len T_wherryref01_node.ilen _) (gflat_len T_wherryref01_node.ilen _) hv8 (gflat_app (app_eq hv8)) (by decide) (by decide)),zp rfl (op_assign_take _ _ _ _ rfl),zz⟩ ?_
      refine pt_inb ?_
      exact hl44 _ (Option.some.inj h).symm
     ·have h := cond_f hb46 h
      refine ht_skip ?_
      refine pt_inb ?_
      refine pt_pick [0, 1, 3, 2] (by kernel_rfl) (es' := [(_,_),(_,_),(_,_),(_,_)]) rfl ?_
      exact hl44 _ (Option.some.inj h).symm
   ·have h := cond_f hb40 h
    refine ht_exit ?_
    refine pt_x_then ?_
    refine pt_x_then ?_
    refine pt_x_in ?_
    refine pt_pick [1, 2] (by kernel_rfl) (es' := [(_,_),(_,_)]) rfl ?_
    exact hl35 _ (ho37 _ (Option.some.inj h).symm).symm
theorem ok_wherryref01_Lengths (w : (List Int)) (limit : Int) (r : ((List Int) × Int)) (h : Sh.wherryref01_Lengths w limit = some r) : FnOK Try.prog 13 [.fl .shr 1 (List.map (Value.int .i64) w), .v (.int .i64 limit)] (.tup [.fl (.own 3) 1 (List.map (Value.int .i64) r.1), .v (.int .i64 r.2)]) := by
  unfold Sh.wherryref01_Lengths at h
  refine fn_ok func13 rfl (zl rfl) rfl rfl fun g0 hn hio => ?_
  refine zgg hn [_,_,(4,.v (.slice none 0 0)),(5,vi 0)] [0,1] [0,1] [zq [] 2 4,zq [] 3 5] [(_,_),(_,_)] rfl ⟨z2 rfl,z2 rfl,zz⟩ ?_
  refine ht_seq ?_
  refine ht_seq ?_
  obtain ⟨v1, hv1, h⟩ := bind_some h
  refine zg hn [_,_,(13,.fl .shr 1 (List.map (Value.int .i64) w)),(14,vb v1),(15,vb (!v1))] [0,1] [0,1,4] [zq [0] 2 13,zq [2] 3 14,zq [3] 4 15] [(_,_),(_,_),(_,_)] rfl ⟨z1 rfl,zp rfl (op_call _ _ 25 _ _ rfl call25 rfl (ok_wherryref01_rightWeights w _ hv1) rfl rfl),zp rfl (op_un _ _ _ _ rfl rfl),zz⟩ ?_
  refine pt_then ?_
  refine ht_cond _ rfl (fun hb2 => ?_) (fun hb2 => ?_)
  ·have h := cond_t hb2 h
   refine zgg hn [_,_,_,(4,.v (.slice none 0 0)),(5,vi 1)] [0,1,2] [3,4] [zq [] 3 4,zq [] 4 5] [(_,_),(_,_)] rfl ⟨z2 rfl,z2 rfl,zz⟩ ?_
   refine ht_ret ?_
   refine pt_sub (fs := [(4, .fl (.own 3) 1 (List.map (Value.int .i64) [])), (5, .v (.int .i64 1))]) (.sub _ (sub_nil 3 1) rfl (.same _ .nil)) ?_
   refine pt_r_then ?_
   obtain rfl := Option.some.inj h
   exact pt_ret hio rfl (.tmp _ _ (.tmp _ _ .nil)) rfl rfl
  ·have h := cond_f hb2 h
   refine ht_skip ?_
   refine pt_then ?_
   refine zgg hn [_,_,_,(6,vi 0)] [0,1,2] [0,1,3] [zq [] 3 6] [(_,_),(_,_),(_,_)] rfl ⟨z2 rfl,zz⟩ ?_
   refine ht_seq ?_
   refine zgg hn [_,_,_,(7,vi 0)] [0,1,2] [0,1,2,3] [zq [] 3 7] [(_,_),(_,_),(_,_),(_,_)] rfl ⟨z2 rfl,zz⟩ ?_
   refine ht_loopS h (fun ((s23, s24) : Int × Int) => [(0, .fl .shr 1 (List.map (Value.int .i64) w)), (1, .v (.int .i64 limit)), (6, .v (.int .i64 s23)), (7, .v (.int .i64 s24))]) (fun (s32 : Int) => [(0, .fl .shr 1 (List.map (Value.int .i64) w)), (1, .v (.int .i64 limit)), (6, .v (.int .i64 s32))]) ?_ ?_
   ·rintro s32 h
    refine pt_then (ht_seq ?_)
    refine ht_seq ?_
    refine ht_joinS h (fun (s48 : Bool) => [(0, .fl .shr 1 (List.map (Value.int .i64) w)), (1, .v (.int .i64 limit)), (40, .v (.bool s48))]) ?_ ?_
    ·rintro s48 h
     refine pt_then ?_
     refine ht_cond _ rfl (fun hb52 => ?_) (fun hb52 => ?_)
     ·have h := cond_t hb52 h
      refine zgg hn [_,_,_,(4,.v (.slice none 0 0)),(5,vi 1)] [0,1,2] [3,4] [zq [] 3 4,zq [] 4 5] [(_,_),(_,_)] rfl ⟨z2 rfl,z2 rfl,zz⟩ ?_
      refine ht_ret ?_
      refine pt_sub (fs := [(4, .fl (.own 3) 1 (List.map (Value.int .i64) [])), (5, .v (.int .i64 1))]) (.sub _ (sub_nil 3 1) rfl (.same _ .nil)) ?_
      refine pt_r_then ?_
      obtain rfl := Option.some.inj h
      exact pt_ret hio rfl (.tmp _ _ (.tmp _ _ .nil)) rfl rfl
     ·have h := cond_f hb52 h
      refine ht_skip ?_
      refine pt_then (ht_seq ?_)
      obtain ⟨v53, hv53, h⟩ := bind_some h
      refine zg hn [_,_,_,(41,.fl .shr 1 (List.map (Value.int .i64) w)),(42,.fl (.own 3) 1 (List.map (Value.int .i64) v53)),(8,.fl (.own 3) 1 (List.map (Value.int .i64) v53))] [0,1,2] [1,5] [zq [0] 3 41,zq [3] 4 42,⟨[],[4],[5],[(.slot 8)]⟩] [(_,_),(_,_)] rfl ⟨z1 rfl,zp rfl (op_call _ _ 11 _ _ rfl call11 rfl (ok_wherrykeep_TwinInts w _ hv53) rfl rfl),zp rfl (op_assign_take _ _ _ _ rfl),zz⟩ ?_
      refine pt_then ?_
      refine ht_loopS h (fun (s129 : (List Int)) => [(1, .v (.int .i64 limit)), (8, .fl (.own 3) 1 (List.map (Value.int .i64) s129))]) (fun (() : Unit) => []) ?_ ?_
      ·rintro ⟨⟩ h
       cases h
      ·rintro u161 hl162 hr163 s129 rr166 h ho164
       refine ht_block ?_
       refine ht_seq ?_
       obtain ⟨v54, hv54, h⟩ := bind_some h
       refine zg hn [_,_,(43,.same (.slot 8)),(44,.fl (.own 3) 1 (List.map (Value.int .i64) v54)),(9,.fl (.own 3) 1 (List.map (Value.int .i64) v54))] [0,1] [0,1,4] [zq [1] 2 43,zq [2,1] 3 44,⟨[],[3],[4],[(.slot 9)]⟩] [(_,_),(_,_),(_,_)] rfl ⟨z1 rfl,zp rfl (op_call _ _ 27 _ _ rfl call27 rfl (ok_wherryref01_lengths s129 _ hv54) rfl rfl),zp rfl (op_assign_take _ _ _ _ rfl),zz⟩ ?_
       refine pt_then ?_
       refine zgg hn [_,_,_,(10,vi 0)] [0,1,2] [0,1,2,3] [zq [] 3 10] [(_,_),(_,_),(_,_),(_,_)] rfl ⟨z2 rfl,zz⟩ ?_
       refine ht_seq ?_
       refine zgg hn [_,_,_,_,(11,vi 0)] [0,1,2,3] [0,1,2,3,4] [zq [] 4 11] [(_,_),(_,_),(_,_),(_,_),(_,_)] rfl ⟨z2 rfl,zz⟩ ?_
       refine ht_loopS h (fun ((s171, s172) : Int × Int) => [(1, .v (.int .i64 limit)), (8, .fl (.own 3) 1 (List.map (Value.int .i64) s129)), (9, .fl (.own 3) 1 (List.map (Value.int .i64) v54)), (10, .v (.int .i64 s171)), (11, .v (.int .i64 s172))]) (fun (s174 : Int) => [(1, .v (.int .i64 limit)), (8, .fl (.own 3) 1 (List.map (Value.int .i64) s129)), (9, .fl (.own 3) 1 (List.map (Value.int .i64) v54)), (10, .v (.int .i64 s174))]) ?_ ?_
       ·rintro s174 h
        refine pt_then (ht_seq ?_)
        refine zgg hn [_,_,_,_,(57,vi s174),(58,vi limit),(59,vb (decide (s174 ≤ limit)))] [0,1,2,3] [0,1,2,6] [zq [3] 4 57,zq [0] 5 58,zq [4,5] 6 59] [(_,_),(_,_),(_,_),(_,_)] rfl ⟨z1 rfl,z1 rfl,z4 rfl rfl,zz⟩ ?_
        refine ht_cond _ rfl (fun hb182 => ?_) (fun hb182 => ?_)
        ·have h := cond_t hb182 h
         refine zgg hn [_,_,_,_,(60,.fl (.own 3) 1 (List.map (Value.int .i64) v54)),(4,.fl (.own 3) 1 (List.map (Value.int .i64) v54)),(5,vi 0)] [0,1,2,3] [5,6] [⟨[],[2],[4],[(.slot 60)]⟩,⟨[],[4],[5],[(.slot 4)]⟩,zq [] 6 5] [(_,_),(_,_)] rfl ⟨zp rfl (op_move_take _ _ _ _ rfl),zp rfl (op_assign_take _ _ _ _ rfl),z2 rfl,zz⟩ ?_
         refine ht_ret ?_
         refine pt_r_then ?_
         refine pt_r_in ?_
         refine pt_r_then ?_
         refine pt_r_in ?_
         have h := hr163 _ (ho164 _ (Option.some.inj h).symm).symm
         obtain rfl := Option.some.inj h
         exact pt_ret hio rfl (.tmp _ _ (.tmp _ _ .nil)) rfl rfl
        ·have h := cond_f hb182 h
         refine ht_skip ?_
         refine pt_then ?_
         refine zgg hn [_,_,_,_,(12,vi 0)] [0,1,2,3] [0,1,4] [zq [] 4 12] [(_,_),(_,_),(_,_)] rfl ⟨z2 rfl,zz⟩ ?_
         refine ht_loopS h (fun ((s187, s188) : (List Int) × Int) => [(1, .v (.int .i64 limit)), (8, .fl (.own 3) 1 (List.map (Value.int .i64) s187)), (12, .v (.int .i64 s188))]) (fun (s190 : (List Int)) => [(1, .v (.int .i64 limit)), (8, .fl (.own 3) 1 (List.map (Value.int .i64) s190))]) ?_ ?_
         ·rintro s190 h
          refine pt_inb ?_
          exact pt_next _ (Option.some.inj h).symm rfl
         ·rintro u191 hl192 hr193 ⟨s187, s188⟩ rr196 h ho194
          refine ht_seq ?_
          refine zgg hn [_,_,_,(61,vi s188),(62,.same (.slot 8)),(63,vi (s187.length : Int)),(64,vb (decide (s188 < (s187.length : Int))))] [0,1,2] [0,1,2,6] [zq [2] 3 61,zq [1] 4 62,zq [4,1] 5 63,zq [3,5] 6 64] [(_,_),(_,_),(_,_),(_,_)] rfl ⟨z1 rfl,z1 rfl,zp rfl (op_len_fl _ _ _ underlying22 rfl (by decide) (map_len _)),z4 rfl rfl,zz⟩ ?_
          refine ht_cond _ rfl (fun hb197 => ?_) (fun hb197 => ?_)
          ·have h := cond_t hb197 h
           refine ht_skip ?_
           refine pt_then (ht_seq ?_)
           refine ht_block ?_
           obtain ⟨v76, hv76, h⟩ := bind_some h
           obtain ⟨v77, hv77, h⟩ := bind_some h
           obtain ⟨v78, hv78, h⟩ := bind_some h
           obtain ⟨v79, hv79, h⟩ := bind_some h
           obtain ⟨v80, hv80, h⟩ := bind_some h
           obtain ⟨v81, hv81, h⟩ := bind_some h
           refine zg hn [_,_,_,_,(67,.same (.slot 8)),(68,vi s188),(69,.same (.slot 8)),(70,vi s188),(71,.eref (.slot 8) (v76 * 1)),(72,vi v77),(73,vi v78),(74,vi v79),(75,.eref (.slot 8) (v80 * 1)),(8,.fl (.own 3) 1 (List.map (Value.int .i64) v81))] [0,1,2,3] [0,13,2] [zq [1] 4 67,zq [2] 5 68,zq [1] 6 69,zq [2] 7 70,zq [6,1,7] 8 71,zq [8,1] 9 72,zq [9] 10 73,zq [10] 11 74,zq [4,1,5] 12 75,⟨[12,11],[1],[13],[]⟩] [(_,_),(_,_),(_,_)] rfl ⟨z1 rfl,z1 rfl,z1 rfl,z1 rfl,zp rfl (op_ix _ _ _ _ _ _ _ _ underlying22 sz3 (by decide) rfl rfl rfl (ix_ok hv76).1 (map_lt (ix_ok hv76).2) rfl),zp rfl (op_load_e _ _ _ _ _ _ underlying3 rfl rfl rfl (map_get hv77)),zp rfl (oB rfl (ibind (f := Value.int .i64) (Option.some.inj hv78))),zp rfl (oB rfl (quo_ok hv79)),zp rfl (op_ix _ _ _ _ _ _ _ _ underlying22 sz3 (by decide) rfl rfl rfl (ix_ok hv80).1 (map_lt (ix_ok hv80).2) rfl),zp rfl (op_store_e _ _ _ _ _ _ _ _ sz3 rfl rfl rfl (by decide) (map_lt (ix_ok hv80).2) ((map_set (f := Value.int .i64) _ (ix_ok hv80).2).trans (congrArg (List.map _) (Option.some.inj hv81)))),zz⟩ ?_
           refine pt_inb ?_
           refine pt_then ?_
           obtain ⟨v82, hv82, h⟩ := bind_some h
           refine zg hn [_,_,_,(65,vi s188),(66,vi v82),(12,vi v82)] [0,1,2] [0,1,5] [zq [2] 3 65,zq [3] 4 66,⟨[4],[2],[5],[(.slot 12)]⟩] [(_,_),(_,_),(_,_)] rfl ⟨z1 rfl,zp rfl (oB rfl (ibind (f := Value.int .i64) (Option.some.inj hv82))),zp rfl (LOp.drop [_] (op_assign _ _ _ _ rfl rfl)),zz⟩ ?_
           exact pt_next _ (Option.some.inj h).symm rfl
          ·have h := cond_f hb197 h
           refine ht_exit ?_
           refine pt_x_then ?_
           refine pt_x_then ?_
           refine pt_x_in ?_
           refine pt_pick [0, 1] (by kernel_rfl) (es' := [(_,_),(_,_)]) rfl ?_
           exact hl192 _ (ho194 _ (Option.some.inj h).symm).symm
       ·rintro u175 hl176 hr177 ⟨s171, s172⟩ rr180 h ho178
        refine ht_seq ?_
        refine zgg hn [_,_,_,_,_,(45,vi s172),(46,.same (.slot 9)),(47,vi (v54.length : Int)),(48,vb (decide (s172 < (v54.length : Int))))] [0,1,2,3,4] [0,1,2,3,4,8] [zq [4] 5 45,zq [2] 6 46,zq [6,2] 7 47,zq [5,7] 8 48] [(_,_),(_,_),(_,_),(_,_),(_,_),(_,_)] rfl ⟨z1 rfl,z1 rfl,zp rfl (op_len_fl _ _ _ underlying22 rfl (by decide) (map_len _)),z4 rfl rfl,zz⟩ ?_
        refine ht_cond _ rfl (fun hb181 => ?_) (fun hb181 => ?_)
        ·have h := cond_t hb181 h
         refine ht_skip ?_
         refine pt_then (ht_seq ?_)
         refine ht_block ?_
         obtain ⟨v56, hv56, h⟩ := bind_some h
         obtain ⟨v57, hv57, h⟩ := bind_some h
         obtain ⟨v58, hv58, h⟩ := bind_some h
         refine zg hn [_,_,_,_,_,_,(51,vi s171),(52,.same (.slot 9)),(53,vi s172),(54,.eref (.slot 9) (v56 * 1)),(55,vi v57),(56,vi v58),(10,vi v58)] [0,1,2,3,4,5] [0,1,2,4,12] [zq [3] 6 51,zq [2] 7 52,zq [4] 8 53,zq [7,2,8] 9 54,zq [9,2] 10 55,zq [6,10] 11 56,⟨[11],[3],[12],[(.slot 10)]⟩] [(_,_),(_,_),(_,_),(_,_),(_,_)] rfl ⟨z1 rfl,z1 rfl,z1 rfl,zp rfl (op_ix _ _ _ _ _ _ _ _ underlying22 sz3 (by decide) rfl rfl rfl (ix_ok hv56).1 (map_lt (ix_ok hv56).2) rfl),zp rfl (op_load_e _ _ _ _ _ _ underlying3 rfl rfl rfl (map_get hv57)),zp rfl ((Option.some.inj hv58) ▸ op_max _ _ _ _ rfl rfl),zp rfl (LOp.drop [_] (op_assign _ _ _ _ rfl rfl)),zz⟩ ?_
         refine pt_inb ?_
         refine pt_then ?_
         obtain ⟨v59, hv59, h⟩ := bind_some h
         refine zg hn [_,_,_,_,_,(49,vi s172),(50,vi v59),(11,vi v59)] [0,1,2,3,4] [0,1,2,4,7] [zq [3] 5 49,zq [5] 6 50,⟨[6],[3],[7],[(.slot 11)]⟩] [(_,_),(_,_),(_,_),(_,_),(_,_)] rfl ⟨z1 rfl,zp rfl (oB rfl (ibind (f := Value.int .i64) (Option.some.inj hv59))),zp rfl (LOp.drop [_] (op_assign _ _ _ _ rfl rfl)),zz⟩ ?_
         exact pt_next _ (Option.some.inj h).symm rfl
        ·have h := cond_f hb181 h
         refine ht_exit ?_
         refine pt_x_then ?_
         refine pt_x_then ?_
         refine pt_x_in ?_
         refine pt_pick [0, 1, 2, 3] (by kernel_rfl) (es' := [(_,_),(_,_),(_,_),(_,_)]) rfl ?_
         exact hl176 _ (ho178 _ (Option.some.inj h).symm).symm
    ·intro u49 h hl50 hr51
     obtain ⟨v46, hv46, h⟩ := bind_some h
     refine cond_some h (fun hg9_3 h => ?_) (fun hg9_3 h => ?_)
     ·obtain ⟨v47, hv47, h⟩ := bind_some h
      refine cond_some h (fun hg9_6 h => ?_) (fun hg9_6 h => ?_)
      ·refine zg hn (_::_::_::(29,vi limit)::(30,vb v46)::(31,vb (!v46))::(32,vb true)::(33,vi limit)::(34,vb v47)::(35,vb true)::(36,vi s32)::(37,vb (decide (s32 ≤ 19)))::(38,vb (decide (s32 ≤ 19)))::(39,vb (!((decide (s32 ≤ 19)))))::(40,vb (!((decide (s32 ≤ 19)))))::[]) [0,1,2] [0,1,14] [zq [1] 3 29,zq [3] 4 30,zq [4] 5 31,zq [5] 6 32,zq [6,1] 7 33,zq [6,7] 8 34,zq [6,8] 9 35,zq [9,2] 10 36,zq [9,10] 11 37,zq [6,9,11] 12 38,zq [6,12] 13 39,zq [6,13] 14 40] [(_,_),(_,_),(_,_)] rfl ⟨z1 rfl,zp rfl (op_call _ _ 26 _ _ rfl call26 rfl (ok_wherryref01_in limit 9 15 _ hv46) rfl rfl),zp rfl (op_un _ _ _ _ rfl rfl),z8 hg9_3 rfl,zr' rfl (oM rfl),zr' rfl (op_call _ _ 26 _ _ rfl call26 rfl (ok_wherryref01_in limit 5 15 _ hv47) rfl rfl),zr' rfl (op_move _ _ _ _ (zb hg9_6) rfl),zr' rfl (oM rfl),zr' rfl (oB rfl rfl),zr' rfl (op_pick _ _ true _ rfl rfl),zr' rfl (op_un _ _ _ _ rfl rfl),z3 true rfl,zz⟩ ?_
       exact hl50 _ (Option.some.inj h).symm
      ·refine zg hn (_::_::_::(29,vi limit)::(30,vb v46)::(31,vb (!v46))::(32,vb true)::(33,vi limit)::(34,vb v47)::(35,vb false)::(36,.v undef)::(37,.v undef)::(38,vb false)::(39,vb true)::(40,vb true)::[]) [0,1,2] [0,1,14] [zq [1] 3 29,zq [3] 4 30,zq [4] 5 31,zq [5] 6 32,zq [6,1] 7 33,zq [6,7] 8 34,zq [6,8] 9 35,zq [9] 10 36,zq [9] 11 37,zq [6,9] 12 38,zq [6,12] 13 39,zq [6,13] 14 40] [(_,_),(_,_),(_,_)] rfl ⟨z1 rfl,zp rfl (op_call _ _ 26 _ _ rfl call26 rfl (ok_wherryref01_in limit 9 15 _ hv46) rfl rfl),zp rfl (op_un _ _ _ _ rfl rfl),z8 hg9_3 rfl,zr' rfl (oM rfl),zr' rfl (op_call _ _ 26 _ _ rfl call26 rfl (ok_wherryref01_in limit 5 15 _ hv47) rfl rfl),zr' rfl (op_move _ _ _ _ (zb hg9_6) rfl),zt rfl,zt rfl,zr' rfl (op_pick _ _ false _ rfl rfl),zr' rfl (op_un _ _ _ _ rfl rfl),z3 true rfl,zz⟩ ?_
       exact hl50 _ (Option.some.inj h).symm
     ·refine zg hn (_::_::_::(29,vi limit)::(30,vb v46)::(31,vb (!v46))::(32,vb false)::(33,.v undef)::(34,.v undef)::(35,.v undef)::(36,.v undef)::(37,.v undef)::(38,.v undef)::(39,.v undef)::(40,vb false)::[]) [0,1,2] [0,1,14] [zq [1] 3 29,zq [3] 4 30,zq [4] 5 31,zq [5] 6 32,zq [6] 7 33,zq [6] 8 34,zq [6] 9 35,zq [9] 10 36,zq [9] 11 37,zq [6] 12 38,zq [6] 13 39,zq [6] 14 40] [(_,_),(_,_),(_,_)] rfl ⟨z1 rfl,zp rfl (op_call _ _ 26 _ _ rfl call26 rfl (ok_wherryref01_in limit 9 15 _ hv46) rfl rfl),zp rfl (op_un _ _ _ _ rfl rfl),z8 hg9_3 rfl,zt rfl,zt rfl,zt rfl,zu' rfl,zu' rfl,zt rfl,zt rfl,z3 false rfl,zz⟩ ?_
      exact hl50 _ (Option.some.inj h).symm
   ·rintro u33 hl34 hr35 ⟨s23, s24⟩ rr38 h ho36
    refine ht_seq ?_
    refine zgg hn [_,_,_,_,(16,vi s24),(17,.fl .shr 1 (List.map (Value.int .i64) w)),(18,vi (w.length : Int)),(19,vb (decide (s24 < (w.length : Int))))] [0,1,2,3] [0,1,2,3,7] [zq [3] 4 16,zq [0] 5 17,zq [5] 6 18,zq [4,6] 7 19] [(_,_),(_,_),(_,_),(_,_),(_,_)] rfl ⟨z1 rfl,z1 rfl,zp rfl (op_len_fl _ _ _ underlying22 rfl (by decide) (map_len _)),z4 rfl rfl,zz⟩ ?_
    refine ht_cond _ rfl (fun hb39 => ?_) (fun hb39 => ?_)
    ·have h := cond_t hb39 h
     refine ht_skip ?_
     refine pt_then (ht_seq ?_)
     refine ht_joinS h (fun (s41 : Int) => [(0, .fl .shr 1 (List.map (Value.int .i64) w)), (1, .v (.int .i64 limit)), (7, .v (.int .i64 s24)), (6, .v (.int .i64 s41))]) ?_ ?_
     ·rintro s41 h
      refine pt_then ?_
      obtain ⟨v13, hv13, h⟩ := bind_some h
      refine zg hn [_,_,_,_,(20,vi s24),(21,vi v13),(7,vi v13)] [0,1,2,3] [0,1,3,6] [zq [2] 4 20,zq [4] 5 21,⟨[5],[2],[6],[(.slot 7)]⟩] [(_,_),(_,_),(_,_),(_,_)] rfl ⟨z1 rfl,zp rfl (oB rfl (ibind (f := Value.int .i64) (Option.some.inj hv13))),zp rfl (LOp.drop [_] (op_assign _ _ _ _ rfl rfl)),zz⟩ ?_
      exact pt_next _ (Option.some.inj h).symm rfl
     ·intro u42 h hl43 hr44
      refine ht_block ?_
      refine ht_seq ?_
      obtain ⟨v4, hv4, h⟩ := bind_some h
      obtain ⟨v5, hv5, h⟩ := bind_some h
      refine zg hn [_,_,_,_,_,(22,.fl .shr 1 (List.map (Value.int .i64) w)),(23,vi s24),(24,.eref (.slot 22) (v4 * 1)),(25,vi v5),(26,vb (decide (0 < v5)))] [0,1,2,3,4] [0,1,2,3,9] [zq [0] 5 22,zq [3] 6 23,zq [5,6] 7 24,zq [7,5] 8 25,zq [8] 9 26] [(_,_),(_,_),(_,_),(_,_),(_,_)] rfl ⟨z1 rfl,z1 rfl,zp rfl (op_ix _ _ _ _ _ _ _ _ underlying22 sz3 (by decide) rfl rfl rfl (ix_ok hv4).1 (map_lt (ix_ok hv4).2) rfl),zp rfl (op_load_e _ _ _ _ _ _ underlying3 rfl rfl rfl (map_get hv5)),z4 rfl rfl,zz⟩ ?_
      refine pt_then ?_
      refine ht_cond _ rfl (fun hb45 => ?_) (fun hb45 => ?_)
      ·have h := cond_t hb45 h
       obtain ⟨v7, hv7, h⟩ := bind_some h
       refine zg hn [_,_,_,_,_,(27,vi s23),(28,vi v7),(6,vi v7)] [0,1,2,3,4] [0,1,3,7] [zq [2] 5 27,zq [5] 6 28,⟨[6],[2],[7],[(.slot 6)]⟩] [(_,_),(_,_),(_,_),(_,_)] rfl ⟨z1 rfl,zp rfl (oB rfl (ibind (f := Value.int .i64) (Option.some.inj hv7))),zp rfl (LOp.drop [_] (op_assign _ _ _ _ rfl rfl)),zz⟩ ?_
       refine pt_inb ?_
       exact hl43 _ (Option.some.inj h).symm
      ·have h := cond_f hb45 h
       refine ht_skip ?_
       refine pt_inb ?_
       refine pt_pick [0, 1, 3, 2] (by kernel_rfl) (es' := [(_,_),(_,_),(_,_),(_,_)]) rfl ?_
       exact hl43 _ (Option.some.inj h).symm
    ·have h := cond_f hb39 h
     refine ht_exit ?_
     refine pt_x_then ?_
     refine pt_x_then ?_
     refine pt_x_in ?_
     refine pt_pick [0, 1, 2] (by kernel_rfl) (es' := [(_,_),(_,_),(_,_)]) rfl ?_
     exact hl34 _ (ho36 _ (Option.some.inj h).symm).symm
theorem ok_tree_Cost (weights : (List Int)) (lengths : (List Int)) (r : (Int × Int)) (h : Sh.tree_Cost weights lengths = some r) : FnOK Try.prog 14 [.fl .shr 1 (List.map (Value.int .i64) weights), .fl .shr 1 (List.map (Value.int .i64) lengths)] (.tup [.v (.int .i64 r.1), .v (.int .i64 r.2)]) := by
  unfold Sh.tree_Cost at h
  refine fn_ok func14 rfl (zl rfl) rfl rfl fun g0 hn hio => ?_
  refine zgg hn [_,_,(4,vi 0),(5,vi 0)] [0,1] [0,1] [zq [] 2 4,zq [] 3 5] [(_,_),(_,_)] rfl ⟨z2 rfl,z2 rfl,zz⟩ ?_
  refine ht_seq ?_
  refine zgg hn [_,_,(9,.fl .shr 1 (List.map (Value.int .i64) weights)),(10,vi (weights.length : Int)),(11,.fl .shr 1 (List.map (Value.int .i64) lengths)),(12,vi (lengths.length : Int)),(13,vb ((weights.length : Int) != (lengths.length : Int)))] [0,1] [0,1,6] [zq [0] 2 9,zq [2] 3 10,zq [1] 4 11,zq [4] 5 12,zq [3,5] 6 13] [(_,_),(_,_),(_,_)] rfl ⟨z1 rfl,zp rfl (op_len_fl _ _ _ underlying22 rfl (by decide) (map_len _)),z1 rfl,zp rfl (op_len_fl _ _ _ underlying22 rfl (by decide) (map_len _)),z4 rfl rfl,zz⟩ ?_
  refine ht_cond _ rfl (fun hb1 => ?_) (fun hb1 => ?_)
  ·have h := cond_t hb1 h
   refine zgg hn [_,_,_,(4,vi 0),(5,vi 2)] [0,1,2] [3,4] [zq [] 3 4,zq [] 4 5] [(_,_),(_,_)] rfl ⟨z2 rfl,z2 rfl,zz⟩ ?_
   refine ht_ret ?_
   refine pt_r_then ?_
   obtain rfl := Option.some.inj h
   exact pt_ret hio rfl (.tmp _ _ (.tmp _ _ .nil)) rfl rfl
  ·have h := cond_f hb1 h
   refine ht_skip ?_
   refine pt_then (ht_seq ?_)
   refine ht_seq ?_
   obtain ⟨v2, hv2, h⟩ := bind_some h
   refine zg hn [_,_,_,(14,.fl .shr 1 (List.map (Value.int .i64) weights)),(15,vb v2),(16,vb (!v2))] [0,1,2] [0,1,5] [zq [0] 3 14,zq [3] 4 15,zq [4] 5 16] [(_,_),(_,_),(_,_)] rfl ⟨z1 rfl,zp rfl (op_call _ _ 19 _ _ rfl call19 rfl (ok_tree_validWeights weights _ hv2) rfl rfl),zp rfl (op_un _ _ _ _ rfl rfl),zz⟩ ?_
   refine pt_then ?_
   refine ht_cond _ rfl (fun hb3 => ?_) (fun hb3 => ?_)
   ·have h := cond_t hb3 h
    refine zgg hn [_,_,_,(4,vi 0),(5,vi 1)] [0,1,2] [3,4] [zq [] 3 4,zq [] 4 5] [(_,_),(_,_)] rfl ⟨z2 rfl,z2 rfl,zz⟩ ?_
    refine ht_ret ?_
    refine pt_r_then ?_
    obtain rfl := Option.some.inj h
    exact pt_ret hio rfl (.tmp _ _ (.tmp _ _ .nil)) rfl rfl
   ·have h := cond_f hb3 h
    refine ht_skip ?_
    refine pt_then ?_
    refine zgg hn [_,_,_,(6,vi 0)] [0,1,2] [0,1,3] [zq [] 3 6] [(_,_),(_,_),(_,_)] rfl ⟨z2 rfl,zz⟩ ?_
    refine ht_seq ?_
    refine zgg hn [_,_,_,(17,.fl .shr 1 (List.map (Value.int .i64) lengths)),(18,vi (lengths.length : Int)),(19,vi 0)] [0,1,2] [0,2,3,4,5] [zq [1] 3 17,zq [3] 4 18,zq [] 5 19] [(_,_),(_,_),(_,_),(_,_),(_,_)] rfl ⟨z1 rfl,zp rfl (op_len_fl _ _ _ underlying22 rfl (by decide) (map_len _)),z1 rfl,zz⟩ ?_
    refine ht_loopS h (fun ((s25, s26) : Int × Int) => [(0, .fl .shr 1 (List.map (Value.int .i64) weights)), (6, .v (.int .i64 s25)), (17, .fl .shr 1 (List.map (Value.int .i64) lengths)), (18, .v (.int .i64 (lengths.length : Int))), (19, .v (.int .i64 s26))]) (fun (s33 : Int) => [(6, .v (.int .i64 s33))]) ?_ ?_
    ·rintro s33 h
     refine pt_then ?_
     refine zgg hn [_,(39,vi s33),(4,vi s33),(5,vi 0)] [0] [2,3] [zq [0] 1 39,zq [1] 2 4,zq [] 3 5] [(_,_),(_,_)] rfl ⟨z1 rfl,z2 rfl,z2 rfl,zz⟩ ?_
     refine ht_ret ?_
     obtain rfl := Option.some.inj h
     exact pt_ret hio rfl (.tmp _ _ (.tmp _ _ .nil)) rfl rfl
    ·rintro u34 hl35 hr36 ⟨s25, s26⟩ rr39 h ho37
     refine zgg hn [_,_,_,_,_,(20,vb (decide (s26 < (lengths.length : Int))))] [0,1,2,3,4] [0,1,2,3,4,5] [zq [4,3] 5 20] [(_,_),(_,_),(_,_),(_,_),(_,_),(_,_)] rfl ⟨z4 rfl rfl,zz⟩ ?_
     refine ht_seq ?_
     refine ht_cond _ rfl (fun hb40 => ?_) (fun hb40 => ?_)
     ·have h := cond_t hb40 h
      refine ht_skip ?_
      refine pt_then (ht_seq ?_)
      refine ht_block ?_
      refine ht_seq ?_
      obtain ⟨v5, hv5, h⟩ := bind_some h
      obtain ⟨v6, hv6, h⟩ := bind_some h
      refine zg hn [_,_,_,_,_,_,(21,vi s26),(22,.eref (.slot 17) (v5 * 1)),(23,vi v6),(7,vi s26),(8,vi v6)] [0,1,2,3,4,5] [0,1,2,3,4,9,10] [zq [4] 6 21,zq [2,4] 7 22,zq [7,2] 8 23,zq [6] 9 7,zq [8] 10 8] [(_,_),(_,_),(_,_),(_,_),(_,_),(_,_),(_,_)] rfl ⟨z1 rfl,zp rfl (op_ix _ _ _ _ _ _ _ _ underlying22 sz3 (by decide) rfl rfl rfl (ix_ok hv5).1 (map_lt (ix_ok hv5).2) rfl),zp rfl (op_load_e _ _ _ _ _ _ underlying3 rfl rfl rfl (map_get hv6)),z2 rfl,z2 rfl,zz⟩ ?_
      refine pt_then (ht_seq ?_)
      refine ht_seq ?_
      refine ht_joinS h (fun (s41 : Bool) => [(0, .fl .shr 1 (List.map (Value.int .i64) weights)), (6, .v (.int .i64 s25)), (17, .fl .shr 1 (List.map (Value.int .i64) lengths)), (18, .v (.int .i64 (lengths.length : Int))), (19, .v (.int .i64 s26)), (7, .v (.int .i64 s26)), (8, .v (.int .i64 v6)), (29, .v (.bool s41))]) ?_ ?_
      ·rintro s41 h
       refine pt_then ?_
       refine ht_cond _ rfl (fun hb45 => ?_) (fun hb45 => ?_)
       ·have h := cond_t hb45 h
        refine zgg hn [_,_,_,_,_,_,_,_,(4,vi 0),(5,vi 1)] [0,1,2,3,4,5,6,7] [8,9] [zq [] 8 4,zq [] 9 5] [(_,_),(_,_)] rfl ⟨z2 rfl,z2 rfl,zz⟩ ?_
        refine ht_ret ?_
        refine pt_r_then ?_
        refine pt_r_in ?_
        refine pt_r_then ?_
        refine pt_r_then ?_
        refine pt_r_in ?_
        refine pt_r_then ?_
        have h := hr36 _ (ho37 _ (Option.some.inj h).symm).symm
        obtain rfl := Option.some.inj h
        exact pt_ret hio rfl (.tmp _ _ (.tmp _ _ .nil)) rfl rfl
       ·have h := cond_f hb45 h
        refine ht_skip ?_
        refine pt_then ?_
        obtain ⟨v12, hv12, h⟩ := bind_some h
        obtain ⟨v13, hv13, h⟩ := bind_some h
        obtain ⟨v14, hv14, h⟩ := bind_some h
        obtain ⟨v15, hv15, h⟩ := bind_some h
        refine zg hn (_::_::_::_::_::_::_::_::(30,vi s25)::(31,.fl .shr 1 (List.map (Value.int .i64) weights))::(32,vi s26)::(33,.eref (.slot 31) (v12 * 1))::(34,vi v13)::(35,vi v6)::(36,vi v14)::(37,vi v15)::(6,vi v15)::[]) [0,1,2,3,4,5,6,7] [0,2,3,4,16] [zq [1] 8 30,zq [0] 9 31,zq [5] 10 32,zq [9,10] 11 33,zq [11,9] 12 34,zq [6] 13 35,zq [12,13] 14 36,zq [8,14] 15 37,⟨[15],[1],[16],[(.slot 6)]⟩] [(_,_),(_,_),(_,_),(_,_),(_,_)] rfl ⟨z1 rfl,z1 rfl,z1 rfl,zp rfl (op_ix _ _ _ _ _ _ _ _ underlying22 sz3 (by decide) rfl rfl rfl (ix_ok hv12).1 (map_lt (ix_ok hv12).2) rfl),zp rfl (op_load_e _ _ _ _ _ _ underlying3 rfl rfl rfl (map_get hv13)),z1 rfl,zp rfl (oB rfl (ibind (f := Value.int .i64) (Option.some.inj hv14))),zp rfl (oB rfl (ibind (f := Value.int .i64) (Option.some.inj hv15))),zp rfl (LOp.drop [_] (op_assign _ _ _ _ rfl rfl)),zz⟩ ?_
        refine pt_inb ?_
        refine pt_then ?_
        obtain ⟨v16, hv16, h⟩ := bind_some h
        refine zg hn [_,_,_,_,_,(38,vi v16),(19,vi v16)] [0,1,2,3,4] [0,1,2,4,6] [zq [3] 5 38,⟨[5],[3],[6],[(.slot 19)]⟩] [(_,_),(_,_),(_,_),(_,_),(_,_)] rfl ⟨zp rfl (oB rfl (ibind (f := Value.int .i64) (Option.some.inj hv16))),zp rfl (LOp.drop [_] (oM rfl)),zz⟩ ?_
        refine pt_pick [0, 3, 1, 2, 4] (by kernel_rfl) (es' := [(_,_),(_,_),(_,_),(_,_),(_,_)]) rfl ?_
        exact pt_next _ (Option.some.inj h).symm rfl
      ·intro u42 h hl43 hr44
       refine cond_some h (fun hg9_2 h => ?_) (fun hg9_2 h => ?_)
       ·refine zg hn [_,_,_,_,_,_,_,(24,vi v6),(25,vb (decide (v6 < 0))),(26,vb true),(27,.v undef),(28,.v undef),(29,vb true)] [0,1,2,3,4,5,6] [0,1,2,3,4,5,6,12] [zq [6] 7 24,zq [7] 8 25,zq [8] 9 26,zq [9] 10 27,zq [9] 11 28,zq [9] 12 29] [(_,_),(_,_),(_,_),(_,_),(_,_),(_,_),(_,_),(_,_)] rfl ⟨z1 rfl,z4 rfl rfl,z8 hg9_2 rfl,zf rfl,zf rfl,z3 true rfl,zz⟩ ?_
        exact hl43 _ (Option.some.inj h).symm
       ·refine zg hn [_,_,_,_,_,_,_,(24,vi v6),(25,vb (decide (v6 < 0))),(26,vb false),(27,vi v6),(28,vb (decide (15 < v6))),(29,vb (decide (15 < v6)))] [0,1,2,3,4,5,6] [0,1,2,3,4,5,6,12] [zq [6] 7 24,zq [7] 8 25,zq [8] 9 26,zq [9,6] 10 27,zq [9,10] 11 28,zq [9,11] 12 29] [(_,_),(_,_),(_,_),(_,_),(_,_),(_,_),(_,_),(_,_)] rfl ⟨z1 rfl,z4 rfl rfl,z8 hg9_2 rfl,zr' rfl (oM rfl),zr' rfl (oB rfl rfl),z3 false rfl,zz⟩ ?_
        exact hl43 _ (Option.some.inj h).symm
     ·have h := cond_f hb40 h
      refine ht_exit ?_
      refine pt_x_then ?_
      refine pt_x_then ?_
      refine pt_x_in ?_
      refine pt_pick [1] (by kernel_rfl) (es' := [(_,_)]) rfl ?_
      exact hl35 _ (ho37 _ (Option.some.inj h).symm).symm
theorem ok_wherryref01_RightLengths (l : (List Int)) (r : Bool) (h : Sh.wherryref01_RightLengths l = some r) : FnOK Try.prog 28 [.fl .shr 1 (List.map (Value.int .i64) l)] (.v (.bool r)) := by
  unfold Sh.wherryref01_RightLengths at h
  refine fn_ok func28 rfl (zl rfl) rfl rfl fun g0 hn hio => ?_
  refine zgg hn [_,(2,vb false)] [0] [0] [zq [] 1 2] [(_,_)] rfl ⟨z2 rfl,zz⟩ ?_
  refine ht_seq ?_
  refine zgg hn [_,(4,.fl .shr 1 (List.map (Value.int .i64) l)),(5,vi (l.length : Int)),(6,vb (decide (300 < (l.length : Int))))] [0] [0,3] [zq [0] 1 4,zq [1] 2 5,zq [2] 3 6] [(_,_),(_,_)] rfl ⟨z1 rfl,zp rfl (op_len_fl _ _ _ underlying22 rfl (by decide) (map_len _)),z4 rfl rfl,zz⟩ ?_
  refine ht_cond _ rfl (fun hb1 => ?_) (fun hb1 => ?_)
  ·have h := cond_t hb1 h
   refine zgg hn [_,_,(2,vb false)] [0,1] [2] [zq [] 2 2] [(_,_)] rfl ⟨z2 rfl,zz⟩ ?_
   refine ht_ret ?_
   refine pt_r_then ?_
   obtain rfl := Option.some.inj h
   exact pt_ret hio rfl (.tmp _ _ .nil) rfl rfl
  ·have h := cond_f hb1 h
   refine ht_skip ?_
   refine pt_then (ht_seq ?_)
   refine zgg hn [_,_,(3,vi 0)] [0,1] [0,2] [zq [] 2 3] [(_,_),(_,_)] rfl ⟨z2 rfl,zz⟩ ?_
   refine ht_loopS h (fun (s11 : Int) => [(0, .fl .shr 1 (List.map (Value.int .i64) l)), (3, .v (.int .i64 s11))]) (fun (() : Unit) => []) ?_ ?_
   ·rintro ⟨⟩ h
    refine pt_then ?_
    refine zgg hn [(2,vb true)] [] [0] [zq [] 0 2] [(_,_)] rfl ⟨z2 rfl,zz⟩ ?_
    refine ht_ret ?_
    obtain rfl := Option.some.inj h
    exact pt_ret hio rfl (.tmp _ _ .nil) rfl rfl
   ·rintro u14 hl15 hr16 s11 rr19 h ho17
    refine ht_seq ?_
    refine zgg hn [_,_,(7,vi s11),(8,.fl .shr 1 (List.map (Value.int .i64) l)),(9,vi (l.length : Int)),(10,vb (decide (s11 < (l.length : Int))))] [0,1] [0,1,5] [zq [1] 2 7,zq [0] 3 8,zq [3] 4 9,zq [2,4] 5 10] [(_,_),(_,_),(_,_)] rfl ⟨z1 rfl,z1 rfl,zp rfl (op_len_fl _ _ _ underlying22 rfl (by decide) (map_len _)),z4 rfl rfl,zz⟩ ?_
    refine ht_cond _ rfl (fun hb20 => ?_) (fun hb20 => ?_)
    ·have h := cond_t hb20 h
     refine ht_skip ?_
     refine pt_then (ht_seq ?_)
     refine ht_block ?_
     refine ht_seq ?_
     obtain ⟨v3, hv3, h⟩ := bind_some h
     obtain ⟨v4, hv4, h⟩ := bind_some h
     obtain ⟨v5, hv5, h⟩ := bind_some h
     refine zg hn [_,_,_,(13,.fl .shr 1 (List.map (Value.int .i64) l)),(14,vi s11),(15,.eref (.slot 13) (v3 * 1)),(16,vi v4),(17,vb v5),(18,vb (!v5))] [0,1,2] [0,1,8] [zq [0] 3 13,zq [1] 4 14,zq [3,4] 5 15,zq [5,3] 6 16,zq [6] 7 17,zq [7] 8 18] [(_,_),(_,_),(_,_)] rfl ⟨z1 rfl,z1 rfl,zp rfl (op_ix _ _ _ _ _ _ _ _ underlying22 sz3 (by decide) rfl rfl rfl (ix_ok hv3).1 (map_lt (ix_ok hv3).2) rfl),zp rfl (op_load_e _ _ _ _ _ _ underlying3 rfl rfl rfl (map_get hv4)),zp rfl (op_call _ _ 26 _ _ rfl call26 rfl (ok_wherryref01_in v4 0 15 _ hv5) rfl rfl),zp rfl (op_un _ _ _ _ rfl rfl),zz⟩ ?_
     refine pt_then ?_
     refine ht_cond _ rfl (fun hb21 => ?_) (fun hb21 => ?_)
     ·have h := cond_t hb21 h
      refine zgg hn [_,_,_,(2,vb false)] [0,1,2] [3] [zq [] 3 2] [(_,_)] rfl ⟨z2 rfl,zz⟩ ?_
      refine ht_ret ?_
      refine pt_r_in ?_
      refine pt_r_then ?_
      refine pt_r_then ?_
      refine pt_r_in ?_
      refine pt_r_then ?_
      have h := hr16 _ (ho17 _ (Option.some.inj h).symm).symm
      obtain rfl := Option.some.inj h
      exact pt_ret hio rfl (.tmp _ _ .nil) rfl rfl
     ·have h := cond_f hb21 h
      refine ht_skip ?_
      refine pt_inb ?_
      refine pt_then ?_
      obtain ⟨v7, hv7, h⟩ := bind_some h
      refine zg hn [_,_,_,(11,vi s11),(12,vi v7),(3,vi v7)] [0,1,2] [0,5] [zq [1] 3 11,zq [3] 4 12,⟨[4],[1],[5],[(.slot 3)]⟩] [(_,_),(_,_)] rfl ⟨z1 rfl,zp rfl (oB rfl (ibind (f := Value.int .i64) (Option.some.inj hv7))),zp rfl (LOp.drop [_] (op_assign _ _ _ _ rfl rfl)),zz⟩ ?_
      exact pt_next _ (Option.some.inj h).symm rfl
    ·have h := cond_f hb20 h
     refine ht_exit ?_
     refine pt_x_then ?_
     refine pt_x_then ?_
     refine pt_x_in ?_
     refine pt_pick [] (by kernel_rfl) (es' := []) rfl ?_
     exact hl15 _ (ho17 _ (Option.some.inj h).symm).symm
theorem ok_wherryref01_Cost (w : (List Int)) (l : (List Int)) (r : (Int × Int)) (h : Sh.wherryref01_Cost w l = some r) : FnOK Try.prog 15 [.fl .shr 1 (List.map (Value.int .i64) w), .fl .shr 1 (List.map (Value.int .i64) l)] (.tup [.v (.int .i64 r.1), .v (.int .i64 r.2)]) := by
  unfold Sh.wherryref01_Cost at h
  refine fn_ok func15 rfl (zl rfl) rfl rfl fun g0 hn hio => ?_
  refine zgg hn [_,_,(4,vi 0),(5,vi 0)] [0,1] [0,1] [zq [] 2 4,zq [] 3 5] [(_,_),(_,_)] rfl ⟨z2 rfl,z2 rfl,zz⟩ ?_
  refine ht_seq ?_
  refine zgg hn [_,_,(8,.fl .shr 1 (List.map (Value.int .i64) w)),(9,vi (w.length : Int)),(10,.fl .shr 1 (List.map (Value.int .i64) l)),(11,vi (l.length : Int)),(12,vb ((w.length : Int) != (l.length : Int)))] [0,1] [0,1,6] [zq [0] 2 8,zq [2] 3 9,zq [1] 4 10,zq [4] 5 11,zq [3,5] 6 12] [(_,_),(_,_),(_,_)] rfl ⟨z1 rfl,zp rfl (op_len_fl _ _ _ underlying22 rfl (by decide) (map_len _)),z1 rfl,zp rfl (op_len_fl _ _ _ underlying22 rfl (by decide) (map_len _)),z4 rfl rfl,zz⟩ ?_
  refine ht_cond _ rfl (fun hb1 => ?_) (fun hb1 => ?_)
  ·have h := cond_t hb1 h
   refine zgg hn [_,_,_,(4,vi 0),(5,vi 2)] [0,1,2] [3,4] [zq [] 3 4,zq [] 4 5] [(_,_),(_,_)] rfl ⟨z2 rfl,z2 rfl,zz⟩ ?_
   refine ht_ret ?_
   refine pt_r_then ?_
   obtain rfl := Option.some.inj h
   exact pt_ret hio rfl (.tmp _ _ (.tmp _ _ .nil)) rfl rfl
  ·have h := cond_f hb1 h
   refine ht_skip ?_
   refine pt_then (ht_seq ?_)
   refine ht_seq ?_
   refine ht_joinS h (fun (s4 : Bool) => [(0, .fl .shr 1 (List.map (Value.int .i64) w)), (1, .fl .shr 1 (List.map (Value.int .i64) l)), (20, .v (.bool s4))]) ?_ ?_
   ·rintro s4 h
    refine pt_then ?_
    refine ht_cond _ rfl (fun hb8 => ?_) (fun hb8 => ?_)
    ·have h := cond_t hb8 h
     refine zgg hn [_,_,_,(4,vi 0),(5,vi 1)] [0,1,2] [3,4] [zq [] 3 4,zq [] 4 5] [(_,_),(_,_)] rfl ⟨z2 rfl,z2 rfl,zz⟩ ?_
     refine ht_ret ?_
     refine pt_r_then ?_
     obtain rfl := Option.some.inj h
     exact pt_ret hio rfl (.tmp _ _ (.tmp _ _ .nil)) rfl rfl
    ·have h := cond_f hb8 h
     refine ht_skip ?_
     refine pt_then ?_
     refine zgg hn [_,_,_,(6,vi 0)] [0,1,2] [0,1,3] [zq [] 3 6] [(_,_),(_,_),(_,_)] rfl ⟨z2 rfl,zz⟩ ?_
     refine ht_seq ?_
     refine zgg hn [_,_,_,(7,vi 0)] [0,1,2] [0,1,2,3] [zq [] 3 7] [(_,_),(_,_),(_,_),(_,_)] rfl ⟨z2 rfl,zz⟩ ?_
     refine ht_loopS h (fun ((s20, s21) : Int × Int) => [(0, .fl .shr 1 (List.map (Value.int .i64) w)), (1, .fl .shr 1 (List.map (Value.int .i64) l)), (6, .v (.int .i64 s20)), (7, .v (.int .i64 s21))]) (fun (s23 : Int) => [(6, .v (.int .i64 s23))]) ?_ ?_
     ·rintro s23 h
      refine pt_then ?_
      refine zgg hn [_,(38,vi s23),(4,vi s23),(5,vi 0)] [0] [2,3] [zq [0] 1 38,zq [1] 2 4,zq [] 3 5] [(_,_),(_,_)] rfl ⟨z1 rfl,z2 rfl,z2 rfl,zz⟩ ?_
      refine ht_ret ?_
      obtain rfl := Option.some.inj h
      exact pt_ret hio rfl (.tmp _ _ (.tmp _ _ .nil)) rfl rfl
     ·rintro u24 hl25 hr26 ⟨s20, s21⟩ rr29 h ho27
      refine ht_seq ?_
      refine zgg hn [_,_,_,_,(21,vi s21),(22,.fl .shr 1 (List.map (Value.int .i64) w)),(23,vi (w.length : Int)),(24,vb (decide (s21 < (w.length : Int))))] [0,1,2,3] [0,1,2,3,7] [zq [3] 4 21,zq [0] 5 22,zq [5] 6 23,zq [4,6] 7 24] [(_,_),(_,_),(_,_),(_,_),(_,_)] rfl ⟨z1 rfl,z1 rfl,zp rfl (op_len_fl _ _ _ underlying22 rfl (by decide) (map_len _)),z4 rfl rfl,zz⟩ ?_
      refine ht_cond _ rfl (fun hb30 => ?_) (fun hb30 => ?_)
      ·have h := cond_t hb30 h
       refine ht_skip ?_
       refine pt_then (ht_seq ?_)
       refine ht_block ?_
       obtain ⟨v10, hv10, h⟩ := bind_some h
       obtain ⟨v11, hv11, h⟩ := bind_some h
       obtain ⟨v12, hv12, h⟩ := bind_some h
       obtain ⟨v13, hv13, h⟩ := bind_some h
       obtain ⟨v14, hv14, h⟩ := bind_some h
       obtain ⟨v15, hv15, h⟩ := bind_some h
       refine ht_anyR (by kernel_rfl) hn (El := (_ :: _ :: _ :: _ :: _ :: (27, .v (.int .i64 s20)) :: (28, .fl .shr 1 (List.map (Value.int .i64) w)) :: (29, .v (.int .i64 s21)) :: (30, .eref (.slot 28) (v10 * 1)) :: (31, .v (.int .i64 v11)) :: (32, .fl .shr 1 (List.map (Value.int .i64) l)) :: (33, .v (.int .i64 s21)) :: (34, .eref (.slot 32) (v12 * 1)) :: (35, .v (.int .i64 v13)) :: (36, .v (.int .i64 v14)) :: (37, .v (.int .i64 v15)) :: (6, .v (.int .i64 v15)) :: [])) (init := [0, 1, 2, 3, 4]) (fin := [0, 1, 3, 16]) (sps := [zq [2] 5 27, zq [0] 6 28, zq [3] 7 29, zq [6,7] 8 30, zq [8,6] 9 31, zq [1] 10 32, zq [3] 11 33, zq [10,11] 12 34, zq [12,10] 13 35, zq [9,13] 14 36, zq [5,14] 15 37, ⟨[15], [2], [16], [(.slot 6)]⟩]) (es' := [(_,_),(_,_),(_,_),(6, .v (.int .i64 v15))]) (by kernel_rfl) rfl rfl ⟨z1 rfl,z1 rfl,z1 rfl,zp rfl (op_ix _ _ _ _ _ _ _ _ underlying22 sz3 (by decide) rfl rfl rfl (ix_ok hv10).1 (map_lt (ix_ok hv10).2) rfl),zp rfl (op_load_e _ _ _ _ _ _ underlying3 rfl rfl rfl (map_get hv11)),z1 rfl,z1 rfl,zp rfl (op_ix _ _ _ _ _ _ _ _ underlying22 sz3 (by decide) rfl rfl rfl (ix_ok hv12).1 (map_lt (ix_ok hv12).2) rfl),zp rfl (op_load_e _ _ _ _ _ _ underlying3 rfl rfl rfl (map_get hv13)),zp rfl (oB rfl (ibind (f := Value.int .i64) (Option.some.inj hv14))),zp rfl (oB rfl (ibind (f := Value.int .i64) (Option.some.inj hv15))),zp rfl (LOp.drop [_] (op_assign _ _ _ _ rfl rfl)),zz⟩ ?_
       refine pt_inb ?_
       refine pt_then ?_
       obtain ⟨v16, hv16, h⟩ := bind_some h
       refine zg hn [_,_,_,_,(25,vi s21),(26,vi v16),(7,vi v16)] [0,1,2,3] [0,1,3,6] [zq [2] 4 25,zq [4] 5 26,⟨[5],[2],[6],[(.slot 7)]⟩] [(_,_),(_,_),(_,_),(_,_)] rfl ⟨z1 rfl,zp rfl (oB rfl (ibind (f := Value.int .i64) (Option.some.inj hv16))),zp rfl (LOp.drop [_] (op_assign _ _ _ _ rfl rfl)),zz⟩ ?_
       exact pt_next _ (Option.some.inj h).symm rfl
      ·have h := cond_f hb30 h
       refine ht_exit ?_
       refine pt_x_then ?_
       refine pt_x_then ?_
       refine pt_x_in ?_
       refine pt_pick [2] (by kernel_rfl) (es' := [(_,_)]) rfl ?_
       exact hl25 _ (ho27 _ (Option.some.inj h).symm).symm
   ·intro u5 h hl6 hr7
    obtain ⟨v2, hv2, h⟩ := bind_some h
    refine cond_some h (fun hg3_3 h => ?_) (fun hg3_3 h => ?_)
    ·refine zg hn [_,_,_,(13,.fl .shr 1 (List.map (Value.int .i64) w)),(14,vb v2),(15,vb (!v2)),(16,vb true),(17,.v undef),(18,.v undef),(19,.v undef),(20,vb true)] [0,1,2] [0,1,10] [zq [0] 3 13,zq [3] 4 14,zq [4] 5 15,zq [5] 6 16,zq [6] 7 17,zq [6] 8 18,zq [6] 9 19,zq [6] 10 20] [(_,_),(_,_),(_,_)] rfl ⟨z1 rfl,zp rfl (op_call _ _ 25 _ _ rfl call25 rfl (ok_wherryref01_rightWeights w _ hv2) rfl rfl),zp rfl (op_un _ _ _ _ rfl rfl),z8 hg3_3 rfl,zf rfl,zf rfl,zf rfl,z3 true rfl,zz⟩ ?_
     exact hl6 _ (Option.some.inj h).symm
    ·obtain ⟨v3, hv3, h⟩ := bind_some h
     refine zg hn [_,_,_,(13,.fl .shr 1 (List.map (Value.int .i64) w)),(14,vb v2),(15,vb (!v2)),(16,vb false),(17,.fl .shr 1 (List.map (Value.int .i64) l)),(18,vb v3),(19,vb (!v3)),(20,vb (!v3))] [0,1,2] [0,1,10] [zq [0] 3 13,zq [3] 4 14,zq [4] 5 15,zq [5] 6 16,zq [6,1] 7 17,zq [6,7] 8 18,zq [6,8] 9 19,zq [6,9] 10 20] [(_,_),(_,_),(_,_)] rfl ⟨z1 rfl,zp rfl (op_call _ _ 25 _ _ rfl call25 rfl (ok_wherryref01_rightWeights w _ hv2) rfl rfl),zp rfl (op_un _ _ _ _ rfl rfl),z8 hg3_3 rfl,zr' rfl (oM rfl),zr' rfl (op_call _ _ 28 _ _ rfl call28 rfl (ok_wherryref01_RightLengths l _ hv3) rfl rfl),zr' rfl (op_un _ _ _ _ rfl rfl),z3 false rfl,zz⟩ ?_
     exact hl6 _ (Option.some.inj h).symm
theorem ok_wherrykeep_Ints (a : (List Int)) (b : (List Int)) (r : Bool) (h : Sh.wherrykeep_Ints a b = some r) : FnOK Try.prog 16 [.fl .shr 1 (List.map (Value.int .i64) a), .fl .shr 1 (List.map (Value.int .i64) b)] (.v (.bool r)) := by
  unfold Sh.wherrykeep_Ints at h
  refine fn_ok func16 rfl (zl rfl) rfl rfl fun g0 hn hio => ?_
  refine zgg hn [_,_,(4,vb false)] [0,1] [0,1] [zq [] 2 4] [(_,_),(_,_)] rfl ⟨z2 rfl,zz⟩ ?_
  refine ht_seq ?_
  refine zgg hn [_,_,(6,.fl .shr 1 (List.map (Value.int .i64) a)),(7,vi (a.length : Int)),(8,.fl .shr 1 (List.map (Value.int .i64) b)),(9,vi (b.length : Int)),(10,vb ((a.length : Int) != (b.length : Int)))] [0,1] [0,1,6] [zq [0] 2 6,zq [2] 3 7,zq [1] 4 8,zq [4] 5 9,zq [3,5] 6 10] [(_,_),(_,_),(_,_)] rfl ⟨z1 rfl,zp rfl (op_len_fl _ _ _ underlying22 rfl (by decide) (map_len _)),z1 rfl,zp rfl (op_len_fl _ _ _ underlying22 rfl (by decide) (map_len _)),z4 rfl rfl,zz⟩ ?_
  refine ht_cond _ rfl (fun hb1 => ?_) (fun hb1 => ?_)
  ·have h := cond_t hb1 h
   refine zgg hn [_,_,_,(4,vb false)] [0,1,2] [3] [zq [] 3 4] [(_,_)] rfl ⟨z2 rfl,zz⟩ ?_
   refine ht_ret ?_
   refine pt_r_then ?_
   obtain rfl := Option.some.inj h
   exact pt_ret hio rfl (.tmp _ _ .nil) rfl rfl
  ·have h := cond_f hb1 h
   refine ht_skip ?_
   refine pt_then (ht_seq ?_)
   refine zgg hn [_,_,_,(5,vi 0)] [0,1,2] [0,1,3] [zq [] 3 5] [(_,_),(_,_),(_,_)] rfl ⟨z2 rfl,zz⟩ ?_
   refine ht_loopS h (fun (s12 : Int) => [(0, .fl .shr 1 (List.map (Value.int .i64) a)), (1, .fl .shr 1 (List.map (Value.int .i64) b)), (5, .v (.int .i64 s12))]) (fun (() : Unit) => []) ?_ ?_
   ·rintro ⟨⟩ h
    refine pt_then ?_
    refine zgg hn [(4,vb true)] [] [0] [zq [] 0 4] [(_,_)] rfl ⟨z2 rfl,zz⟩ ?_
    refine ht_ret ?_
    obtain rfl := Option.some.inj h
    exact pt_ret hio rfl (.tmp _ _ .nil) rfl rfl
   ·rintro u15 hl16 hr17 s12 rr20 h ho18
    refine ht_seq ?_
    refine zgg hn [_,_,_,(11,vi s12),(12,.fl .shr 1 (List.map (Value.int .i64) a)),(13,vi (a.length : Int)),(14,vb (decide (s12 < (a.length : Int))))] [0,1,2] [0,1,2,6] [zq [2] 3 11,zq [0] 4 12,zq [4] 5 13,zq [3,5] 6 14] [(_,_),(_,_),(_,_),(_,_)] rfl ⟨z1 rfl,z1 rfl,zp rfl (op_len_fl _ _ _ underlying22 rfl (by decide) (map_len _)),z4 rfl rfl,zz⟩ ?_
    refine ht_cond _ rfl (fun hb21 => ?_) (fun hb21 => ?_)
    ·have h := cond_t hb21 h
     refine ht_skip ?_
     refine pt_then (ht_seq ?_)
     refine ht_block ?_
     refine ht_seq ?_
     obtain ⟨v3, hv3, h⟩ := bind_some h
     obtain ⟨v4, hv4, h⟩ := bind_some h
     obtain ⟨v5, hv5, h⟩ := bind_some h
     obtain ⟨v6, hv6, h⟩ := bind_some h
     refine ht_anyR (by kernel_rfl) hn (El := [_, _, _, _, (17, .fl .shr 1 (List.map (Value.int .i64) a)), (18, .v (.int .i64 s12)), (19, .eref (.slot 17) (v3 * 1)), (20, .v (.int .i64 v4)), (21, .fl .shr 1 (List.map (Value.int .i64) b)), (22, .v (.int .i64 s12)), (23, .eref (.slot 21) (v5 * 1)), (24, .v (.int .i64 v6)), (25, .v (.bool (v4 != v6)))]) (init := [0, 1, 2, 3]) (fin := [0, 1, 2, 12]) (sps := [zq [0] 4 17, zq [2] 5 18, zq [4,5] 6 19, zq [6,4] 7 20, zq [1] 8 21, zq [2] 9 22, zq [8,9] 10 23, zq [10,8] 11 24, zq [7,11] 12 25]) (es' := [(_,_),(_,_),(_,_),(25, .v (.bool (v4 != v6)))]) (by kernel_rfl) rfl rfl ⟨z1 rfl,z1 rfl,zp rfl (op_ix _ _ _ _ _ _ _ _ underlying22 sz3 (by decide) rfl rfl rfl (ix_ok hv3).1 (map_lt (ix_ok hv3).2) rfl),zp rfl (op_load_e _ _ _ _ _ _ underlying3 rfl rfl rfl (map_get hv4)),z1 rfl,z1 rfl,zp rfl (op_ix _ _ _ _ _ _ _ _ underlying22 sz3 (by decide) rfl rfl rfl (ix_ok hv5).1 (map_lt (ix_ok hv5).2) rfl),zp rfl (op_load_e _ _ _ _ _ _ underlying3 rfl rfl rfl (map_get hv6)),z4 rfl rfl,zz⟩ ?_
     refine pt_then ?_
     refine ht_cond _ rfl (fun hb22 => ?_) (fun hb22 => ?_)
     ·have h := cond_t hb22 h
      refine zgg hn [_,_,_,_,(4,vb false)] [0,1,2,3] [4] [zq [] 4 4] [(_,_)] rfl ⟨z2 rfl,zz⟩ ?_
      refine ht_ret ?_
      refine pt_r_in ?_
      refine pt_r_then ?_
      refine pt_r_then ?_
      refine pt_r_in ?_
      refine pt_r_then ?_
      have h := hr17 _ (ho18 _ (Option.some.inj h).symm).symm
      obtain rfl := Option.some.inj h
      exact pt_ret hio rfl (.tmp _ _ .nil) rfl rfl
     ·have h := cond_f hb22 h
      refine ht_skip ?_
      refine pt_inb ?_
      refine pt_then ?_
      obtain ⟨v8, hv8, h⟩ := bind_some h
      refine zg hn [_,_,_,_,(15,vi s12),(16,vi v8),(5,vi v8)] [0,1,2,3] [0,1,6] [zq [2] 4 15,zq [4] 5 16,⟨[5],[2],[6],[(.slot 5)]⟩] [(_,_),(_,_),(_,_)] rfl ⟨z1 rfl,zp rfl (oB rfl (ibind (f := Value.int .i64) (Option.some.inj hv8))),zp rfl (LOp.drop [_] (op_assign _ _ _ _ rfl rfl)),zz⟩ ?_
      exact pt_next _ (Option.some.inj h).symm rfl
    ·have h := cond_f hb21 h
     refine ht_exit ?_
     refine pt_x_then ?_
     refine pt_x_then ?_
     refine pt_x_in ?_
     refine pt_pick [] (by kernel_rfl) (es' := []) rfl ?_
     exact hl16 _ (ho18 _ (Option.some.inj h).symm).symm
theorem ok_wherrylaw03_wakes (r : Bool) (h : Sh.wherrylaw03_wakes  = some r) : FnOK Try.prog 17 [] (.v (.bool r)) := by
  unfold Sh.wherrylaw03_wakes at h
  refine fn_ok func17 rfl (zl rfl) rfl rfl fun g0 hn hio => ?_
  refine zgg hn [(0,vb false)] [] [] [zq [] 0 0] [] rfl ⟨z2 rfl,zz⟩ ?_
  refine ht_seq ?_
  obtain ⟨v1, hv1, h⟩ := bind_some h
  refine zg hn [(6,.fl (.own 3) 1 (List.map (Value.int .i64) [5,1,1,2])),(7,.tup [.fl (.own 3) 1 (List.map (Value.int .i64) v1.1),vi v1.2]),(5,.tup [.fl (.own 3) 1 (List.map (Value.int .i64) v1.1),vi v1.2]),(8,.fl (.own 3) 1 (List.map (Value.int .i64) v1.1)),(5,.tup [.any,vi v1.2]),(9,vi v1.2),(1,.fl (.own 3) 1 (List.map (Value.int .i64) v1.1)),(2,vi v1.2)] [] [6,7] [zq [] 0 6,zq [0] 1 7,⟨[],[1],[2],[(.slot 5)]⟩,⟨[],[2],[4,3],[(.slot 8)]⟩,zq [4] 5 9,⟨[],[3],[6],[(.slot 1)]⟩,zq [5] 7 2] [(_,_),(_,_)] rfl ⟨zp rfl (op_buildSlice _ _ 1 (.int .i64 0) (List.map (Value.int .i64) [5, 1, 1, 2]) [(0, .int .i64 5), (1, .int .i64 1), (2, .int .i64 1), (3, .int .i64 2)] underlying22 sz3 zr3 (fun _ V w o a hv hes => by simp only [List.map_toArray, List.map_cons, List.map_nil]; try rfl) (litfill (by simp [Instr.fill, Value.cells]; rfl) (by simp [List.range, List.range.loop] <;> rfl)) (by simp [Value.oneCell']) rfl (by decide) (by decide) (by decide)),zp rfl (op_call _ _ 12 _ _ rfl call12 rfl (ok_tree_Lengths [5, 1, 1, 2] 15 _ hv1) rfl rfl),zp rfl (op_move_take _ _ _ _ rfl),zp rfl (op_extract_take _ _ _ _ _ rfl (zl rfl) rfl rfl (by decide) rfl),zp rfl (oE rfl),zp rfl (op_assign_take _ _ _ _ rfl),z2 rfl,zz⟩ ?_
  refine pt_then (ht_seq ?_)
  obtain ⟨v2, hv2, h⟩ := bind_some h
  refine zg hn [_,_,(11,.fl (.own 3) 1 (List.map (Value.int .i64) [5,1,1,2])),(12,.same (.slot 1)),(13,.tup [vi v2.1,vi v2.2]),(10,.tup [vi v2.1,vi v2.2]),(14,vi v2.1),(15,vi v2.2),(3,vi v2.1),(4,vi v2.2)] [0,1] [0,1,8,9] [zq [] 2 11,zq [0] 3 12,zq [2,3,0] 4 13,⟨[],[4],[5],[(.slot 10)]⟩,zq [5] 6 14,zq [5] 7 15,zq [6] 8 3,zq [7] 9 4] [(_,_),(_,_),(_,_),(_,_)] rfl ⟨zp rfl (op_buildSlice _ _ 1 (.int .i64 0) (List.map (Value.int .i64) [5, 1, 1, 2]) [(0, .int .i64 5), (1, .int .i64 1), (2, .int .i64 1), (3, .int .i64 2)] underlying22 sz3 zr3 (fun _ V w o a hv hes => by simp only [List.map_toArray, List.map_cons, List.map_nil]; try rfl) (litfill (by simp [Instr.fill, Value.cells]; rfl) (by simp [List.range, List.range.loop] <;> rfl)) (by simp [Value.oneCell']) rfl (by decide) (by decide) (by decide)),z1 rfl,zp rfl (op_call _ _ 14 _ _ rfl call14 rfl (ok_tree_Cost [5, 1, 1, 2] v1.1 _ hv2) rfl rfl),zp rfl (op_move_take _ _ _ _ rfl),zp rfl (oE rfl),zp rfl (oE rfl),z2 rfl,z2 rfl,zz⟩ ?_
  refine pt_then (ht_seq ?_)
  refine ht_joinS h (fun (s4 : Bool) => [(0, .v (.bool s4))]) ?_ ?_
  ·rintro s4 h
   refine pt_then (ht_ret ?_)
   obtain rfl := Option.some.inj h
   exact pt_ret hio rfl (.tmp _ _ .nil) rfl rfl
  ·intro u5 h hl6 hr7
   refine cond_some h (fun hg3_2 h => ?_) (fun hg3_2 h => ?_)
   ·refine cond_some h (fun hg3_6 h => ?_) (fun hg3_6 h => ?_)
    ·obtain ⟨v3, hv3, h⟩ := bind_some h
     refine cond_some h (fun hg3_11 h => ?_) (fun hg3_11 h => ?_)
     ·refine zg hn (_::_::_::_::(16,vi v1.2)::(17,vb (v1.2 == 0))::(18,vb true)::(19,vi v2.2)::(20,vb (v2.2 == 0))::(21,vb (v2.2 == 0))::(22,vb true)::(23,.fl (.own 3) 1 (List.map (Value.int .i64) v1.1))::(24,.fl (.own 3) 1 (List.map (Value.int .i64) [1,3,3,2]))::(25,vb v3)::(26,vb v3)::(27,vb true)::(28,vi v2.1)::(29,vb (v2.1 == 15))::(30,vb (v2.1 == 15))::(0,vb (v2.1 == 15))::[]) [0,1,2,3] [19] (zq [1] 4 16::zq [4] 5 17::zq [5] 6 18::zq [6,3] 7 19::zq [6,7] 8 20::zq [6,8] 9 21::zq [9] 10 22::⟨[10],[0],[11],[(.slot 23)]⟩::zq [10] 12 24::zq [10,11,12] 13 25::zq [10,13] 14 26::zq [14] 15 27::zq [15,2] 16 28::zq [15,16] 17 29::zq [15,17] 18 30::zq [18] 19 0::[]) [(_,_)] rfl ⟨z1 rfl,z4 rfl rfl,z8 hg3_2 rfl,zr' rfl (oM rfl),zr' rfl (oB rfl rfl),z3 true rfl,z8 hg3_6 rfl,zr' rfl (op_move_take _ _ _ _ rfl),zr' rfl (op_buildSlice _ _ 1 (.int .i64 0) (List.map (Value.int .i64) [1, 3, 3, 2]) [(0, .int .i64 1), (1, .int .i64 3), (2, .int .i64 3), (3, .int .i64 2)] underlying22 sz3 zr3 (fun _ V w o a hv hes => by simp only [List.map_toArray, List.map_cons, List.map_nil]; try rfl) (litfill (by simp [Instr.fill, Value.cells]; rfl) (by simp [List.range, List.range.loop] <;> rfl)) (by simp [Value.oneCell']) rfl (by decide) (by decide) (by decide)),zr' rfl (op_call _ _ 16 _ _ rfl call16 rfl (ok_wherrykeep_Ints v1.1 [1, 3, 3, 2] _ hv3) rfl rfl),z3 true rfl,z8 hg3_11 rfl,zr' rfl (oM rfl),zr' rfl (oB rfl rfl),z3 true rfl,z2 rfl,zz⟩ ?_
      exact hl6 _ (Option.some.inj h).symm
     ·refine zg hn (_::_::_::_::(16,vi v1.2)::(17,vb (v1.2 == 0))::(18,vb true)::(19,vi v2.2)::(20,vb (v2.2 == 0))::(21,vb (v2.2 == 0))::(22,vb true)::(23,.fl (.own 3) 1 (List.map (Value.int .i64) v1.1))::(24,.fl (.own 3) 1 (List.map (Value.int .i64) [1,3,3,2]))::(25,vb v3)::(26,vb v3)::(27,vb false)::(28,.v undef)::(29,.v undef)::(30,vb false)::(0,vb false)::[]) [0,1,2,3] [19] (zq [1] 4 16::zq [4] 5 17::zq [5] 6 18::zq [6,3] 7 19::zq [6,7] 8 20::zq [6,8] 9 21::zq [9] 10 22::⟨[10],[0],[11],[(.slot 23)]⟩::zq [10] 12 24::zq [10,11,12] 13 25::zq [10,13] 14 26::zq [14] 15 27::zq [15] 16 28::zq [15] 17 29::zq [15] 18 30::zq [18] 19 0::[]) [(_,_)] rfl ⟨z1 rfl,z4 rfl rfl,z8 hg3_2 rfl,zr' rfl (oM rfl),zr' rfl (oB rfl rfl),z3 true rfl,z8 hg3_6 rfl,zr' rfl (op_move_take _ _ _ _ rfl),zr' rfl (op_buildSlice _ _ 1 (.int .i64 0) (List.map (Value.int .i64) [1, 3, 3, 2]) [(0, .int .i64 1), (1, .int .i64 3), (2, .int .i64 3), (3, .int .i64 2)] underlying22 sz3 zr3 (fun _ V w o a hv hes => by simp only [List.map_toArray, List.map_cons, List.map_nil]; try rfl) (litfill (by simp [Instr.fill, Value.cells]; rfl) (by simp [List.range, List.range.loop] <;> rfl)) (by simp [Value.oneCell']) rfl (by decide) (by decide) (by decide)),zr' rfl (op_call _ _ 16 _ _ rfl call16 rfl (ok_wherrykeep_Ints v1.1 [1, 3, 3, 2] _ hv3) rfl rfl),z3 true rfl,z8 hg3_11 rfl,zt rfl,zt rfl,z3 false rfl,z2 rfl,zz⟩ ?_
      exact hl6 _ (Option.some.inj h).symm
    ·refine zg hn (_::_::_::_::(16,vi v1.2)::(17,vb (v1.2 == 0))::(18,vb true)::(19,vi v2.2)::(20,vb (v2.2 == 0))::(21,vb (v2.2 == 0))::(22,vb false)::(23,.v undef)::(24,.v undef)::(25,.v undef)::(26,vb false)::(27,vb false)::(28,.v undef)::(29,.v undef)::(30,vb false)::(0,vb false)::[]) [0,1,2,3] [19] (zq [1] 4 16::zq [4] 5 17::zq [5] 6 18::zq [6,3] 7 19::zq [6,7] 8 20::zq [6,8] 9 21::zq [9] 10 22::zq [10] 11 23::zq [10] 12 24::zq [10] 13 25::zq [10] 14 26::zq [14] 15 27::zq [15] 16 28::zq [15] 17 29::zq [15] 18 30::zq [18] 19 0::[]) [(_,_)] rfl ⟨z1 rfl,z4 rfl rfl,z8 hg3_2 rfl,zr' rfl (oM rfl),zr' rfl (oB rfl rfl),z3 true rfl,z8 hg3_6 rfl,zt rfl,zt rfl,zt rfl,z3 false rfl,z1 rfl,zt rfl,zt rfl,z3 false rfl,z2 rfl,zz⟩ ?_
     exact hl6 _ (Option.some.inj h).symm
   ·refine zg hn (_::_::_::_::(16,vi v1.2)::(17,vb (v1.2 == 0))::(18,vb false)::(19,.v undef)::(20,.v undef)::(21,vb false)::(22,vb false)::(23,.v undef)::(24,.v undef)::(25,.v undef)::(26,vb false)::(27,vb false)::(28,.v undef)::(29,.v undef)::(30,vb false)::(0,vb false)::[]) [0,1,2,3] [19] (zq [1] 4 16::zq [4] 5 17::zq [5] 6 18::zq [6] 7 19::zq [6] 8 20::zq [6] 9 21::zq [9] 10 22::zq [10] 11 23::zq [10] 12 24::zq [10] 13 25::zq [10] 14 26::zq [14] 15 27::zq [15] 16 28::zq [15] 17 29::zq [15] 18 30::zq [18] 19 0::[]) [(_,_)] rfl ⟨z1 rfl,z4 rfl rfl,z8 hg3_2 rfl,zt rfl,zt rfl,z3 false rfl,z1 rfl,zt rfl,zt rfl,zt rfl,z3 false rfl,z1 rfl,zt rfl,zt rfl,z3 false rfl,z2 rfl,zz⟩ ?_
    exact hl6 _ (Option.some.inj h).symm
theorem ok_canon_valid (lengths : (List Int)) (r : Bool) (h : Sh.canon_valid lengths = some r) : FnOK Try.prog 29 [.fl .shr 1 (List.map (Value.int .i64) lengths)] (.v (.bool r)) := by
  unfold Sh.canon_valid at h
  refine fn_ok func29 rfl (zl rfl) rfl rfl fun g0 hn hio => ?_
  refine zgg hn [_,(2,vb false)] [0] [0] [zq [] 1 2] [(_,_)] rfl ⟨z2 rfl,zz⟩ ?_
  refine ht_seq ?_
  refine zgg hn [_,(5,.fl .shr 1 (List.map (Value.int .i64) lengths)),(6,vi (lengths.length : Int)),(7,vb (decide (300 < (lengths.length : Int))))] [0] [0,3] [zq [0] 1 5,zq [1] 2 6,zq [2] 3 7] [(_,_),(_,_)] rfl ⟨z1 rfl,zp rfl (op_len_fl _ _ _ underlying22 rfl (by decide) (map_len _)),z4 rfl rfl,zz⟩ ?_
  refine ht_cond _ rfl (fun hb1 => ?_) (fun hb1 => ?_)
  ·have h := cond_t hb1 h
   refine zgg hn [_,_,(2,vb false)] [0,1] [2] [zq [] 2 2] [(_,_)] rfl ⟨z2 rfl,zz⟩ ?_
   refine ht_ret ?_
   refine pt_r_then ?_
   obtain rfl := Option.some.inj h
   exact pt_ret hio rfl (.tmp _ _ .nil) rfl rfl
  ·have h := cond_f hb1 h
   refine ht_skip ?_
   refine pt_then (ht_seq ?_)
   refine zgg hn [_,_,(8,.fl .shr 1 (List.map (Value.int .i64) lengths)),(9,vi (lengths.length : Int)),(10,vi 0)] [0,1] [2,3,4] [zq [0] 2 8,zq [2] 3 9,zq [] 4 10] [(_,_),(_,_),(_,_)] rfl ⟨z1 rfl,zp rfl (op_len_fl _ _ _ underlying22 rfl (by decide) (map_len _)),z1 rfl,zz⟩ ?_
   refine ht_loopS h (fun (s18 : Int) => [(8, .fl .shr 1 (List.map (Value.int .i64) lengths)), (9, .v (.int .i64 (lengths.length : Int))), (10, .v (.int .i64 s18))]) (fun (() : Unit) => []) ?_ ?_
   ·rintro ⟨⟩ h
    refine pt_then ?_
    refine zgg hn [(2,vb true)] [] [0] [zq [] 0 2] [(_,_)] rfl ⟨z2 rfl,zz⟩ ?_
    refine ht_ret ?_
    obtain rfl := Option.some.inj h
    exact pt_ret hio rfl (.tmp _ _ .nil) rfl rfl
   ·rintro u25 hl26 hr27 s18 rr30 h ho28
    refine zgg hn [_,_,_,(11,vb (decide (s18 < (lengths.length : Int))))] [0,1,2] [0,1,2,3] [zq [2,1] 3 11] [(_,_),(_,_),(_,_),(_,_)] rfl ⟨z4 rfl rfl,zz⟩ ?_
    refine ht_seq ?_
    refine ht_cond _ rfl (fun hb31 => ?_) (fun hb31 => ?_)
    ·have h := cond_t hb31 h
     refine ht_skip ?_
     refine pt_then (ht_seq ?_)
     refine ht_block ?_
     refine ht_seq ?_
     obtain ⟨v3, hv3, h⟩ := bind_some h
     obtain ⟨v4, hv4, h⟩ := bind_some h
     refine zg hn [_,_,_,_,(12,.eref (.slot 8) (v3 * 1)),(13,vi v4),(4,vi v4)] [0,1,2,3] [0,1,2,6] [zq [0,2] 4 12,zq [4,0] 5 13,zq [5] 6 4] [(_,_),(_,_),(_,_),(_,_)] rfl ⟨zp rfl (op_ix _ _ _ _ _ _ _ _ underlying22 sz3 (by decide) rfl rfl rfl (ix_ok hv3).1 (map_lt (ix_ok hv3).2) rfl),zp rfl (op_load_e _ _ _ _ _ _ underlying3 rfl rfl rfl (map_get hv4)),z2 rfl,zz⟩ ?_
     refine pt_then (ht_seq ?_)
     refine ht_joinS h (fun (s32 : Bool) => [(8, .fl .shr 1 (List.map (Value.int .i64) lengths)), (9, .v (.int .i64 (lengths.length : Int))), (10, .v (.int .i64 s18)), (19, .v (.bool s32))]) ?_ ?_
     ·rintro s32 h
      refine pt_then ?_
      refine ht_cond _ rfl (fun hb36 => ?_) (fun hb36 => ?_)
      ·have h := cond_t hb36 h
       refine zgg hn [_,_,_,_,(2,vb false)] [0,1,2,3] [4] [zq [] 4 2] [(_,_)] rfl ⟨z2 rfl,zz⟩ ?_
       refine ht_ret ?_
       refine pt_r_in ?_
       refine pt_r_then ?_
       refine pt_r_then ?_
       refine pt_r_in ?_
       refine pt_r_then ?_
       have h := hr27 _ (ho28 _ (Option.some.inj h).symm).symm
       obtain rfl := Option.some.inj h
       exact pt_ret hio rfl (.tmp _ _ .nil) rfl rfl
      ·have h := cond_f hb36 h
       refine ht_skip ?_
       refine pt_inb ?_
       refine pt_then ?_
       obtain ⟨v10, hv10, h⟩ := bind_some h
       refine zg hn [_,_,_,_,(20,vi v10),(10,vi v10)] [0,1,2,3] [0,1,5] [zq [2] 4 20,⟨[4],[2],[5],[(.slot 10)]⟩] [(_,_),(_,_),(_,_)] rfl ⟨zp rfl (oB rfl (ibind (f := Value.int .i64) (Option.some.inj hv10))),zp rfl (LOp.drop [_] (oM rfl)),zz⟩ ?_
       exact pt_next _ (Option.some.inj h).symm rfl
     ·intro u33 h hl34 hr35
      refine cond_some h (fun hg6_2 h => ?_) (fun hg6_2 h => ?_)
      ·refine zg hn [_,_,_,_,(14,vi v4),(15,vb (decide (v4 < 0))),(16,vb true),(17,.v undef),(18,.v undef),(19,vb true)] [0,1,2,3] [0,1,2,9] [zq [3] 4 14,zq [4] 5 15,zq [5] 6 16,zq [6] 7 17,zq [6] 8 18,zq [6] 9 19] [(_,_),(_,_),(_,_),(_,_)] rfl ⟨z1 rfl,z4 rfl rfl,z8 hg6_2 rfl,zf rfl,zf rfl,z3 true rfl,zz⟩ ?_
       exact hl34 _ (Option.some.inj h).symm
      ·refine zg hn [_,_,_,_,(14,vi v4),(15,vb (decide (v4 < 0))),(16,vb false),(17,vi v4),(18,vb (decide (15 < v4))),(19,vb (decide (15 < v4)))] [0,1,2,3] [0,1,2,9] [zq [3] 4 14,zq [4] 5 15,zq [5] 6 16,zq [6,3] 7 17,zq [6,7] 8 18,zq [6,8] 9 19] [(_,_),(_,_),(_,_),(_,_)] rfl ⟨z1 rfl,z4 rfl rfl,z8 hg6_2 rfl,zr' rfl (oM rfl),zr' rfl (oB rfl rfl),z3 false rfl,zz⟩ ?_
       exact hl34 _ (Option.some.inj h).symm
    ·have h := cond_f hb31 h
     refine ht_exit ?_
     refine pt_x_then ?_
     refine pt_x_then ?_
     refine pt_x_in ?_
     refine pt_pick [] (by kernel_rfl) (es' := []) rfl ?_
     exact hl26 _ (ho28 _ (Option.some.inj h).symm).symm
theorem ok_canon_count (lengths : (List Int)) (r : (List Int)) (h : Sh.canon_count lengths = some r) : FnOK Try.prog 31 [.fl .shr 1 (List.map (Value.int .i64) lengths)] (.v (.agg (List.map (Value.int .i64) r).toArray)) := by
  unfold Sh.canon_count at h
  refine fn_ok func31 rfl (zl rfl) rfl rfl fun g0 hn hio => ?_
  refine zgg hn [_,(2,.arr 45 (List.map (Value.int .i64) ((List.replicate 16 (0 : Int)))))] [0] [0,1] [zq [] 1 2] [(_,_),(_,_)] rfl ⟨zp rfl (op_alloc_arr _ za45),zz⟩ ?_
  refine zgg hn [_,_,(3,.arr 45 (List.map (Value.int .i64) ((List.replicate 16 (0 : Int)))))] [0,1] [0,1,2] [zq [] 2 3] [(_,_),(_,_),(_,_)] rfl ⟨zp rfl (op_alloc_arr _ za45),zz⟩ ?_
  refine ht_seq ?_
  refine zgg hn [_,_,_,(6,.fl .shr 1 (List.map (Value.int .i64) lengths)),(7,vi (lengths.length : Int)),(8,vi 0)] [0,1,2] [1,2,3,4,5] [zq [0] 3 6,zq [3] 4 7,zq [] 5 8] [(_,_),(_,_),(_,_),(_,_),(_,_)] rfl ⟨z1 rfl,zp rfl (op_len_fl _ _ _ underlying22 rfl (by decide) (map_len _)),z1 rfl,zz⟩ ?_
  refine ht_loopS h (fun ((s25, s26) : (List Int) × Int) => [(2, .arr 45 (List.map (Value.int .i64) ((List.replicate 16 (0 : Int))))), (3, .arr 45 (List.map (Value.int .i64) s25)), (6, .fl .shr 1 (List.map (Value.int .i64) lengths)), (7, .v (.int .i64 (lengths.length : Int))), (8, .v (.int .i64 s26))]) (fun (s34 : (List Int)) => [(2, .arr 45 (List.map (Value.int .i64) ((List.replicate 16 (0 : Int))))), (3, .arr 45 (List.map (Value.int .i64) s34))]) ?_ ?_
  ·rintro s34 h
   refine pt_then (ht_seq ?_)
   obtain ⟨v48, hv48, h⟩ := bind_some h
   obtain ⟨v49, hv49, h⟩ := bind_some h
   obtain ⟨v50, hv50, h⟩ := bind_some h
   refine zg hn [_,_,(20,.v (.agg (List.map (Value.int .i64) s34).toArray)),(2,.arr 45 (List.map (Value.int .i64) s34))] [0,1] [3] [zq [1] 2 20,⟨[2],[0],[3],[]⟩] [(_,_)] rfl ⟨zp rfl (op_loadA_arr _ _ _ _ underlying45 rfl (sz45.trans (congrArg some (ln_len hv48))) rfl rfl),zp rfl (op_storeA_arr _ _ _ _ (sz45.trans (congrArg some (ln_len hv50))) rfl rfl (ln_ones (fun _ => rfl) _) ((ln_len (f := Value.int .i64) hv49).symm.trans (ln_len (f := Value.int .i64) hv50))),zz⟩ ?_
   refine pt_then (ht_ret ?_)
   obtain ⟨v51, hv51, h⟩ := bind_some h
   obtain rfl := Option.some.inj h
   exact pt_ret hio rfl (.cellR _ _ _ _ underlying45 rfl (sz45.trans (congrArg some (ln_len hv51))) .nil) rfl rfl
  ·rintro u35 hl36 hr37 ⟨s25, s26⟩ rr40 h ho38
   refine zgg hn [_,_,_,_,_,(9,vb (decide (s26 < (lengths.length : Int))))] [0,1,2,3,4] [0,1,2,3,4,5] [zq [4,3] 5 9] [(_,_),(_,_),(_,_),(_,_),(_,_),(_,_)] rfl ⟨z4 rfl rfl,zz⟩ ?_
   refine ht_seq ?_
   refine ht_cond _ rfl (fun hb41 => ?_) (fun hb41 => ?_)
   ·have h := cond_t hb41 h
    refine ht_skip ?_
    refine pt_then (ht_seq ?_)
    refine ht_joinS h (fun (s43 : (List Int)) => [(2, .arr 45 (List.map (Value.int .i64) ((List.replicate 16 (0 : Int))))), (3, .arr 45 (List.map (Value.int .i64) s43)), (6, .fl .shr 1 (List.map (Value.int .i64) lengths)), (7, .v (.int .i64 (lengths.length : Int))), (8, .v (.int .i64 s26))]) ?_ ?_
    ·rintro s43 h
     refine pt_then ?_
     obtain ⟨v15, hv15, h⟩ := bind_some h
     refine zg hn [_,_,_,_,_,(19,vi v15),(8,vi v15)] [0,1,2,3,4] [0,1,2,3,6] [zq [4] 5 19,⟨[5],[4],[6],[(.slot 8)]⟩] [(_,_),(_,_),(_,_),(_,_),(_,_)] rfl ⟨zp rfl (oB rfl (ibind (f := Value.int .i64) (Option.some.inj hv15))),zp rfl (LOp.drop [_] (oM rfl)),zz⟩ ?_
     exact pt_next _ (Option.some.inj h).symm rfl
    ·intro u44 h hl45 hr46
     refine ht_block ?_
     refine ht_seq ?_
     obtain ⟨v2, hv2, h⟩ := bind_some h
     obtain ⟨v3, hv3, h⟩ := bind_some h
     refine zg hn [_,_,_,_,_,_,(10,.eref (.slot 6) (v2 * 1)),(11,vi v3),(5,vi v3)] [0,1,2,3,4,5] [0,1,2,3,4,8] [zq [2,4] 6 10,zq [6,2] 7 11,zq [7] 8 5] [(_,_),(_,_),(_,_),(_,_),(_,_),(_,_)] rfl ⟨zp rfl (op_ix _ _ _ _ _ _ _ _ underlying22 sz3 (by decide) rfl rfl rfl (ix_ok hv2).1 (map_lt (ix_ok hv2).2) rfl),zp rfl (op_load_e _ _ _ _ _ _ underlying3 rfl rfl rfl (map_get hv3)),z2 rfl,zz⟩ ?_
     refine pt_then ?_
     refine zgg hn [_,_,_,_,_,_,(12,vi v3),(13,vb (decide (0 < v3)))] [0,1,2,3,4,5] [0,1,2,3,4,5,7] [zq [5] 6 12,zq [6] 7 13] [(_,_),(_,_),(_,_),(_,_),(_,_),(_,_),(_,_)] rfl ⟨z1 rfl,z4 rfl rfl,zz⟩ ?_
     refine ht_cond _ rfl (fun hb47 => ?_) (fun hb47 => ?_)
     ·have h := cond_t hb47 h
      obtain ⟨v5, hv5, h⟩ := bind_some h
      obtain ⟨v6, hv6, h⟩ := bind_some h
      obtain ⟨v7, hv7, h⟩ := bind_some h
      obtain ⟨v8, hv8, h⟩ := bind_some h
      obtain ⟨v9, hv9, h⟩ := bind_some h
      refine zg hn [_,_,_,_,_,_,_,(14,vi v3),(15,.ptr 3 v5),(16,vi v6),(17,vi v7),(18,.ptr 3 v8),(3,.arr 45 (List.map (Value.int .i64) v9))] [0,1,2,3,4,5,6] [0,12,2,3,4] [zq [5] 7 14,zq [1,7] 8 15,zq [8,1] 9 16,zq [9] 10 17,zq [1,7] 11 18,⟨[11,10],[1],[12],[]⟩] [(_,_),(_,_),(_,_),(_,_),(_,_)] rfl ⟨z1 rfl,zp rfl (op_ix_arr _ _ _ _ 16 3 _ underlying45 sz3 rfl rfl (ix_ok hv5).1 (ix_ok hv5).2 (by decide)),zp rfl (op_load_arr _ _ _ _ _ _ underlying3 rfl rfl rfl (map_get1 hv6)),zp rfl (oB rfl (ibind (f := Value.int .i64) (Option.some.inj hv7))),zp rfl (op_ix_arr _ _ _ _ 16 3 _ underlying45 sz3 rfl rfl (ix_ok hv8).1 (ix_ok hv8).2 (by decide)),zp rfl (op_store_arr _ _ _ _ _ _ sz3 rfl rfl rfl rfl (set_lt hv9) (set_eq (f := Value.int .i64) hv9)),zz⟩ ?_
      refine pt_inb ?_
      exact hl45 _ (Option.some.inj h).symm
     ·have h := cond_f hb47 h
      refine ht_skip ?_
      refine pt_inb ?_
      refine pt_pick [0, 1, 2, 3, 4] (by kernel_rfl) (es' := [(_,_),(_,_),(_,_),(_,_),(_,_)]) rfl ?_
      exact hl45 _ (Option.some.inj h).symm
   ·have h := cond_f hb41 h
    refine ht_exit ?_
    refine pt_x_then ?_
    refine pt_x_then ?_
    refine pt_x_in ?_
    refine pt_pick [0, 1] (by kernel_rfl) (es' := [(_,_),(_,_)]) rfl ?_
    exact hl36 _ (ho38 _ (Option.some.inj h).symm).symm
theorem ok_canon_tally_weight (c : (List Int)) (r : Int) (h : Sh.canon_tally_weight c = some r) : FnOK Try.prog 38 [.v (.agg (List.map (Value.int .i64) c).toArray)] (.v (.int .i64 r)) := by
  unfold Sh.canon_tally_weight at h
  refine fn_ok func38 rfl (zl rfl) rfl rfl fun g0 hn hio => ?_
  refine zgg hn [_,(1,.arr 45 (List.map (Value.int .i64) c)),(2,vi 0)] [0] [1] [zq [0] 1 1,zq [] 2 2] [(_,_)] rfl ⟨zp rfl (op_box_arr _ _ _ rfl),z2 rfl,zz⟩ ?_
  refine zgg hn [_,(3,vi 0)] [0] [0,1] [zq [] 1 3] [(_,_),(_,_)] rfl ⟨z2 rfl,zz⟩ ?_
  refine ht_seq ?_
  refine ht_seq ?_
  obtain ⟨v1, hv1, h⟩ := bind_some h
  refine zg hn [_,_,(6,.v (.agg (List.map (Value.int .i64) c).toArray)),(7,vi 0)] [0,1] [1,2,3] [zq [0] 2 6,zq [] 3 7] [(_,_),(_,_),(_,_)] rfl ⟨zp rfl (op_loadA_arr _ _ _ _ underlying45 rfl (sz45.trans (congrArg some (ln_len hv1))) rfl rfl),z1 rfl,zz⟩ ?_
  refine pt_then ?_
  refine ht_loopS h (fun ((s12, s13) : Int × Int) => [(3, .v (.int .i64 s12)), (6, .v (.agg (List.map (Value.int .i64) c).toArray)), (7, .v (.int .i64 s13))]) (fun (s15 : Int) => [(3, .v (.int .i64 s15))]) ?_ ?_
  ·rintro s15 h
   refine pt_then ?_
   refine zgg hn [_,(18,vi s15),(2,vi s15)] [0] [2] [zq [0] 1 18,zq [1] 2 2] [(_,_)] rfl ⟨z1 rfl,z2 rfl,zz⟩ ?_
   refine ht_ret ?_
   obtain rfl := Option.some.inj h
   exact pt_ret hio rfl (.tmp _ _ .nil) rfl rfl
  ·rintro u16 hl17 hr18 ⟨s12, s13⟩ rr21 h ho19
   refine zgg hn [_,_,_,(8,vb (decide (s13 < 16)))] [0,1,2] [0,1,2,3] [zq [2] 3 8] [(_,_),(_,_),(_,_),(_,_)] rfl ⟨z4 rfl rfl,zz⟩ ?_
   refine ht_seq ?_
   refine ht_cond _ rfl (fun hb22 => ?_) (fun hb22 => ?_)
   ·have h := cond_t hb22 h
    refine ht_skip ?_
    refine pt_then (ht_seq ?_)
    refine ht_block ?_
    refine ht_seq ?_
    obtain ⟨v3, hv3, h⟩ := bind_some h
    obtain ⟨v4, hv4, h⟩ := bind_some h
    refine zg hn [_,_,_,_,(9,vi s13),(10,vi v4),(4,vi s13),(5,vi v4)] [0,1,2,3] [0,1,2,6,7] [zq [2] 4 9,zq [1,2] 5 10,zq [4] 6 4,zq [5] 7 5] [(_,_),(_,_),(_,_),(_,_),(_,_)] rfl ⟨z1 rfl,zp rfl (op_index_arr _ _ _ _ 16 v3 underlying45 sz3 rfl (congrArg (fun j => AV.v (Value.int .i64 j)) (ix_ok hv3).1) (ix_ok hv3).2 (map_get1 hv4) ⟨_, underlying3, rfl⟩),z2 rfl,z2 rfl,zz⟩ ?_
    refine pt_then ?_
    obtain ⟨v5, hv5, h⟩ := bind_some h
    obtain ⟨v6, hv6, h⟩ := bind_some h
    obtain ⟨v7, hv7, h⟩ := bind_some h
    refine zg hn [_,_,_,_,_,(11,vi s12),(12,vi v4),(13,vi s13),(14,vi v5),(15,vi v6),(16,vi v7),(3,vi v7)] [0,1,2,3,4] [1,2,11] [zq [0] 5 11,zq [4] 6 12,zq [3] 7 13,zq [7] 8 14,zq [6,8] 9 15,zq [5,9] 10 16,⟨[10],[0],[11],[(.slot 3)]⟩] [(_,_),(_,_),(_,_)] rfl ⟨z1 rfl,z1 rfl,z1 rfl,zp rfl (oB rfl (ibind (f := Value.int .i64) (Option.some.inj hv5))),zp rfl (oB rfl (shl_ok hv6)),zp rfl (oB rfl (ibind (f := Value.int .i64) (Option.some.inj hv7))),zp rfl (LOp.drop [_] (op_assign _ _ _ _ rfl rfl)),zz⟩ ?_
    refine pt_inb ?_
    refine pt_then ?_
    obtain ⟨v8, hv8, h⟩ := bind_some h
    refine zg hn [_,_,_,(17,vi v8),(7,vi v8)] [0,1,2] [0,2,4] [zq [1] 3 17,⟨[3],[1],[4],[(.slot 7)]⟩] [(_,_),(_,_),(_,_)] rfl ⟨zp rfl (oB rfl (ibind (f := Value.int .i64) (Option.some.inj hv8))),zp rfl (LOp.drop [_] (oM rfl)),zz⟩ ?_
    refine pt_pick [1, 0, 2] (by kernel_rfl) (es' := [(_,_),(_,_),(_,_)]) rfl ?_
    exact pt_next _ (Option.some.inj h).symm rfl
   ·have h := cond_f hb22 h
    refine ht_exit ?_
    refine pt_x_then ?_
    refine pt_x_then ?_
    refine pt_x_in ?_
    refine pt_pick [0] (by kernel_rfl) (es' := [(_,_)]) rfl ?_
    exact hl17 _ (ho19 _ (Option.some.inj h).symm).symm
theorem ok_canon_forms (c : (List Int)) (r : Bool) (h : Sh.canon_forms c = some r) : FnOK Try.prog 30 [.v (.agg (List.map (Value.int .i64) c).toArray)] (.v (.bool r)) := by
  unfold Sh.canon_forms at h
  refine fn_ok func30 rfl (zl rfl) rfl rfl fun g0 hn hio => ?_
  refine zgg hn [_,(1,.arr 45 (List.map (Value.int .i64) c)),(2,vb false)] [0] [1] [zq [0] 1 1,zq [] 2 2] [(_,_)] rfl ⟨zp rfl (op_box_arr _ _ _ rfl),z2 rfl,zz⟩ ?_
  refine ht_seq ?_
  obtain ⟨v1, hv1, h⟩ := bind_some h
  obtain ⟨v2, hv2, h⟩ := bind_some h
  refine zg hn [_,(4,.v (.agg (List.map (Value.int .i64) (([(0 : Int),1,(0 : Int),(0 : Int),(0 : Int),(0 : Int),(0 : Int),(0 : Int),(0 : Int),(0 : Int),(0 : Int),(0 : Int),(0 : Int),(0 : Int),(0 : Int),(0 : Int)] : List Int))).toArray)),(3,.arr 45 (List.map (Value.int .i64) ((List.replicate 16 (0 : Int))))),(3,.arr 45 (List.map (Value.int .i64) (([(0 : Int),1,(0 : Int),(0 : Int),(0 : Int),(0 : Int),(0 : Int),(0 : Int),(0 : Int),(0 : Int),(0 : Int),(0 : Int),(0 : Int),(0 : Int),(0 : Int),(0 : Int)] : List Int))))] [0] [0,3] [zq [] 1 4,zq [] 2 3,⟨[1],[2],[3],[]⟩] [(_,_),(_,_)] rfl ⟨zp rfl (op_build_arr _ _ (.agg #[.int .i64 0, .int .i64 0, .int .i64 0, .int .i64 0, .int .i64 0, .int .i64 0, .int .i64 0, .int .i64 0, .int .i64 0, .int .i64 0, .int .i64 0, .int .i64 0, .int .i64 0, .int .i64 0, .int .i64 0, .int .i64 0]) (List.map (Value.int .i64) (([(0 : Int), 1, (0 : Int), (0 : Int), (0 : Int), (0 : Int), (0 : Int), (0 : Int), (0 : Int), (0 : Int), (0 : Int), (0 : Int), (0 : Int), (0 : Int), (0 : Int), (0 : Int)] : List Int))) [(1, .int .i64 1)] underlying45 sz3 zr45 (fun _ V w o a hv hes => by simp only [List.map_toArray, List.map_cons, List.map_nil]; try rfl) (litfill (by simp [Instr.fill, Value.cells]; rfl) (by simp))),zp rfl (op_alloc_arr _ za45),zp rfl (op_storeA_arr _ _ _ _ (sz45.trans (congrArg some (ln_len hv2))) rfl rfl (ln_ones (fun _ => rfl) _) ((ln_len (f := Value.int .i64) hv1).symm.trans (ln_len (f := Value.int .i64) hv2))),zz⟩ ?_
  refine pt_then (ht_seq ?_)
  refine ht_joinS h (fun (s12 : Bool) => [(2, .v (.bool s12))]) ?_ ?_
  ·rintro s12 h
   refine pt_then (ht_ret ?_)
   obtain rfl := Option.some.inj h
   exact pt_ret hio rfl (.tmp _ _ .nil) rfl rfl
  ·intro u13 h hl14 hr15
   obtain ⟨v3, hv3, h⟩ := bind_some h
   obtain ⟨v4, hv4, h⟩ := bind_some h
   obtain ⟨v5, hv5, h⟩ := bind_some h
   refine cond_some h (fun hg2_3 h => ?_) (fun hg2_3 h => ?_)
   ·refine zg hn (_::_::(5,.v (.agg (List.map (Value.int .i64) c).toArray))::(6,.v (.agg (List.map (Value.int .i64) (([(0 : Int),(0 : Int),(0 : Int),(0 : Int),(0 : Int),(0 : Int),(0 : Int),(0 : Int),(0 : Int),(0 : Int),(0 : Int),(0 : Int),(0 : Int),(0 : Int),(0 : Int),(0 : Int)] : List Int))).toArray))::(7,vb (c == (([(0 : Int),(0 : Int),(0 : Int),(0 : Int),(0 : Int),(0 : Int),(0 : Int),(0 : Int),(0 : Int),(0 : Int),(0 : Int),(0 : Int),(0 : Int),(0 : Int),(0 : Int),(0 : Int)] : List Int))))::(8,vb true)::(9,.v undef)::(10,.v undef)::(11,.v undef)::(12,vb true)::(13,vb true)::(14,.v undef)::(15,.v undef)::(16,.v undef)::(17,vb true)::(2,vb true)::[]) [0,1] [15] [zq [0] 2 5,zq [] 3 6,zq [2,3] 4 7,zq [4] 5 8,zq [5] 6 9,zq [5] 7 10,zq [5] 8 11,zq [5] 9 12,zq [9] 10 13,zq [10] 11 14,zq [10] 12 15,zq [10] 13 16,zq [10] 14 17,zq [14] 15 2] [(_,_)] rfl ⟨zp rfl (op_loadA_arr _ _ _ _ underlying45 rfl (sz45.trans (congrArg some (ln_len hv3))) rfl rfl),zp rfl (op_build_arr _ _ (.agg #[.int .i64 0, .int .i64 0, .int .i64 0, .int .i64 0, .int .i64 0, .int .i64 0, .int .i64 0, .int .i64 0, .int .i64 0, .int .i64 0, .int .i64 0, .int .i64 0, .int .i64 0, .int .i64 0, .int .i64 0, .int .i64 0]) (List.map (Value.int .i64) (([(0 : Int), (0 : Int), (0 : Int), (0 : Int), (0 : Int), (0 : Int), (0 : Int), (0 : Int), (0 : Int), (0 : Int), (0 : Int), (0 : Int), (0 : Int), (0 : Int), (0 : Int), (0 : Int)] : List Int))) [] underlying45 sz3 zr45 (fun _ V w o a hv hes => by simp only [List.map_toArray, List.map_cons, List.map_nil]; try rfl) (litfill (by simp [Instr.fill, Value.cells]; rfl) (by simp))),zp rfl (op_eq_arr _ _ _ underlying45 underlying3 (i := Try.t3) (by kernel_rfl) (by kernel_rfl) (by kernel_rfl) rfl rfl (ln_n hv4) (ln_n hv5) rfl),z8 hg2_3 rfl,zf rfl,zf rfl,zf rfl,z3 true rfl,z1 rfl,zf rfl,zf rfl,zf rfl,z3 true rfl,z2 rfl,zz⟩ ?_
    exact hl14 _ (Option.some.inj h).symm
   ·obtain ⟨v6, hv6, h⟩ := bind_some h
    obtain ⟨v7, hv7, h⟩ := bind_some h
    obtain ⟨v8, hv8, h⟩ := bind_some h
    obtain ⟨v9, hv9, h⟩ := bind_some h
    refine cond_some h (fun hg2_8 h => ?_) (fun hg2_8 h => ?_)
    ·refine zg hn (_::_::(5,.v (.agg (List.map (Value.int .i64) c).toArray))::(6,.v (.agg (List.map (Value.int .i64) (([(0 : Int),(0 : Int),(0 : Int),(0 : Int),(0 : Int),(0 : Int),(0 : Int),(0 : Int),(0 : Int),(0 : Int),(0 : Int),(0 : Int),(0 : Int),(0 : Int),(0 : Int),(0 : Int)] : List Int))).toArray))::(7,vb (c == (([(0 : Int),(0 : Int),(0 : Int),(0 : Int),(0 : Int),(0 : Int),(0 : Int),(0 : Int),(0 : Int),(0 : Int),(0 : Int),(0 : Int),(0 : Int),(0 : Int),(0 : Int),(0 : Int)] : List Int))))::(8,vb false)::(9,.v (.agg (List.map (Value.int .i64) c).toArray))::(10,.v (.agg (List.map (Value.int .i64) (([(0 : Int),1,(0 : Int),(0 : Int),(0 : Int),(0 : Int),(0 : Int),(0 : Int),(0 : Int),(0 : Int),(0 : Int),(0 : Int),(0 : Int),(0 : Int),(0 : Int),(0 : Int)] : List Int))).toArray))::(11,vb (c == (([(0 : Int),1,(0 : Int),(0 : Int),(0 : Int),(0 : Int),(0 : Int),(0 : Int),(0 : Int),(0 : Int),(0 : Int),(0 : Int),(0 : Int),(0 : Int),(0 : Int),(0 : Int)] : List Int))))::(12,vb (c == (([(0 : Int),1,(0 : Int),(0 : Int),(0 : Int),(0 : Int),(0 : Int),(0 : Int),(0 : Int),(0 : Int),(0 : Int),(0 : Int),(0 : Int),(0 : Int),(0 : Int),(0 : Int)] : List Int))))::(13,vb true)::(14,.v undef)::(15,.v undef)::(16,.v undef)::(17,vb true)::(2,vb true)::[]) [0,1] [15] [zq [0] 2 5,zq [] 3 6,zq [2,3] 4 7,zq [4] 5 8,zq [5,0] 6 9,zq [5,1] 7 10,zq [5,6,7] 8 11,zq [5,8] 9 12,zq [9] 10 13,zq [10] 11 14,zq [10] 12 15,zq [10] 13 16,zq [10] 14 17,zq [14] 15 2] [(_,_)] rfl ⟨zp rfl (op_loadA_arr _ _ _ _ underlying45 rfl (sz45.trans (congrArg some (ln_len hv3))) rfl rfl),zp rfl (op_build_arr _ _ (.agg #[.int .i64 0, .int .i64 0, .int .i64 0, .int .i64 0, .int .i64 0, .int .i64 0, .int .i64 0, .int .i64 0, .int .i64 0, .int .i64 0, .int .i64 0, .int .i64 0, .int .i64 0, .int .i64 0, .int .i64 0, .int .i64 0]) (List.map (Value.int .i64) (([(0 : Int), (0 : Int), (0 : Int), (0 : Int), (0 : Int), (0 : Int), (0 : Int), (0 : Int), (0 : Int), (0 : Int), (0 : Int), (0 : Int), (0 : Int), (0 : Int), (0 : Int), (0 : Int)] : List Int))) [] underlying45 sz3 zr45 (fun _ V w o a hv hes => by simp only [List.map_toArray, List.map_cons, List.map_nil]; try rfl) (litfill (by simp [Instr.fill, Value.cells]; rfl) (by simp))),zp rfl (op_eq_arr _ _ _ underlying45 underlying3 (i := Try.t3) (by kernel_rfl) (by kernel_rfl) (by kernel_rfl) rfl rfl (ln_n hv4) (ln_n hv5) rfl),z8 hg2_3 rfl,zr' rfl (op_loadA_arr _ _ _ _ underlying45 rfl (sz45.trans (congrArg some (ln_len hv6))) rfl rfl),zr' rfl (op_loadA_arr _ _ _ _ underlying45 rfl (sz45.trans (congrArg some (ln_len hv7))) rfl rfl),zr' rfl (op_eq_arr _ _ _ underlying45 underlying3 (i := Try.t3) (by kernel_rfl) (by kernel_rfl) (by kernel_rfl) rfl rfl (ln_n hv8) (ln_n hv9) rfl),z3 false rfl,z8 hg2_8 rfl,zf rfl,zf rfl,zf rfl,z3 true rfl,z2 rfl,zz⟩ ?_
     exact hl14 _ (Option.some.inj h).symm
    ·obtain ⟨v10, hv10, h⟩ := bind_some h
     obtain ⟨v11, hv11, h⟩ := bind_some h
     refine zg hn (_::_::(5,.v (.agg (List.map (Value.int .i64) c).toArray))::(6,.v (.agg (List.map (Value.int .i64) (([(0 : Int),(0 : Int),(0 : Int),(0 : Int),(0 : Int),(0 : Int),(0 : Int),(0 : Int),(0 : Int),(0 : Int),(0 : Int),(0 : Int),(0 : Int),(0 : Int),(0 : Int),(0 : Int)] : List Int))).toArray))::(7,vb (c == (([(0 : Int),(0 : Int),(0 : Int),(0 : Int),(0 : Int),(0 : Int),(0 : Int),(0 : Int),(0 : Int),(0 : Int),(0 : Int),(0 : Int),(0 : Int),(0 : Int),(0 : Int),(0 : Int)] : List Int))))::(8,vb false)::(9,.v (.agg (List.map (Value.int .i64) c).toArray))::(10,.v (.agg (List.map (Value.int .i64) (([(0 : Int),1,(0 : Int),(0 : Int),(0 : Int),(0 : Int),(0 : Int),(0 : Int),(0 : Int),(0 : Int),(0 : Int),(0 : Int),(0 : Int),(0 : Int),(0 : Int),(0 : Int)] : List Int))).toArray))::(11,vb (c == (([(0 : Int),1,(0 : Int),(0 : Int),(0 : Int),(0 : Int),(0 : Int),(0 : Int),(0 : Int),(0 : Int),(0 : Int),(0 : Int),(0 : Int),(0 : Int),(0 : Int),(0 : Int)] : List Int))))::(12,vb (c == (([(0 : Int),1,(0 : Int),(0 : Int),(0 : Int),(0 : Int),(0 : Int),(0 : Int),(0 : Int),(0 : Int),(0 : Int),(0 : Int),(0 : Int),(0 : Int),(0 : Int),(0 : Int)] : List Int))))::(13,vb false)::(14,.v (.agg (List.map (Value.int .i64) c).toArray))::(15,vi v11)::(16,vb (v11 == 32768))::(17,vb (v11 == 32768))::(2,vb (v11 == 32768))::[]) [0,1] [15] [zq [0] 2 5,zq [] 3 6,zq [2,3] 4 7,zq [4] 5 8,zq [5,0] 6 9,zq [5,1] 7 10,zq [5,6,7] 8 11,zq [5,8] 9 12,zq [9] 10 13,zq [10,0] 11 14,zq [10,11] 12 15,zq [10,12] 13 16,zq [10,13] 14 17,zq [14] 15 2] [(_,_)] rfl ⟨zp rfl (op_loadA_arr _ _ _ _ underlying45 rfl (sz45.trans (congrArg some (ln_len hv3))) rfl rfl),zp rfl (op_build_arr _ _ (.agg #[.int .i64 0, .int .i64 0, .int .i64 0, .int .i64 0, .int .i64 0, .int .i64 0, .int .i64 0, .int .i64 0, .int .i64 0, .int .i64 0, .int .i64 0, .int .i64 0, .int .i64 0, .int .i64 0, .int .i64 0, .int .i64 0]) (List.map (Value.int .i64) (([(0 : Int), (0 : Int), (0 : Int), (0 : Int), (0 : Int), (0 : Int), (0 : Int), (0 : Int), (0 : Int), (0 : Int), (0 : Int), (0 : Int), (0 : Int), (0 : Int), (0 : Int), (0 : Int)] : List Int))) [] underlying45 sz3 zr45 (fun _ V w o a hv hes => by simp only [List.map_toArray, List.map_cons, List.map_nil]; try rfl) (litfill (by simp [Instr.fill, Value.cells]; rfl) (by simp))),zp rfl (op_eq_arr _ _ _ underlying45 underlying3 (i := Try.t3) (by kernel_rfl) (by kernel_rfl) (by kernel_rfl) rfl rfl (ln_n hv4) (ln_n hv5) rfl),z8 hg2_3 rfl,zr' rfl (op_loadA_arr _ _ _ _ underlying45 rfl (sz45.trans (congrArg some (ln_len hv6))) rfl rfl),zr' rfl (op_loadA_arr _ _ _ _ underlying45 rfl (sz45.trans (congrArg some (ln_len hv7))) rfl rfl),zr' rfl (op_eq_arr _ _ _ underlying45 underlying3 (i := Try.t3) (by kernel_rfl) (by kernel_rfl) (by kernel_rfl) rfl rfl (ln_n hv8) (ln_n hv9) rfl),z3 false rfl,z8 hg2_8 rfl,zr' rfl (op_loadA_arr _ _ _ _ underlying45 rfl (sz45.trans (congrArg some (ln_len hv10))) rfl rfl),zr' rfl (op_call _ _ 38 _ _ rfl call38 rfl (ok_canon_tally_weight c _ hv11) rfl rfl),zr' rfl (oB rfl rfl),z3 false rfl,z2 rfl,zz⟩ ?_
     exact hl14 _ (Option.some.inj h).symm
theorem ok_canon_Check (lengths : (List Int)) (r : Int) (h : Sh.canon_Check lengths = some r) : FnOK Try.prog 18 [.fl .shr 1 (List.map (Value.int .i64) lengths)] (.v (.int .i64 r)) := by
  unfold Sh.canon_Check at h
  refine fn_ok func18 rfl (zl rfl) rfl rfl fun g0 hn hio => ?_
  refine zgg hn [_,(2,vi 0)] [0] [0] [zq [] 1 2] [(_,_)] rfl ⟨z2 rfl,zz⟩ ?_
  refine ht_seq ?_
  refine ht_seq ?_
  obtain ⟨v1, hv1, h⟩ := bind_some h
  refine zg hn [_,(3,.fl .shr 1 (List.map (Value.int .i64) lengths)),(4,vb v1),(5,vb (!v1))] [0] [0,3] [zq [0] 1 3,zq [1] 2 4,zq [2] 3 5] [(_,_),(_,_)] rfl ⟨z1 rfl,zp rfl (op_call _ _ 29 _ _ rfl call29 rfl (ok_canon_valid lengths _ hv1) rfl rfl),zp rfl (op_un _ _ _ _ rfl rfl),zz⟩ ?_
  refine pt_then ?_
  refine ht_cond _ rfl (fun hb2 => ?_) (fun hb2 => ?_)
  ·have h := cond_t hb2 h
   refine zgg hn [_,_,(2,vi 1)] [0,1] [2] [zq [] 2 2] [(_,_)] rfl ⟨z2 rfl,zz⟩ ?_
   refine ht_ret ?_
   refine pt_r_then ?_
   obtain rfl := Option.some.inj h
   exact pt_ret hio rfl (.tmp _ _ .nil) rfl rfl
  ·have h := cond_f hb2 h
   refine ht_skip ?_
   refine pt_then (ht_seq ?_)
   refine ht_seq ?_
   obtain ⟨v3, hv3, h⟩ := bind_some h
   obtain ⟨v4, hv4, h⟩ := bind_some h
   refine zg hn [_,_,(6,.fl .shr 1 (List.map (Value.int .i64) lengths)),(7,.v (.agg (List.map (Value.int .i64) v3).toArray)),(8,vb v4),(9,vb (!v4))] [0,1] [5] [zq [0] 2 6,zq [2] 3 7,zq [3] 4 8,zq [4] 5 9] [(_,_)] rfl ⟨z1 rfl,zp rfl (op_call _ _ 31 _ _ rfl call31 rfl (ok_canon_count lengths _ hv3) rfl rfl),zp rfl (op_call _ _ 30 _ _ rfl call30 rfl (ok_canon_forms v3 _ hv4) rfl rfl),zp rfl (op_un _ _ _ _ rfl rfl),zz⟩ ?_
   refine pt_then ?_
   refine ht_cond _ rfl (fun hb5 => ?_) (fun hb5 => ?_)
   ·have h := cond_t hb5 h
    refine zgg hn [_,(2,vi 4)] [0] [1] [zq [] 1 2] [(_,_)] rfl ⟨z2 rfl,zz⟩ ?_
    refine ht_ret ?_
    refine pt_r_then ?_
    obtain rfl := Option.some.inj h
    exact pt_ret hio rfl (.tmp _ _ .nil) rfl rfl
   ·have h := cond_f hb5 h
    refine ht_skip ?_
    refine pt_then ?_
    refine zgg hn [_,(2,vi 0)] [0] [1] [zq [] 1 2] [(_,_)] rfl ⟨z2 rfl,zz⟩ ?_
    refine ht_ret ?_
    obtain rfl := Option.some.inj h
    exact pt_ret hio rfl (.tmp _ _ .nil) rfl rfl
end Go.Proofs.Ytohhijlgepnbeaa
