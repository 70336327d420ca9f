/-
  The model's runs are what is told in Lean.
-/
import Derived.Test.YtohhijlgepnbeaaProg
import Derived.KernelRfl
import Derived.Test.YtohhijlgepnbeaaShelf
import Derived.Test.YtohhijlgepnbeaaB4
import Derived.Test.YtohhijlgepnbeaaB5
import Derived.Test.YtohhijlgepnbeaaB8
import Derived.Test.YtohhijlgepnbeaaSrt
import Derived.Test.YtohhijlgepnbeaaOkc1
set_option linter.unusedVariables false
set_option linter.unusedSimpArgs false
set_option maxHeartbeats 1000000
namespace Go.Proofs.Ytohhijlgepnbeaa
open Go.Abs Go.Abs.Sh Try

theorem ok_wherrylaw03_TreeEven (k : Int) (w : Int) (r : Bool) (h : Sh.wherrylaw03_TreeEven k w = some r) : FnOK Try.prog 6 [.v (.int .i64 k), .v (.int .i64 w)] (.v (.bool r)) := by
  unfold Sh.wherrylaw03_TreeEven at h
  refine fn_ok func6 rfl (zl rfl) rfl rfl fun g0 hn hio => ?_
  refine zgg hn [_,_,(4,vb false)] [0,1] [0,1] [zq [] 2 4] [(_,_),(_,_)] rfl ⟨z2 rfl,zz⟩ ?_
  refine ht_seq ?_
  obtain ⟨v1, hv1, h⟩ := bind_some h
  obtain ⟨v2, hv2, h⟩ := bind_some h
  obtain ⟨v3, hv3, h⟩ := bind_some h
  obtain ⟨v4, hv4, h⟩ := bind_some h
  obtain ⟨v5, hv5, h⟩ := bind_some h
  obtain ⟨v6, hv6, h⟩ := bind_some h
  obtain ⟨v7, hv7, h⟩ := bind_some h
  refine zg hn [_,_,(10,vi k),(11,.v (.int .u64 v1)),(12,.v (.int .u64 v2)),(13,vi v3),(14,vi w),(15,.v (.int .u64 v4)),(16,.v (.int .u64 v5)),(17,vi v6),(18,vi v7),(0,vi v3),(1,vi v7)] [0,1] [11,12] [zq [0] 2 10,zq [2] 3 11,zq [3] 4 12,zq [4] 5 13,zq [1] 6 14,zq [6] 7 15,zq [7] 8 16,zq [8] 9 17,zq [9] 10 18,⟨[5],[0],[11],[(.slot 0)]⟩,⟨[10],[1],[12],[(.slot 1)]⟩] [(_,_),(_,_)] rfl ⟨z1 rfl,zp rfl ((Option.some.inj hv1) ▸ op_conv _ _ _ underlying3 underlying33 rfl),zp rfl (oB rfl (rem_ok hv2)),zp rfl ((Option.some.inj hv3) ▸ op_conv _ _ _ underlying33 underlying3 rfl),z1 rfl,zp rfl ((Option.some.inj hv4) ▸ op_conv _ _ _ underlying3 underlying33 rfl),zp rfl (oB rfl (rem_ok hv5)),zp rfl ((Option.some.inj hv6) ▸ op_conv _ _ _ underlying33 underlying3 rfl),zp rfl (oB rfl (ibind (f := Value.int .i64) (Option.some.inj hv7))),zp rfl (LOp.drop [_] (op_assign _ _ _ _ rfl rfl)),zp rfl (LOp.drop [_] (op_assign _ _ _ _ rfl rfl)),zz⟩ ?_
  refine pt_then ?_
  refine zgg hn [_,_,(5,.v (.slice none 0 0))] [0,1] [0,1,2] [zq [] 2 5] [(_,_),(_,_),(_,_)] rfl ⟨z2 rfl,zz⟩ ?_
  refine ht_seq ?_
  refine zgg hn [_,_,_,(6,vi 0)] [0,1,2] [0,1,2,3] [zq [] 3 6] [(_,_),(_,_),(_,_),(_,_)] rfl ⟨z2 rfl,zz⟩ ?_
  refine ht_sub (fs := [(0, .v (.int .i64 v3)), (1, .v (.int .i64 v7)), (5, .fl (.own 3) 1 (List.map (Value.int .i64) [])), (6, .v (.int .i64 0))]) (.same _ (.same _ (.sub _ (sub_nil 3 1) rfl (.same _ .nil)))) ?_
  refine ht_loopS h (fun ((s16, s17) : (List Int) × Int) => [(0, .v (.int .i64 v3)), (1, .v (.int .i64 v7)), (5, .fl (.own 3) 1 (List.map (Value.int .i64) s16)), (6, .v (.int .i64 s17))]) (fun (s19 : (List Int)) => [(0, .v (.int .i64 v3)), (5, .fl (.own 3) 1 (List.map (Value.int .i64) s19))]) ?_ ?_
  ·rintro s19 h
   refine pt_then (ht_seq ?_)
   obtain ⟨v27, hv27, h⟩ := bind_some h
   refine zg hn [_,_,(31,.same (.slot 5)),(32,.tup [.fl (.own 3) 1 (List.map (Value.int .i64) v27.1),vi v27.2]),(30,.tup [.fl (.own 3) 1 (List.map (Value.int .i64) v27.1),vi v27.2]),(33,.fl (.own 3) 1 (List.map (Value.int .i64) v27.1)),(30,.tup [.any,vi v27.2]),(34,vi v27.2),(7,.fl (.own 3) 1 (List.map (Value.int .i64) v27.1)),(8,vi v27.2)] [0,1] [0,1,8,9] [zq [1] 2 31,zq [2,1] 3 32,⟨[],[3],[4],[(.slot 30)]⟩,⟨[],[4],[6,5],[(.slot 33)]⟩,zq [6] 7 34,⟨[],[5],[8],[(.slot 7)]⟩,zq [7] 9 8] [(_,_),(_,_),(_,_),(_,_)] rfl ⟨z1 rfl,zp rfl (op_call _ _ 12 _ _ rfl call12 rfl (ok_tree_Lengths s19 15 _ hv27) rfl rfl),zp rfl (op_move_take _ _ _ _ rfl),zp rfl (op_extract_take _ _ _ _ _ rfl (zl rfl) rfl rfl (by decide) rfl),zp rfl (oE rfl),zp rfl (op_assign_take _ _ _ _ rfl),z2 rfl,zz⟩ ?_
   refine pt_then (ht_seq ?_)
   refine ht_seq ?_
   refine ht_joinS h (fun (s28 : Bool) => [(0, .v (.int .i64 v3)), (7, .fl (.own 3) 1 (List.map (Value.int .i64) v27.1)), (43, .v (.bool s28))]) ?_ ?_
   ·rintro s28 h
    refine pt_then ?_
    refine ht_cond _ rfl (fun hb32 => ?_) (fun hb32 => ?_)
    ·have h := cond_t hb32 h
     refine zgg hn [_,_,_,(4,vb false)] [0,1,2] [3] [zq [] 3 4] [(_,_)] rfl ⟨z2 rfl,zz⟩ ?_
     refine ht_ret ?_
     refine pt_r_then ?_
     obtain rfl := Option.some.inj h
     exact pt_ret hio rfl (.tmp _ _ .nil) rfl rfl
    ·have h := cond_f hb32 h
     refine ht_skip ?_
     refine pt_then (ht_seq ?_)
     refine zgg hn [_,_,_,(9,vi 0)] [0,1,2] [0,1,3] [zq [] 3 9] [(_,_),(_,_),(_,_)] rfl ⟨z2 rfl,zz⟩ ?_
     refine ht_loopS h (fun (s42 : Int) => [(0, .v (.int .i64 v3)), (7, .fl (.own 3) 1 (List.map (Value.int .i64) v27.1)), (9, .v (.int .i64 s42))]) (fun (() : Unit) => []) ?_ ?_
     ·rintro ⟨⟩ h
      refine pt_then (ht_seq ?_)
      obtain ⟨v53, hv53, h⟩ := bind_some h
      refine zg hn [(57,vb v53),(4,vb v53)] [] [1] [zq [] 0 57,zq [0] 1 4] [(_,_)] rfl ⟨zp rfl (op_call _ _ 17 _ _ rfl call17 rfl (ok_wherrylaw03_wakes  _ hv53) rfl rfl),z2 rfl,zz⟩ ?_
      refine pt_then (ht_ret ?_)
      obtain rfl := Option.some.inj h
      exact pt_ret hio rfl (.tmp _ _ .nil) rfl rfl
     ·rintro u45 hl46 hr47 s42 rr50 h ho48
      refine ht_seq ?_
      refine zgg hn [_,_,_,(44,vi s42),(45,.same (.slot 7)),(46,vi (v27.1.length : Int)),(47,vb (decide (s42 < (v27.1.length : Int))))] [0,1,2] [0,1,2,6] [zq [2] 3 44,zq [1] 4 45,zq [4,1] 5 46,zq [3,5] 6 47] [(_,_),(_,_),(_,_),(_,_)] rfl ⟨z1 rfl,z1 rfl,zp rfl (op_len_fl _ _ _ underlying22 rfl (by decide) (map_len _)),z4 rfl rfl,zz⟩ ?_
      refine ht_cond _ rfl (fun hb51 => ?_) (fun hb51 => ?_)
      ·have h := cond_t hb51 h
       refine ht_skip ?_
       refine pt_then (ht_seq ?_)
       refine ht_block ?_
       refine ht_seq ?_
       obtain ⟨v34, hv34, h⟩ := bind_some h
       obtain ⟨v35, hv35, h⟩ := bind_some h
       obtain ⟨v36, hv36, h⟩ := bind_some h
       refine zg hn [_,_,_,_,(50,.same (.slot 7)),(51,vi s42),(52,.eref (.slot 7) (v34 * 1)),(53,vi v35),(54,vi v3),(55,vi v36),(56,vb (v35 != v36))] [0,1,2,3] [0,1,2,10] [zq [1] 4 50,zq [2] 5 51,zq [4,1,5] 6 52,zq [6,1] 7 53,zq [0] 8 54,zq [8] 9 55,zq [7,9] 10 56] [(_,_),(_,_),(_,_),(_,_)] rfl ⟨z1 rfl,z1 rfl,zp rfl (op_ix _ _ _ _ _ _ _ _ underlying22 sz3 (by decide) rfl rfl rfl (ix_ok hv34).1 (map_lt (ix_ok hv34).2) rfl),zp rfl (op_load_e _ _ _ _ _ _ underlying3 rfl rfl rfl (map_get hv35)),z1 rfl,zp rfl ((Option.some.inj hv36) ▸ op_max _ _ _ _ rfl rfl),z4 rfl rfl,zz⟩ ?_
       refine pt_then ?_
       refine ht_cond _ rfl (fun hb52 => ?_) (fun hb52 => ?_)
       ·have h := cond_t hb52 h
        refine zgg hn [_,_,_,_,(4,vb false)] [0,1,2,3] [4] [zq [] 4 4] [(_,_)] rfl ⟨z2 rfl,zz⟩ ?_
        refine ht_ret ?_
        refine pt_r_in ?_
        refine pt_r_then ?_
        refine pt_r_then ?_
        refine pt_r_in ?_
        refine pt_r_then ?_
        have h := hr47 _ (ho48 _ (Option.some.inj h).symm).symm
        obtain rfl := Option.some.inj h
        exact pt_ret hio rfl (.tmp _ _ .nil) rfl rfl
       ·have h := cond_f hb52 h
        refine ht_skip ?_
        refine pt_inb ?_
        refine pt_then ?_
        obtain ⟨v38, hv38, h⟩ := bind_some h
        refine zg hn [_,_,_,_,(48,vi s42),(49,vi v38),(9,vi v38)] [0,1,2,3] [0,1,6] [zq [2] 4 48,zq [4] 5 49,⟨[5],[2],[6],[(.slot 9)]⟩] [(_,_),(_,_),(_,_)] rfl ⟨z1 rfl,zp rfl (oB rfl (ibind (f := Value.int .i64) (Option.some.inj hv38))),zp rfl (LOp.drop [_] (op_assign _ _ _ _ rfl rfl)),zz⟩ ?_
        exact pt_next _ (Option.some.inj h).symm rfl
      ·have h := cond_f hb51 h
       refine ht_exit ?_
       refine pt_x_then ?_
       refine pt_x_then ?_
       refine pt_x_in ?_
       refine pt_pick [] (by kernel_rfl) (es' := []) rfl ?_
       exact hl46 _ (ho48 _ (Option.some.inj h).symm).symm
   ·intro u29 h hl30 hr31
    refine cond_some h (fun hg8_2 h => ?_) (fun hg8_2 h => ?_)
    ·refine zg hn [_,_,_,_,(35,vi v27.2),(36,vb (v27.2 != 0)),(37,vb true),(38,.v undef),(39,.v undef),(40,.v undef),(41,.v undef),(42,.v undef),(43,vb true)] [0,1,2,3] [0,2,12] [zq [3] 4 35,zq [4] 5 36,zq [5] 6 37,zq [6] 7 38,zq [6] 8 39,zq [6] 9 40,zq [6] 10 41,zq [6] 11 42,zq [6] 12 43] [(_,_),(_,_),(_,_)] rfl ⟨z1 rfl,z4 rfl rfl,z8 hg8_2 rfl,zf rfl,zf rfl,zf rfl,zf rfl,zf rfl,z3 true rfl,zz⟩ ?_
     exact hl30 _ (Option.some.inj h).symm
    ·refine zg hn [_,_,_,_,(35,vi v27.2),(36,vb (v27.2 != 0)),(37,vb false),(38,.same (.slot 7)),(39,vi (v27.1.length : Int)),(40,.fl (.own 3) 1 (List.map (Value.int .i64) s19)),(41,vi (s19.length : Int)),(42,vb ((v27.1.length : Int) != (s19.length : Int))),(43,vb ((v27.1.length : Int) != (s19.length : Int)))] [0,1,2,3] [0,2,12] [zq [3] 4 35,zq [4] 5 36,zq [5] 6 37,zq [6,2] 7 38,zq [6,7,2] 8 39,⟨[6],[1],[9],[(.slot 40)]⟩,zq [6,9] 10 41,zq [6,8,10] 11 42,zq [6,11] 12 43] [(_,_),(_,_),(_,_)] rfl ⟨z1 rfl,z4 rfl rfl,z8 hg8_2 rfl,zr' rfl (oM rfl),zr' rfl (op_len_fl _ _ _ underlying22 rfl (by decide) (map_len _)),zr' rfl (op_move_take _ _ _ _ rfl),zr' rfl (op_len_fl _ _ _ underlying22 rfl (by decide) (map_len _)),zr' rfl (oB rfl rfl),z3 false rfl,zz⟩ ?_
     exact hl30 _ (Option.some.inj h).symm
  ·rintro u20 hl21 hr22 ⟨s16, s17⟩ rr25 h ho23
   refine ht_seq ?_
   refine ht_seq ?_
   obtain ⟨v8, hv8, h⟩ := bind_some h
   obtain ⟨v9, hv9, h⟩ := bind_some h
   refine zg hn [_,_,_,_,(19,vi s17),(20,vi v3),(21,.v (.int .u64 v8)),(22,vi v9),(23,vb (decide (s17 < v9)))] [0,1,2,3] [0,1,2,3,8] [zq [3] 4 19,zq [0] 5 20,zq [5] 6 21,zq [6] 7 22,zq [4,7] 8 23] [(_,_),(_,_),(_,_),(_,_),(_,_)] rfl ⟨z1 rfl,z1 rfl,zp rfl ((Option.some.inj hv8) ▸ op_conv _ _ _ underlying3 underlying33 rfl),zp rfl (oB rfl (shl_ok hv9)),z4 rfl rfl,zz⟩ ?_
   refine pt_then ?_
   refine ht_cond _ rfl (fun hb26 => ?_) (fun hb26 => ?_)
   ·have h := cond_t hb26 h
    refine ht_skip ?_
    refine pt_then (ht_seq ?_)
    refine ht_block ?_
    obtain ⟨v11, hv11, h⟩ := bind_some h
    refine zg hn [_,_,_,_,_,(26,.fl (.own 3) 1 (List.map (Value.int .i64) s16)),(27,vi v7),(28,.fl (.own 3) 1 (List.map (Value.int .i64) [v7])),(29,.fl (.own 3) 1 (List.map (Value.int .i64) v11)),(26,.any),(5,.fl (.own 3) 1 (List.map (Value.int .i64) v11))] [0,1,2,3,4] [0,1,3,10] [⟨[],[2],[5],[(.slot 26)]⟩,zq [1] 6 27,zq [6] 7 28,⟨[7],[5],[9,8],[(.slot 29)]⟩,⟨[],[8],[10],[(.slot 5)]⟩] [(_,_),(_,_),(_,_),(_,_)] rfl ⟨zp rfl (op_move_take _ _ _ _ rfl),z1 rfl,zp rfl (op_buildSlice _ _ 1 (.int .i64 0) (List.map (Value.int .i64) [v7]) [(0, .int .i64 v7)] underlying22 sz3 zr3 (fun _ V w o a hv hes => by have e0 := rd_v hv hes (x := .tmp 27) rfl; simp only [List.map_toArray, List.map_cons, List.map_nil, e0]; try rfl) (litfill (by simp [Instr.fill, Value.cells]; rfl) (by simp [List.range, List.range.loop] <;> rfl)) (by simp [Value.oneCell']) rfl (by decide) (by decide) (by decide)),zp rfl (op_app _ _ _ _ _ el22 rfl rfl (map_len _) (map_len _) hv11 ((List.map_append).symm.trans (congrArg (List.map _) (app_eq hv11)))),zp rfl (op_assign_take _ _ _ _ rfl),zz⟩ ?_
    refine pt_inb ?_
    refine pt_then ?_
    obtain ⟨v12, hv12, h⟩ := bind_some h
    refine zg hn [_,_,_,_,(24,vi s17),(25,vi v12),(6,vi v12)] [0,1,2,3] [0,1,3,6] [zq [2] 4 24,zq [4] 5 25,⟨[5],[2],[6],[(.slot 6)]⟩] [(_,_),(_,_),(_,_),(_,_)] rfl ⟨z1 rfl,zp rfl (oB rfl (ibind (f := Value.int .i64) (Option.some.inj hv12))),zp rfl (LOp.drop [_] (op_assign _ _ _ _ rfl rfl)),zz⟩ ?_
    exact pt_next _ (Option.some.inj h).symm rfl
   ·have h := cond_f hb26 h
    refine ht_exit ?_
    refine pt_x_then ?_
    refine pt_x_then ?_
    refine pt_x_in ?_
    refine pt_pick [0, 2] (by kernel_rfl) (es' := [(_,_),(_,_)]) rfl ?_
    exact hl21 _ (ho23 _ (Option.some.inj h).symm).symm

end Go.Proofs.Ytohhijlgepnbeaa
