/-
  The model's runs are what is told in Lean.
-/
import Derived.Test.YtgonanjdmdlkjaaDoorProg
import Derived.KernelRfl
import Derived.Test.YtgonanjdmdlkjaaDoorShelf
import Derived.Test.YtgonanjdmdlkjaaDoorIdx
import Derived.Test.YtgonanjdmdlkjaaDoorSh
set_option linter.unusedVariables false
set_option linter.unusedSimpArgs false
namespace Go.Proofs.YtgonanjdmdlkjaaDoor
open Go.Abs Go.Abs.Sh
def GL (mx : Int) : List (Nat × List Value) := [(0, [.int .i64 mx]), (1, (List.map (Value.int .u8) utf8_first)), (2, (List.map (Value.int .u8) utf8_accept))]
theorem gl_mem0 (mx : Int) : (0, ([.int .i64 mx] : List Value)) ∈ GL mx := .head _
theorem gl_mem1 (mx : Int) : (1, ((List.map (Value.int .u8) utf8_first) : List Value)) ∈ GL mx := .tail _ (.head _)
theorem gl_mem2 (mx : Int) : (2, ((List.map (Value.int .u8) utf8_accept) : List Value)) ∈ GL mx := .tail _ (.tail _ (.head _))
theorem sz22 : (Tryd.prog.info? 22).map (·.size) = some 1 := by kernel_rfl
theorem sz5 : (Tryd.prog.info? 5).map (·.size) = some 1 := by kernel_rfl
theorem el22 : ElemT Tryd.prog 22 5 1 1 := ⟨⟨Tryd.t5, .int .u8 0, Tryd.underlying22, by kernel_rfl, by kernel_rfl, by kernel_rfl, by kernel_rfl, by decide, by kernel_rfl⟩⟩
theorem zr5 : (Tryd.prog.info? 5).bind (·.zero) = some (.int .u8 0) := by kernel_rfl
theorem zr29 : (Tryd.prog.info? 29).bind (·.zero) = some (.slice none 0 0) := by kernel_rfl
theorem zr22 : (Tryd.prog.info? 22).bind (·.zero) = some (.slice none 0 0) := by kernel_rfl
theorem el29 : ElemT Tryd.prog 29 22 1 24 := ⟨⟨Tryd.t22, .slice none 0 0, Tryd.underlying29, by kernel_rfl, by kernel_rfl, by kernel_rfl, by kernel_rfl, by decide, by kernel_rfl⟩⟩
theorem sz29 : (Tryd.prog.info? 29).map (·.size) = some 1 := by kernel_rfl
theorem zr24 : (Tryd.prog.info? 24).bind (·.zero) = some (.int .i64 0) := by kernel_rfl
theorem zr3 : (Tryd.prog.info? 3).bind (·.zero) = some (.int .i64 0) := by kernel_rfl
theorem sz3 : (Tryd.prog.info? 3).map (·.size) = some 1 := by kernel_rfl
theorem sz24 : (Tryd.prog.info? 24).map (·.size) = some 1 := by kernel_rfl
theorem zr4 : (Tryd.prog.info? 4).bind (·.zero) = some (.bool false) := by kernel_rfl
theorem sz4 : (Tryd.prog.info? 4).map (·.size) = some 1 := by kernel_rfl
set_option maxHeartbeats 1000000 in
theorem ok_dots_lines (b : (List Int)) (r : (List Int)) (h : Sh.dots_lines b = some r) : FnOK Tryd.prog 22 [.fl .shr 1 (List.map (Value.int .u8) b)] (.cloB 29 [.box 22 [.fl .shr 1 (List.map (Value.int .u8) r)]]) := by
  unfold Sh.dots_lines at h
  refine fn_ok Tryd.func22 rfl (zl rfl) rfl rfl fun g0 hn hio => ?_
  refine ht_seq ?_
  refine zh hn [_, (1, .box 22 [.fl .shr 1 (List.map (Value.int .u8) b)]), (2, .v (.nilFunc))] [0] [1] [zq [0] 1 1, zq [] 2 2] [(_,_)] (by kernel_rfl) rfl rfl ⟨zp rfl (op_box _ _ _ _ rfl rfl rfl),za rfl rfl rfl,trivial⟩ ?_
  refine pt_then ?_
  refine ht_seq ?_
  refine zh hn [_, (3, .cloB 29 [.box 22 [.fl .shr 1 (List.map (Value.int .u8) b)]]), (2, .cloB 29 [.box 22 [.fl .shr 1 (List.map (Value.int .u8) b)]])] [0] [2] [⟨[], [0], [1], [(.slot 3)]⟩, ⟨[], [1], [2], [(.slot 2)]⟩] [(_,_)] (by kernel_rfl) rfl rfl ⟨zp rfl (op_mkclo _ _ [1] [.box 22 [.fl .shr 1 (List.map (Value.int .u8) b)]] rfl rfl rfl),zp rfl (op_assign_take _ _ _ _ rfl),trivial⟩ ?_
  refine pt_then ?_
  refine ht_ret ?_
  obtain rfl := Option.some.inj h
  exact pt_ret hio rfl (.tmp _ _ .nil) rfl rfl
theorem ok_bytes_Index (mx : Int) (s sep : List Int) (r : Int) (h : Sh.bytes_Index s sep = some r) : FnG Tryd.prog (GL mx) 33 [.fl .shr 1 (List.map (Value.int .u8) s), .fl .shr 1 (List.map (Value.int .u8) sep)] (.v (.int .i64 r)) :=
  lib_bytes_Index (gl_mem0 mx) Tryd.bytes_Index_at Tryd.bytes_Index_longer s sep r h
set_option maxHeartbeats 1000000 in
theorem ok_bytes_Cut_sh (mx : Int) (s : (List Int)) (sep : (List Int)) (r : ((List Int) × (List Int) × Bool)) (h : Sh.bytes_Cut_sh s sep = some r) : FnG Tryd.prog (GL mx) 30 [.fl .shr 1 (List.map (Value.int .u8) s), .fl .shr 1 (List.map (Value.int .u8) sep)] (.tup [.fl .shr 1 (List.map (Value.int .u8) r.1), .fl .shr 1 (List.map (Value.int .u8) r.2.1), .v (.bool r.2.2)]) := by
  unfold Sh.bytes_Cut_sh at h
  refine fn_okG Tryd.func30 rfl (zl rfl) rfl rfl fun g0 hn hio => ?_
  refine ht_seq ?_
  refine zh hn [_, _, _, (4, .v (.slice none 0 0)), (5, .v (.slice none 0 0)), (6, .v (.bool false))] [0,1,2] [0,1,2] [zq [] 3 4, zq [] 4 5, zq [] 5 6] [(_,_),(_,_),(_,_)] (by kernel_rfl) rfl rfl ⟨za rfl rfl rfl,za rfl rfl rfl,za rfl rfl rfl,trivial⟩ ?_
  refine pt_then ?_
  refine ht_seq ?_
  refine ht_seq ?_
  obtain ⟨v1, hv1, h⟩ := bind_some h
  refine zh hn [_, _, _, (8, .fl .shr 1 (List.map (Value.int .u8) s)), (9, .fl .shr 1 (List.map (Value.int .u8) sep)), (10, .v (.int .i64 v1)), (7, .v (.int .i64 v1))] [0,1,2] [0,1,2,6] [zq [0] 3 8, zq [1] 4 9, zq [3,4,2] 5 10, zq [5] 6 7] [(_,_),(_,_),(_,_),(_,_)] (by kernel_rfl) rfl rfl ⟨zm rfl rfl rfl,zm rfl rfl rfl,zp rfl (op_callG _ _ 23 33 _ _ rfl Tryd.call33 rfl rfl (fun _ h => h) (ok_bytes_Index mx s sep _ hv1) rfl rfl),za rfl rfl rfl,trivial⟩ ?_
  refine pt_then ?_
  refine ht_seq ?_
  refine zh hn [_, _, _, _, (11, .v (.int .i64 v1)), (12, .v (.bool ((decide (0 ≤ v1)))))] [0,1,2,3] [0,1,2,3,5] [zq [3] 4 11, zq [4] 5 12] [(_,_),(_,_),(_,_),(_,_),(_,_)] (by kernel_rfl) rfl rfl ⟨zm rfl rfl rfl,zo rfl rfl rfl rfl,trivial⟩ ?_
  refine pt_then ?_
  refine ht_cond _ rfl (fun hb2 => ?_) (fun hb2 => ?_)
  ·have h := cond_t hb2 h
   refine ht_seq ?_
   obtain ⟨v3, hv3, h⟩ := bind_some h
   obtain ⟨v4, hv4, h⟩ := bind_some h
   obtain ⟨v5, hv5, h⟩ := bind_some h
   refine ht_anyR (by kernel_rfl) hn (El := (_ :: _ :: _ :: _ :: _ :: (13, .fl .shr 1 (List.map (Value.int .u8) s)) :: (14, .v (.int .i64 v1)) :: (15, .fl .shr 1 (List.map (Value.int .u8) v3)) :: (16, .fl .shr 1 (List.map (Value.int .u8) s)) :: (17, .v (.int .i64 v1)) :: (18, .fl .shr 1 (List.map (Value.int .u8) sep)) :: (19, .v (.int .i64 (sep.length : Int))) :: (20, .v (.int .i64 v4)) :: (21, .fl .shr 1 (List.map (Value.int .u8) v5)) :: (4, .fl .shr 1 (List.map (Value.int .u8) v3)) :: (5, .fl .shr 1 (List.map (Value.int .u8) v5)) :: (6, .v (.bool true)) :: [])) (init := [0, 1, 2, 3, 4]) (fin := [2, 14, 15, 16]) (sps := [zq [0] 5 13, zq [3] 6 14, zq [5,6] 7 15, zq [0] 8 16, zq [3] 9 17, zq [1] 10 18, zq [10] 11 19, zq [9,11] 12 20, zq [8,12] 13 21, zq [7] 14 4, zq [13] 15 5, zq [] 16 6]) (es' := [(_, _), (4, .fl .shr 1 (List.map (Value.int .u8) v3)), (5, .fl .shr 1 (List.map (Value.int .u8) v5)), (6, .v (.bool true))]) (by kernel_rfl) rfl rfl ⟨zm rfl rfl rfl,zm rfl rfl rfl,zp rfl (op_sl _ _ _ 0 v1 _ Tryd.underlying22 sz5 rfl rfl rfl ⟨_, rfl⟩ hv3),zm rfl rfl rfl,zm rfl rfl rfl,zm rfl rfl rfl,zp rfl (op_len_fl _ _ _ Tryd.underlying22 rfl (by decide) (map_len _)),zp rfl (op_bin _ _ _ _ _ rfl rfl (ibind (f := Value.int .i64) (Option.some.inj hv4))),zp rfl (op_sl _ _ _ v4 (s.length : Int) _ Tryd.underlying22 sz5 rfl rfl ⟨_, rfl⟩ rfl hv5),za rfl rfl rfl,za rfl rfl rfl,za rfl rfl rfl,trivial⟩ ?_
   refine pt_then ?_
   refine ht_ret ?_
   refine pt_pick [1, 2, 3] (by kernel_rfl) (es' := [(_, _), (_, _), (_, _)]) rfl ?_
   refine pt_r_then ?_
   obtain rfl := Option.some.inj h
   exact pt_ret hio rfl (.tmp _ _ (.tmp _ _ (.tmp _ _ .nil))) rfl rfl
  ·have h := cond_f hb2 h
   refine ht_skip ?_
   refine pt_then ?_
   refine ht_seq ?_
   refine zh hn [_, _, _, _, _, (22, .fl .shr 1 (List.map (Value.int .u8) s)), (4, .fl .shr 1 (List.map (Value.int .u8) s)), (5, .v (.slice none 0 0)), (6, .v (.bool false))] [0,1,2,3,4] [2,6,7,8] [zq [0] 5 22, zq [5] 6 4, zq [] 7 5, zq [] 8 6] [(_,_),(_,_),(_,_),(_,_)] (by kernel_rfl) rfl rfl ⟨zm rfl rfl rfl,za rfl rfl rfl,za rfl rfl rfl,za rfl rfl rfl,trivial⟩ ?_
   refine pt_then ?_
   refine ht_ret ?_
   refine pt_pick [1, 2, 3] (by kernel_rfl) (es' := [(_, _), (_, _), (_, _)]) rfl ?_
   refine pt_sub (fs := [(4, .fl .shr 1 (List.map (Value.int .u8) s)), (5, .fl .shr 1 (List.map (Value.int .u8) [])), (6, .v (.bool false))]) (.same _ (.sub _ (sub_nil_shr 1) rfl (.same _ .nil))) ?_
   obtain rfl := Option.some.inj h
   exact pt_ret hio rfl (.tmp _ _ (.tmp _ _ (.tmp _ _ .nil))) rfl rfl
set_option maxHeartbeats 1000000 in
theorem ok_dots_lines_1 (mx : Int) (l : Nat) {S : Type} (J : S → InvT) (Y : (List Int) → S → Option (S × Bool)) (hY : YieldOK Tryd.prog l (fun x => .fl .shr 1 (List.map (Value.int .u8) x)) Y J) (c0 : (List Int)) (st r : S) (h : Sh.dots_lines_1 Y c0 st = some r) : FnI Tryd.prog (GL mx) 29 l [.box 22 [.fl .shr 1 (List.map (Value.int .u8) c0)]] (J st) (J r) := by
  unfold Sh.dots_lines_1 at h
  refine fn_okI Tryd.func29 rfl (zl rfl) rfl fun g0 hn hio => ?_
  refine ht_loopS h (fun ((s17, s18) : (List Int) × S) => [(0, .v (.func (.yield l) #[] #[])), (1, .box 22 [.fl .shr 1 (List.map (Value.int .u8) s17)]), (23, .glob (GL mx)), (24, .inv (J s18))]) (fun (() : Unit) => []) ?_ ?_
  ·rintro ⟨⟩ h
   cases h
  ·rintro u25 hl26 hr27 ⟨s17, s18⟩ rr30 h ho28
   refine ht_block ?_
   refine ht_seq ?_
   obtain ⟨v1, hv1, h⟩ := bind_some h
   refine zh hn (_ :: _ :: _ :: _ :: (7, .fl .shr 1 (List.map (Value.int .u8) s17)) :: (8, .fl (.own 5) 1 (List.map (Value.int .u8) [13, 10])) :: (9, .fl .ro 1 (List.map (Value.int .u8) [13, 10])) :: (10, .tup [.fl .shr 1 (List.map (Value.int .u8) v1.1), .fl .shr 1 (List.map (Value.int .u8) v1.2.1), .v (.bool v1.2.2)]) :: (6, .tup [.fl .shr 1 (List.map (Value.int .u8) v1.1), .fl .shr 1 (List.map (Value.int .u8) v1.2.1), .v (.bool v1.2.2)]) :: (11, .fl .shr 1 (List.map (Value.int .u8) v1.1)) :: (12, .fl .shr 1 (List.map (Value.int .u8) v1.2.1)) :: (13, .v (.bool v1.2.2)) :: (3, .fl .shr 1 (List.map (Value.int .u8) v1.1)) :: (4, .fl .shr 1 (List.map (Value.int .u8) v1.2.1)) :: (5, .v (.bool v1.2.2)) :: []) [0,1,2,3] [0,1,2,3,12,13,14] [zq [1] 4 7, zq [] 5 8, ⟨[], [5], [6], [(.slot 9)]⟩, zq [4,6,2] 7 10, ⟨[], [7], [8], [(.slot 6)]⟩, zq [8] 9 11, zq [8] 10 12, zq [8] 11 13, zq [9] 12 3, zq [10] 13 4, zq [11] 14 5] [(_,_),(_,_),(_,_),(_,_),(_,_),(_,_),(_,_)] (by kernel_rfl) rfl rfl ⟨zp rfl (op_load _ _ _ _ _ _ Tryd.underlying22 rfl rfl rfl (zl rfl) rfl rfl rfl),zp rfl (op_buildSlice _ _ 1 (.int .u8 0) (List.map (Value.int .u8) [13, 10]) [(0, .int .u8 13), (1, .int .u8 10)] Tryd.underlying22 sz5 zr5 (fun _ V w o a hv hes => by simp only [List.map_toArray, List.map_cons, List.map_nil]; try rfl) (litfill (by simp [Instr.fill, Value.cells]; rfl) (by simp [List.range, List.range.loop] <;> rfl)) (by simp [Value.oneCell']) rfl (by decide) (by decide) (by decide)),zp rfl (op_conv_mark _ _ _ Tryd.underlying22 Tryd.underlying5 (by intro h; cases h)),zp rfl (op_callSG _ _ 23 30 _ _ rfl Tryd.call30 rfl rfl rfl (fun _ h => h) (ok_bytes_Cut_sh mx s17 [13, 10] _ hv1) rfl),zp rfl (op_move_take _ _ _ _ rfl),zp rfl (op_extract _ _ _ _ _ rfl rfl (zl rfl) rfl rfl),zp rfl (op_extract _ _ _ _ _ rfl rfl (zl rfl) rfl rfl),zp rfl (op_extract _ _ _ _ _ rfl rfl (zl rfl) rfl rfl),za rfl rfl rfl,za rfl rfl rfl,za rfl rfl rfl,trivial⟩ ?_
   refine pt_then ?_
   refine ht_seq ?_
   refine ht_seq ?_
   refine ht_joinS h (fun ((s31, s32) : S × Bool) => [(0, .v (.func (.yield l) #[] #[])), (1, .box 22 [.fl .shr 1 (List.map (Value.int .u8) s17)]), (23, .glob (GL mx)), (24, .inv (J s31)), (4, .fl .shr 1 (List.map (Value.int .u8) v1.2.1)), (21, .v (.bool s32))]) ?_ ?_
   ·rintro ⟨s31, s32⟩ h
    refine pt_then ?_
    refine ht_cond _ rfl (fun hb36 => ?_) (fun hb36 => ?_)
    ·have h := cond_t hb36 h
     refine ht_ret ?_
     refine pt_pick [3] (by kernel_rfl) (es' := [(24, .inv (J s31))]) rfl ?_
     refine pt_r_then ?_
     refine pt_r_in ?_
     refine pt_r_then ?_
     refine pt_r_in ?_
     have h := hr27 _ (ho28 _ (Option.some.inj h).symm).symm
     obtain rfl := Option.some.inj h
     exact pt_retI hio rfl rfl rfl
    ·have h := cond_f hb36 h
     refine ht_skip ?_
     refine pt_then ?_
     refine zh hn [_, _, _, _, _, _, (22, .fl .shr 1 (List.map (Value.int .u8) v1.2.1)), (1, .box 22 [.fl .shr 1 (List.map (Value.int .u8) v1.2.1)])] [0,1,2,3,4,5] [0,7,2,3] [zq [4] 6 22, ⟨[6], [1], [7], [.cell 1 0]⟩] [(_,_),(_,_),(_,_),(_,_)] (by kernel_rfl) rfl rfl ⟨zm rfl rfl rfl,zp rfl (op_store _ _ _ _ _ _ _ _ sz22 rfl rfl rfl rfl (zl rfl) rfl rfl),trivial⟩ ?_
     refine pt_inb ?_
     exact pt_next _ (Option.some.inj h).symm rfl
   ·intro u33 h hl34 hr35
    refine cond_some h (fun hg1_2 h => ?_) (fun hg1_2 h => ?_)
    ·refine zh hn (_ :: _ :: _ :: _ :: _ :: _ :: _ :: (14, .v (.bool v1.2.2)) :: (15, .v (.bool (!v1.2.2))) :: (16, .v (.bool true)) :: (17, .v undef) :: (18, .v undef) :: (19, .v undef) :: (20, .v undef) :: (21, .v (.bool true)) :: []) [0,1,2,3,4,5,6] [0,1,2,3,5,14] [zq [6] 7 14, zq [7] 8 15, zq [8] 9 16, zq [9] 10 17, zq [9] 11 18, zq [9] 12 19, zq [9] 13 20, zq [9] 14 21] [(_,_),(_,_),(_,_),(_,_),(_,_),(_,_)] (by kernel_rfl) rfl rfl ⟨zm rfl rfl rfl,zp rfl (op_un _ _ _ _ rfl rfl),zm rfl (zb hg1_2) rfl,zs 2 false rfl rfl rfl rfl,zs 2 false rfl rfl rfl rfl,zs 2 false rfl rfl rfl rfl,zs 2 false rfl rfl rfl rfl,zk true rfl rfl rfl,trivial⟩ ?_
     exact hl34 _ (Option.some.inj h).symm
    ·obtain ⟨v2, hv2, h⟩ := bind_some h
     refine zh hn (_ :: _ :: _ :: _ :: _ :: _ :: _ :: (14, .v (.bool v1.2.2)) :: (15, .v (.bool (!v1.2.2))) :: (16, .v (.bool false)) :: (17, .v (.func (.yield l) #[] #[])) :: (18, .fl .shr 1 (List.map (Value.int .u8) v1.1)) :: (19, .v (.bool v2.2)) :: (24, .inv (J v2.1)) :: (20, .v (.bool (!v2.2))) :: (21, .v (.bool (!v2.2))) :: []) [0,1,2,3,4,5,6] [0,1,2,13,5,15] [zq [6] 7 14, zq [7] 8 15, zq [8] 9 16, zq [9,0] 10 17, zq [9,4] 11 18, ⟨[9, 11, 10], [3], [13, 12], [(.slot 19)]⟩, zq [9,12] 14 20, zq [9,14] 15 21] [(_,_),(_,_),(_,_),(_,_),(_,_),(_,_)] (by kernel_rfl) rfl rfl ⟨zm rfl rfl rfl,zp rfl (op_un _ _ _ _ rfl rfl),zm rfl (zb hg1_2) rfl,zr 2 rfl rfl rfl (op_move _ _ _ _ rfl rfl),zr 2 rfl rfl rfl (op_move _ _ _ _ rfl rfl),zr 2 rfl rfl rfl (op_yield _ _ 24 l v1.1 s18 v2 hY hv2 rfl rfl rfl),zr 2 rfl rfl rfl (op_un _ _ _ _ rfl rfl),zk false rfl rfl rfl,trivial⟩ ?_
     exact hl34 _ (Option.some.inj h).symm
set_option maxHeartbeats 1000000 in
theorem ok_dots_Lines (mx : Int) (b : (List Int)) (r : (List (List Int))) (h : Sh.dots_Lines b = some r) : FnG Tryd.prog (GL mx) 14 [.fl .shr 1 (List.map (Value.int .u8) b)] (.fr .ro false 1 (List.flatten (List.map Row_int_u8.ienc r))) := by
  unfold Sh.dots_Lines at h
  refine fn_okG Tryd.func14 rfl (zl rfl) rfl rfl fun g0 hn hio => ?_
  refine ht_seq ?_
  refine zh hn [_, _, (2, .v (.slice none 0 0))] [0,1] [0,1] [zq [] 2 2] [(_,_),(_,_)] (by kernel_rfl) rfl rfl ⟨za rfl rfl rfl,trivial⟩ ?_
  refine pt_then ?_
  refine ht_seq ?_
  refine zh hn [_, _, (3, .box 29 [.v (.slice none 0 0)])] [0,1] [0,1,2] [zq [] 2 3] [(_,_),(_,_),(_,_)] (by kernel_rfl) rfl rfl ⟨zp rfl (op_alloc _ _ zr29),trivial⟩ ?_
  refine pt_then ?_
  refine ht_seq ?_
  refine ht_seq ?_
  obtain ⟨v1, hv1, h⟩ := bind_some h
  refine zh hn [_, _, _, (5, .fl .shr 1 (List.map (Value.int .u8) b)), (6, .cloB 29 [.box 22 [.fl .shr 1 (List.map (Value.int .u8) v1)]])] [0,1,2] [1,2,4] [zq [0] 3 5, zq [3] 4 6] [(_,_),(_,_),(_,_)] (by kernel_rfl) rfl rfl ⟨zm rfl rfl rfl,zp rfl (op_callS _ _ 22 _ _ rfl Tryd.call22 rfl rfl (ok_dots_lines b _ hv1) rfl),trivial⟩ ?_
  refine pt_then ?_
  refine ht_block ?_
  refine ht_pick [2, 0, 1] (by kernel_rfl) (es' := [(6, .cloB 29 [.box 22 [.fl .shr 1 (List.map (Value.int .u8) v1)]]), (14, .glob (GL mx)), (3, .box 29 [.v (.slice none 0 0)])]) rfl ?_
  refine ht_sub (fs := [(6, .cloB 29 [.box 22 [.fl .shr 1 (List.map (Value.int .u8) v1)]]), (14, .glob (GL mx)), (3, .box 29 [.fr (.own 22) false 1 (List.flatten (List.map Row_int_u8.ienc []))])]) (.same _ (.same _ (.box _ _ (subs_cons (sub_nil_fr 22 false 1) (subs_nil)) rfl .nil))) ?_
  refine ht_rangeF h 29 6 7 15 _ [14, 3] Tryd.call29 (fun (s7 : (List (List Int))) => [(14, .glob (GL mx)), (3, .box 29 [.fr (.own 22) false 1 (List.flatten (List.map Row_int_u8.ienc s7))])]) (fun (() : Unit) => []) (fun l J Y hY t t' h => ok_dots_lines_1 mx l J Y hY v1 t t' h) hn rfl (fun _ => rfl) (fun _ => rfl) (fun _ => rfl) rfl rfl (fun _ => ⟨rfl, rfl⟩) rfl (glIn_look 14 rfl) ?_ ?_ ?_
  ·rintro kk g0 hn hio x s7 u h
   refine ht_es (es' := [(7, .fl .shr 1 (List.map (Value.int .u8) x)), (14, .glob (GL mx)), (3, .box 29 [.fr (.own 22) false 1 (List.flatten (List.map Row_int_u8.ienc s7))]), (14, .v (kk.tm.getD 14 undef)), (3, .v (kk.tm.getD 3 undef)), (15, .inv kk.ready)]) rfl ?_
   refine zh hn [_, _, _, _, _, _, (4, .fl .shr 1 (List.map (Value.int .u8) x))] [0,1,2,3,4,5] [1,2,3,4,5,6] [zq [0] 6 4] [(_,_),(_,_),(_,_),(_,_),(_,_),(_,_)] (by kernel_rfl) rfl rfl ⟨za rfl rfl rfl,trivial⟩ ?_
   refine pt_pick [0, 1, 2, 3, 5, 4] (by kernel_rfl) (es' := [(14, .glob (GL mx)), (3, .box 29 [.fr (.own 22) false 1 (List.flatten (List.map Row_int_u8.ienc s7))]), (14, .v (kk.tm.getD 14 undef)), (3, .v (kk.tm.getD 3 undef)), (4, .fl .shr 1 (List.map (Value.int .u8) x)), (15, .inv kk.ready)]) rfl ?_
   refine pt_begin (es := [(14, .glob (GL mx)), (3, .box 29 [.fr (.own 22) false 1 (List.flatten (List.map Row_int_u8.ienc s7))]), (14, .v (kk.tm.getD 14 undef)), (3, .v (kk.tm.getD 3 undef)), (4, .fl .shr 1 (List.map (Value.int .u8) x))]) 15 rfl ?_
   refine ht_block ?_
   obtain ⟨v2, hv2, h⟩ := bind_some h
   obtain ⟨v3, hv3, h⟩ := bind_some h
   refine ht_anyR (by kernel_rfl) hn (El := [_, _, _, _, _, _, (8, .same (.cell 3 0)), (9, .fl .shr 1 (List.map (Value.int .u8) x)), (10, .fl .ro 1 (List.map (Value.int .u8) v2)), (11, .fr (.own 22) false 1 (List.flatten (List.map Row_int_u8.ienc [v2]))), (12, .fr (.own 22) false 1 (List.flatten (List.map Row_int_u8.ienc v3))), (3, .box 29 [.any]), (3, .box 29 [.fr (.own 22) false 1 (List.flatten (List.map Row_int_u8.ienc v3))])]) (init := [0, 1, 2, 3, 4, 5]) (fin := [0, 12, 2, 3, 5]) (sps := [zq [1] 6 8, zq [4] 7 9, zq [7] 8 10, zq [8] 9 11, ⟨[6, 9], [1], [11, 10], [(.slot 12)]⟩, ⟨[], [6, 10, 11], [12], [.cell 3 0]⟩]) (es' := [(_, _), (3, .box 29 [.fr (.own 22) false 1 (List.flatten (List.map Row_int_u8.ienc v3))]), (_, _), (_, _), (_, _)]) (by kernel_rfl) rfl rfl ⟨zp rfl (op_load _ _ _ _ _ _ Tryd.underlying29 rfl rfl rfl (zl rfl) rfl rfl rfl),zm rfl rfl rfl,zp rfl (LOp.frzG 0 (op_app_nil _ _ _ _ el22 rfl rfl (map_len _) hv2 (congrArg (List.map _) (app_nil_eq hv2))) (zl rfl) rfl),zp rfl (op_build1_fr _ _ _ 1 (.slice none 0 0) false _ _ Tryd.underlying29 sz22 zr22 rfl rfl (.cons (.ro _ _ rfl) (.nil)) rfl (by decide) (by decide)),zp rfl (op_app_fr_cell _ 12 3 0 _ _ el29 rfl rfl (zl rfl) rfl (gflat_len Row_int_u8.ilen _) (gflat_len Row_int_u8.ilen _) hv3 (gflat_app (app_eq hv3)) (by decide) (by decide) (by decide) rfl rfl),zp rfl (LOp.drop [_] (op_store_take _ _ _ _ _ _ _ _ sz29 rfl rfl rfl (zl rfl) rfl rfl)),trivial⟩ ?_
   refine pt_inb ?_
   obtain rfl := Option.some.inj h
   exact pt_rnext 15 [14, 3] _ rfl rfl (by kernel_rfl)
  ·rintro D s7 h
   refine pt_inb ?_
   refine pt_then ?_
   refine ht_seq ?_
   refine ht_frz 1 hio (es' := [(14, .glob (GL mx)), (3, .box 29 [.fr .ro false 1 (List.flatten (List.map Row_int_u8.ienc s7))])]) rfl ?_
   refine zh hn [_, _, (13, .fr .ro false 1 (List.flatten (List.map Row_int_u8.ienc s7))), (2, .fr .ro false 1 (List.flatten (List.map Row_int_u8.ienc s7)))] [0,1] [0,3] [zq [1] 2 13, zq [2] 3 2] [(_,_),(_,_)] (by kernel_rfl) rfl rfl ⟨zp rfl (op_load _ _ _ _ _ _ Tryd.underlying29 rfl rfl rfl (zl rfl) rfl rfl rfl),za rfl rfl rfl,trivial⟩ ?_
   refine pt_then ?_
   refine ht_ret ?_
   refine pt_pick [1] (by kernel_rfl) (es' := [(_, _)]) rfl ?_
   obtain rfl := Option.some.inj h
   exact pt_ret hio rfl (.tmp _ _ .nil) rfl rfl
  ·rintro D ⟨⟩ h
   cases h
theorem ok_bytes_IndexAny (mx : Int) (s : List Int) (c : ByteArray) (r : Int) (h : Sh.bytes_IndexAny s c = some r) : FnG Tryd.prog (GL mx) 32 [.fl .shr 1 (List.map (Value.int .u8) s), .v (.string c)] (.v (.int .i64 r)) :=
  lib_bytes_IndexAny (gl_mem0 mx) (gl_mem1 mx) (gl_mem2 mx) (fun s b off c w hs hnc hb hm hmb k1 k2 HG hp => Tryd.idx_crlf s b off c w mx hs hnc hb hm hmb (tabs_lists utf8_first utf8_accept (by kernel_rfl) (by kernel_rfl) k1 k2) HG hp) Tryd.idx_none s c r h
set_option maxHeartbeats 1000000 in
theorem ok_bytes_ContainsAny (mx : Int) (b : (List Int)) (chars : ByteArray) (r : Bool) (h : Sh.bytes_ContainsAny b chars = some r) : FnG Tryd.prog (GL mx) 28 [.fl .shr 1 (List.map (Value.int .u8) b), .v (.string chars)] (.v (.bool r)) := by
  unfold Sh.bytes_ContainsAny at h
  refine fn_okG Tryd.func28 rfl (zl rfl) rfl rfl fun g0 hn hio => ?_
  refine ht_seq ?_
  refine zh hn [_, _, _, (4, .v (.bool false))] [0,1,2] [0,1,2] [zq [] 3 4] [(_,_),(_,_),(_,_)] (by kernel_rfl) rfl rfl ⟨za rfl rfl rfl,trivial⟩ ?_
  refine pt_then ?_
  refine ht_seq ?_
  obtain ⟨v1, hv1, h⟩ := bind_some h
  refine zh hn [_, _, _, (5, .fl .shr 1 (List.map (Value.int .u8) b)), (6, .v (.string chars)), (7, .v (.int .i64 v1)), (8, .v (.bool ((decide (0 ≤ v1))))), (4, .v (.bool ((decide (0 ≤ v1)))))] [0,1,2] [2,7] [zq [0] 3 5, zq [1] 4 6, zq [3,4,2] 5 7, zq [5] 6 8, zq [6] 7 4] [(_,_),(_,_)] (by kernel_rfl) rfl rfl ⟨zm rfl rfl rfl,zm rfl rfl rfl,zp rfl (op_callG _ _ 9 32 _ _ rfl Tryd.call32 rfl rfl (fun _ h => h) (ok_bytes_IndexAny mx b chars _ hv1) rfl rfl),zo rfl rfl rfl rfl,za rfl rfl rfl,trivial⟩ ?_
  refine pt_then ?_
  refine ht_ret ?_
  refine pt_pick [1] (by kernel_rfl) (es' := [(_, _)]) rfl ?_
  obtain rfl := Option.some.inj h
  exact pt_ret hio rfl (.tmp _ _ .nil) rfl rfl
set_option maxHeartbeats 1000000 in
theorem ok_dots_Check (mx : Int) (b : (List Int)) (r : Int) (h : Sh.dots_Check b = some r) : FnG Tryd.prog (GL mx) 17 [.fl .shr 1 (List.map (Value.int .u8) b)] (.v (.int .i64 r)) := by
  unfold Sh.dots_Check at h
  refine fn_okG Tryd.func17 rfl (zl rfl) rfl rfl fun g0 hn hio => ?_
  refine ht_seq ?_
  refine zh hn [_, _, (2, .box 24 [.v (.int .i64 0)])] [0,1] [0,1,2] [zq [] 2 2] [(_,_),(_,_),(_,_)] (by kernel_rfl) rfl rfl ⟨zp rfl (op_alloc _ _ zr24),trivial⟩ ?_
  refine pt_then ?_
  refine ht_seq ?_
  refine zh hn [_, _, _, (3, .box 3 [.v (.int .i64 0)]), (3, .box 3 [.v (.int .i64 0)])] [0,1,2] [0,1,2,4] [zq [] 3 3, ⟨[], [3], [4], [.cell 3 0]⟩] [(_,_),(_,_),(_,_),(_,_)] (by kernel_rfl) rfl rfl ⟨zp rfl (op_alloc _ _ zr3),zp rfl (op_store _ _ _ _ _ _ _ _ sz3 rfl rfl rfl rfl (zl rfl) rfl rfl),trivial⟩ ?_
  refine pt_then ?_
  refine ht_seq ?_
  refine ht_seq ?_
  obtain ⟨v1, hv1, h⟩ := bind_some h
  refine zh hn [_, _, _, _, (5, .fl .shr 1 (List.map (Value.int .u8) b)), (6, .cloB 29 [.box 22 [.fl .shr 1 (List.map (Value.int .u8) v1)]])] [0,1,2,3] [0,1,2,3,5] [zq [0] 4 5, zq [4] 5 6] [(_,_),(_,_),(_,_),(_,_),(_,_)] (by kernel_rfl) rfl rfl ⟨zm rfl rfl rfl,zp rfl (op_callS _ _ 22 _ _ rfl Tryd.call22 rfl rfl (ok_dots_lines b _ hv1) rfl),trivial⟩ ?_
  refine pt_then ?_
  refine ht_block ?_
  refine ht_pick [4, 0, 1, 2, 3] (by kernel_rfl) (es' := [(6, .cloB 29 [.box 22 [.fl .shr 1 (List.map (Value.int .u8) v1)]]), (0, .fl .shr 1 (List.map (Value.int .u8) b)), (19, .glob (GL mx)), (2, .box 24 [.v (.int .i64 0)]), (3, .box 3 [.v (.int .i64 0)])]) rfl ?_
  refine ht_rangeF h 29 6 7 20 _ [0, 19, 2, 3] Tryd.call29 (fun (s8 : Int) => [(0, .fl .shr 1 (List.map (Value.int .u8) b)), (19, .glob (GL mx)), (2, .box 24 [.v (.int .i64 0)]), (3, .box 3 [.v (.int .i64 s8)])]) (fun (s10 : Int) => [(0, .fl .shr 1 (List.map (Value.int .u8) b)), (19, .glob (GL mx)), (2, .box 24 [.v (.int .i64 5)]), (3, .box 3 [.v (.int .i64 s10)])]) (fun l J Y hY t t' h => ok_dots_lines_1 mx l J Y hY v1 t t' h) hn rfl (fun _ => rfl) (fun _ => rfl) (fun _ => rfl) rfl rfl (fun _ => ⟨rfl, rfl⟩) rfl (glIn_look 19 rfl) ?_ ?_ ?_
  ·rintro kk g0 hn hio x s8 u h
   refine ht_es (es' := [(7, .fl .shr 1 (List.map (Value.int .u8) x)), (0, .fl .shr 1 (List.map (Value.int .u8) b)), (19, .glob (GL mx)), (2, .box 24 [.v (.int .i64 0)]), (3, .box 3 [.v (.int .i64 s8)]), (0, .v (kk.tm.getD 0 undef)), (19, .v (kk.tm.getD 19 undef)), (2, .v (kk.tm.getD 2 undef)), (3, .v (kk.tm.getD 3 undef)), (20, .inv kk.ready)]) rfl ?_
   refine zh hn [_, _, _, _, _, _, _, _, _, _, (4, .fl .shr 1 (List.map (Value.int .u8) x))] [0,1,2,3,4,5,6,7,8,9] [1,2,3,4,5,6,7,8,9,10] [zq [0] 10 4] [(_,_),(_,_),(_,_),(_,_),(_,_),(_,_),(_,_),(_,_),(_,_),(_,_)] (by kernel_rfl) rfl rfl ⟨za rfl rfl rfl,trivial⟩ ?_
   refine pt_pick [0, 1, 2, 3, 4, 5, 6, 7, 9, 8] (by kernel_rfl) (es' := [(0, .fl .shr 1 (List.map (Value.int .u8) b)), (19, .glob (GL mx)), (2, .box 24 [.v (.int .i64 0)]), (3, .box 3 [.v (.int .i64 s8)]), (0, .v (kk.tm.getD 0 undef)), (19, .v (kk.tm.getD 19 undef)), (2, .v (kk.tm.getD 2 undef)), (3, .v (kk.tm.getD 3 undef)), (4, .fl .shr 1 (List.map (Value.int .u8) x)), (20, .inv kk.ready)]) rfl ?_
   refine pt_begin (es := [(0, .fl .shr 1 (List.map (Value.int .u8) b)), (19, .glob (GL mx)), (2, .box 24 [.v (.int .i64 0)]), (3, .box 3 [.v (.int .i64 s8)]), (0, .v (kk.tm.getD 0 undef)), (19, .v (kk.tm.getD 19 undef)), (2, .v (kk.tm.getD 2 undef)), (3, .v (kk.tm.getD 3 undef)), (4, .fl .shr 1 (List.map (Value.int .u8) x))]) 20 rfl ?_
   refine ht_block ?_
   refine ht_seq ?_
   refine ht_seq ?_
   obtain ⟨v2, hv2, h⟩ := bind_some h
   refine zh hn [_, _, _, _, _, _, _, _, _, _, (8, .fl .shr 1 (List.map (Value.int .u8) x)), (9, .v (.bool v2))] [0,1,2,3,4,5,6,7,8,9] [0,1,2,3,4,5,6,7,8,9,11] [zq [8] 10 8, zq [10,1] 11 9] [(_,_),(_,_),(_,_),(_,_),(_,_),(_,_),(_,_),(_,_),(_,_),(_,_),(_,_)] (by kernel_rfl) rfl rfl ⟨zm rfl rfl rfl,zp rfl (op_callG _ _ 19 28 _ _ rfl Tryd.call28 rfl rfl (fun _ h => h) (ok_bytes_ContainsAny mx x (⟨#[13, 10]⟩ : ByteArray) _ hv2) rfl rfl),trivial⟩ ?_
   refine pt_then ?_
   refine ht_cond _ rfl (fun hb11 => ?_) (fun hb11 => ?_)
   ·have h := cond_t hb11 h
    refine ht_seq ?_
    refine zh hn [_, _, _, _, _, _, _, _, _, _, _, (2, .box 24 [.v (.int .i64 5)])] [0,1,2,3,4,5,6,7,8,9,10] [0,1,11,3,4,5,6,7,9] [⟨[], [2], [11], [.cell 2 0]⟩] [(_,_),(_,_),(_,_),(_,_),(_,_),(_,_),(_,_),(_,_),(_,_)] (by kernel_rfl) rfl rfl ⟨zp rfl (op_store _ _ _ _ _ _ _ _ sz24 rfl rfl rfl rfl (zl rfl) rfl rfl),trivial⟩ ?_
    refine pt_then ?_
    refine ht_ret ?_
    refine pt_r_then ?_
    refine pt_r_in ?_
    obtain rfl := Option.some.inj h
    exact pt_rret 20 [0, 19, 2, 3] _ rfl rfl (by kernel_rfl)
   ·have h := cond_f hb11 h
    refine ht_skip ?_
    refine pt_then ?_
    obtain ⟨v4, hv4, h⟩ := bind_some h
    obtain ⟨v5, hv5, h⟩ := bind_some h
    refine zh hn (_ :: _ :: _ :: _ :: _ :: _ :: _ :: _ :: _ :: _ :: _ :: (10, .v (.int .i64 s8)) :: (11, .fl .shr 1 (List.map (Value.int .u8) x)) :: (12, .v (.int .i64 (x.length : Int))) :: (13, .v (.int .i64 v4)) :: (14, .v (.int .i64 v5)) :: (3, .box 3 [.v (.int .i64 v5)]) :: []) [0,1,2,3,4,5,6,7,8,9,10] [0,1,2,16,4,5,6,7,9] [zq [3] 11 10, zq [8] 12 11, zq [12] 13 12, zq [13] 14 13, zq [11,14] 15 14, ⟨[15], [3], [16], [.cell 3 0]⟩] [(_,_),(_,_),(_,_),(_,_),(_,_),(_,_),(_,_),(_,_),(_,_)] (by kernel_rfl) rfl rfl ⟨zp rfl (op_load _ _ _ _ _ _ Tryd.underlying3 rfl rfl rfl (zl rfl) rfl rfl rfl),zm rfl rfl rfl,zp rfl (op_len_fl _ _ _ Tryd.underlying22 rfl (by decide) (map_len _)),zp rfl (op_bin _ _ _ _ _ rfl rfl (ibind (f := Value.int .i64) (Option.some.inj hv4))),zp rfl (op_bin _ _ _ _ _ rfl rfl (ibind (f := Value.int .i64) (Option.some.inj hv5))),zp rfl (op_store _ _ _ _ _ _ _ _ sz3 rfl rfl rfl rfl (zl rfl) rfl rfl),trivial⟩ ?_
    refine pt_inb ?_
    obtain rfl := Option.some.inj h
    exact pt_rnext 20 [0, 19, 2, 3] _ rfl rfl (by kernel_rfl)
  ·rintro D s8 h
   refine pt_inb ?_
   refine pt_then ?_
   refine ht_seq ?_
   refine ht_seq ?_
   refine zh hn [_, _, _, _, (15, .v (.int .i64 s8)), (16, .fl .shr 1 (List.map (Value.int .u8) b)), (17, .v (.int .i64 (b.length : Int))), (18, .v (.bool ((s8 != (b.length : Int)))))] [0,1,2,3] [1,2,7] [zq [3] 4 15, zq [0] 5 16, zq [5] 6 17, zq [4,6] 7 18] [(_,_),(_,_),(_,_)] (by kernel_rfl) rfl rfl ⟨zp rfl (op_load _ _ _ _ _ _ Tryd.underlying3 rfl rfl rfl (zl rfl) rfl rfl rfl),zm rfl rfl rfl,zp rfl (op_len_fl _ _ _ Tryd.underlying22 rfl (by decide) (map_len _)),zo rfl rfl rfl rfl,trivial⟩ ?_
   refine pt_then ?_
   refine ht_cond _ rfl (fun hb12 => ?_) (fun hb12 => ?_)
   ·have h := cond_t hb12 h
    refine ht_seq ?_
    refine zh hn [_, _, _, (2, .box 24 [.v (.int .i64 5)])] [0,1,2] [0,3] [⟨[], [1], [3], [.cell 2 0]⟩] [(_,_),(_,_)] (by kernel_rfl) rfl rfl ⟨zp rfl (op_store _ _ _ _ _ _ _ _ sz24 rfl rfl rfl rfl (zl rfl) rfl rfl),trivial⟩ ?_
    refine pt_then ?_
    refine ht_ret ?_
    refine pt_pick [1] (by kernel_rfl) (es' := [(_, _)]) rfl ?_
    refine pt_r_then ?_
    obtain rfl := Option.some.inj h
    exact pt_ret hio rfl (.cell1 _ _ _ _ Tryd.underlying24 rfl .nil) rfl rfl
   ·have h := cond_f hb12 h
    refine ht_skip ?_
    refine pt_then ?_
    refine ht_seq ?_
    refine zh hn [_, _, _, (2, .box 24 [.v (.int .i64 0)])] [0,1,2] [0,3] [⟨[], [1], [3], [.cell 2 0]⟩] [(_,_),(_,_)] (by kernel_rfl) rfl rfl ⟨zp rfl (op_store _ _ _ _ _ _ _ _ sz24 rfl rfl rfl rfl (zl rfl) rfl rfl),trivial⟩ ?_
    refine pt_then ?_
    refine ht_ret ?_
    refine pt_pick [1] (by kernel_rfl) (es' := [(_, _)]) rfl ?_
    obtain rfl := Option.some.inj h
    exact pt_ret hio rfl (.cell1 _ _ _ _ Tryd.underlying24 rfl .nil) rfl rfl
  ·rintro D s10 h
   refine pt_pick [2] (by kernel_rfl) (es' := [(_, _)]) rfl ?_
   refine pt_r_in ?_
   refine pt_r_then ?_
   obtain rfl := Option.some.inj h
   exact pt_ret hio rfl (.cell1 _ _ _ _ Tryd.underlying24 rfl .nil) rfl rfl
set_option maxHeartbeats 1000000 in
theorem ok_bytes_Equal (a : (List Int)) (b : (List Int)) (r : Bool) (h : Sh.bytes_Equal a b = some r) : FnOK Tryd.prog 31 [.fl .shr 1 (List.map (Value.int .u8) a), .fl .shr 1 (List.map (Value.int .u8) b)] (.v (.bool r)) := by
  unfold Sh.bytes_Equal at h
  refine fn_ok Tryd.func31 rfl (zl rfl) rfl rfl fun g0 hn hio => ?_
  refine ht_seq ?_
  refine zh hn [_, _, (4, .v (.bool false))] [0,1] [0,1] [zq [] 2 4] [(_,_),(_,_)] (by kernel_rfl) rfl rfl ⟨za rfl rfl rfl,trivial⟩ ?_
  refine pt_then ?_
  refine ht_seq ?_
  obtain ⟨v1, hv1, h⟩ := bind_some h
  obtain ⟨v2, hv2, h⟩ := bind_some h
  refine zh hn [_, _, (5, .fl .shr 1 (List.map (Value.int .u8) a)), (6, .v (.string v1)), (7, .fl .shr 1 (List.map (Value.int .u8) b)), (8, .v (.string v2)), (9, .v (.bool (v1.toList == v2.toList))), (4, .v (.bool (v1.toList == v2.toList)))] [0,1] [7] [zq [0] 2 5, zq [2] 3 6, zq [1] 4 7, zq [4] 5 8, zq [3,5] 6 9, zq [6] 7 4] [(_,_)] (by kernel_rfl) rfl rfl ⟨zm rfl rfl rfl,zp rfl ((Option.some.inj hv1) ▸ op_bytes_str _ _ _ a Tryd.underlying22 Tryd.underlying9 Tryd.underlying5 rfl),zm rfl rfl rfl,zp rfl ((Option.some.inj hv2) ▸ op_bytes_str _ _ _ b Tryd.underlying22 Tryd.underlying9 Tryd.underlying5 rfl),zo rfl rfl rfl rfl,za rfl rfl rfl,trivial⟩ ?_
  refine pt_then ?_
  refine ht_ret ?_
  obtain rfl := Option.some.inj h
  exact pt_ret hio rfl (.tmp _ _ .nil) rfl rfl
set_option maxHeartbeats 1000000 in
theorem ok_bytes_HasPrefix (s : (List Int)) (prefix_ : (List Int)) (r : Bool) (h : Sh.bytes_HasPrefix s prefix_ = some r) : FnOK Tryd.prog 23 [.fl .shr 1 (List.map (Value.int .u8) s), .fl .shr 1 (List.map (Value.int .u8) prefix_)] (.v (.bool r)) := by
  unfold Sh.bytes_HasPrefix at h
  refine fn_ok Tryd.func23 rfl (zl rfl) rfl rfl fun g0 hn hio => ?_
  refine ht_seq ?_
  refine zh hn [_, _, (4, .v (.bool false))] [0,1] [0,1] [zq [] 2 4] [(_,_),(_,_)] (by kernel_rfl) rfl rfl ⟨za rfl rfl rfl,trivial⟩ ?_
  refine pt_then ?_
  refine ht_seq ?_
  refine ht_joinS h (fun (s3 : Bool) => [(4, .v (.bool s3))]) ?_ ?_
  ·rintro s3 h
   refine pt_then ?_
   refine ht_ret ?_
   obtain rfl := Option.some.inj h
   exact pt_ret hio rfl (.tmp _ _ .nil) rfl rfl
  ·intro u4 h hl5 hr6
   refine cond_some h (fun hg1_5 h => ?_) (fun hg1_5 h => ?_)
   ·obtain ⟨v1, hv1, h⟩ := bind_some h
    obtain ⟨v2, hv2, h⟩ := bind_some h
    refine zh hn (_ :: _ :: (5, .fl .shr 1 (List.map (Value.int .u8) s)) :: (6, .v (.int .i64 (s.length : Int))) :: (7, .fl .shr 1 (List.map (Value.int .u8) prefix_)) :: (8, .v (.int .i64 (prefix_.length : Int))) :: (9, .v (.bool ((decide ((prefix_.length : Int) ≤ (s.length : Int)))))) :: (10, .v (.bool true)) :: (11, .fl .shr 1 (List.map (Value.int .u8) s)) :: (12, .fl .shr 1 (List.map (Value.int .u8) prefix_)) :: (13, .v (.int .i64 (prefix_.length : Int))) :: (14, .fl .shr 1 (List.map (Value.int .u8) v1)) :: (15, .fl .shr 1 (List.map (Value.int .u8) prefix_)) :: (16, .v (.bool v2)) :: (17, .v (.bool v2)) :: (4, .v (.bool v2)) :: []) [0,1] [15] [zq [0] 2 5, zq [2] 3 6, zq [1] 4 7, zq [4] 5 8, zq [3,5] 6 9, zq [6] 7 10, zq [7,0] 8 11, zq [7,1] 9 12, zq [7,9] 10 13, zq [7,8,10] 11 14, zq [7,1] 12 15, zq [7,11,12] 13 16, zq [7,13] 14 17, zq [14] 15 4] [(_,_)] (by kernel_rfl) rfl rfl ⟨zm rfl rfl rfl,zp rfl (op_len_fl _ _ _ Tryd.underlying22 rfl (by decide) (map_len _)),zm rfl rfl rfl,zp rfl (op_len_fl _ _ _ Tryd.underlying22 rfl (by decide) (map_len _)),zo rfl rfl rfl rfl,zm rfl (zb hg1_5) rfl,zr 5 rfl rfl rfl (op_move _ _ _ _ rfl rfl),zr 5 rfl rfl rfl (op_move _ _ _ _ rfl rfl),zr 5 rfl rfl rfl (op_len_fl _ _ _ Tryd.underlying22 rfl (by decide) (map_len _)),zr 5 rfl rfl rfl (op_sl _ _ _ 0 (prefix_.length : Int) _ Tryd.underlying22 sz5 rfl rfl rfl ⟨_, rfl⟩ hv1),zr 5 rfl rfl rfl (op_move _ _ _ _ rfl rfl),zr 5 rfl rfl rfl (op_call _ _ 31 _ _ rfl Tryd.call31 rfl (ok_bytes_Equal v1 prefix_ _ hv2) rfl rfl),zk true rfl rfl rfl,za rfl rfl rfl,trivial⟩ ?_
    exact hl5 _ (Option.some.inj h).symm
   ·refine zh hn (_ :: _ :: (5, .fl .shr 1 (List.map (Value.int .u8) s)) :: (6, .v (.int .i64 (s.length : Int))) :: (7, .fl .shr 1 (List.map (Value.int .u8) prefix_)) :: (8, .v (.int .i64 (prefix_.length : Int))) :: (9, .v (.bool ((decide ((prefix_.length : Int) ≤ (s.length : Int)))))) :: (10, .v (.bool false)) :: (11, .v undef) :: (12, .v undef) :: (13, .v undef) :: (14, .v undef) :: (15, .v undef) :: (16, .v undef) :: (17, .v (.bool false)) :: (4, .v (.bool false)) :: []) [0,1] [15] [zq [0] 2 5, zq [2] 3 6, zq [1] 4 7, zq [4] 5 8, zq [3,5] 6 9, zq [6] 7 10, zq [7] 8 11, zq [7] 9 12, zq [7] 10 13, zq [7] 11 14, zq [7] 12 15, zq [7] 13 16, zq [7] 14 17, zq [14] 15 4] [(_,_)] (by kernel_rfl) rfl rfl ⟨zm rfl rfl rfl,zp rfl (op_len_fl _ _ _ Tryd.underlying22 rfl (by decide) (map_len _)),zm rfl rfl rfl,zp rfl (op_len_fl _ _ _ Tryd.underlying22 rfl (by decide) (map_len _)),zo rfl rfl rfl rfl,zm rfl (zb hg1_5) rfl,zs 5 true rfl rfl rfl rfl,zs 5 true rfl rfl rfl rfl,zs 5 true rfl rfl rfl rfl,zs 5 true rfl rfl rfl rfl,zs 5 true rfl rfl rfl rfl,zs 5 true rfl rfl rfl rfl,zk false rfl rfl rfl,za rfl rfl rfl,trivial⟩ ?_
    exact hl5 _ (Option.some.inj h).symm
set_option maxHeartbeats 1000000 in
theorem ok_dots_Stuff (mx : Int) (b : (List Int)) (r : ((List Int) × Int)) (h : Sh.dots_Stuff b = some r) : FnG Tryd.prog (GL mx) 11 [.fl .shr 1 (List.map (Value.int .u8) b)] (.tup [.fl (.own 5) 1 (List.map (Value.int .u8) r.1), .v (.int .i64 r.2)]) := by
  unfold Sh.dots_Stuff at h
  refine fn_okG Tryd.func11 rfl (zl rfl) rfl rfl fun g0 hn hio => ?_
  refine ht_seq ?_
  refine zh hn [_, _, (2, .v (.slice none 0 0)), (3, .v (.int .i64 0))] [0,1] [0,1] [zq [] 2 2, zq [] 3 3] [(_,_),(_,_)] (by kernel_rfl) rfl rfl ⟨za rfl rfl rfl,za rfl rfl rfl,trivial⟩ ?_
  refine pt_then ?_
  refine ht_seq ?_
  refine ht_seq ?_
  obtain ⟨v1, hv1, h⟩ := bind_some h
  refine zh hn [_, _, (7, .fl .shr 1 (List.map (Value.int .u8) b)), (8, .v (.int .i64 v1)), (4, .v (.int .i64 v1))] [0,1] [0,1,4] [zq [0] 2 7, zq [2,1] 3 8, zq [3] 4 4] [(_,_),(_,_),(_,_)] (by kernel_rfl) rfl rfl ⟨zm rfl rfl rfl,zp rfl (op_callG _ _ 28 17 _ _ rfl Tryd.call17 rfl rfl (fun _ h => h) (ok_dots_Check mx b _ hv1) rfl rfl),za rfl rfl rfl,trivial⟩ ?_
  refine pt_then ?_
  refine ht_seq ?_
  refine zh hn [_, _, _, (9, .v (.int .i64 v1)), (10, .v (.bool (v1 != 0)))] [0,1,2] [0,1,2,4] [zq [2] 3 9, zq [3] 4 10] [(_,_),(_,_),(_,_),(_,_)] (by kernel_rfl) rfl rfl ⟨zm rfl rfl rfl,zo rfl rfl rfl rfl,trivial⟩ ?_
  refine pt_then ?_
  refine ht_cond _ rfl (fun hb2 => ?_) (fun hb2 => ?_)
  ·have h := cond_t hb2 h
   refine ht_seq ?_
   refine zh hn [_, _, _, _, (11, .v (.int .i64 v1)), (2, .v (.slice none 0 0)), (3, .v (.int .i64 v1))] [0,1,2,3] [1,5,6] [zq [2] 4 11, zq [] 5 2, zq [4] 6 3] [(_,_),(_,_),(_,_)] (by kernel_rfl) rfl rfl ⟨zm rfl rfl rfl,za rfl rfl rfl,za rfl rfl rfl,trivial⟩ ?_
   refine pt_then ?_
   refine ht_ret ?_
   refine pt_pick [1, 2] (by kernel_rfl) (es' := [(_, _), (_, _)]) rfl ?_
   refine pt_sub (fs := [(2, .fl (.own 5) 1 (List.map (Value.int .u8) [])), (3, .v (.int .i64 v1))]) (.sub _ (sub_nil 5 1) rfl (.same _ .nil)) ?_
   refine pt_r_then ?_
   obtain rfl := Option.some.inj h
   exact pt_ret hio rfl (.tmp _ _ (.tmp _ _ .nil)) rfl rfl
  ·have h := cond_f hb2 h
   refine ht_skip ?_
   refine pt_then ?_
   refine ht_seq ?_
   refine zh hn [_, _, _, _, (5, .box 22 [.v (.slice none 0 0)])] [0,1,2,3] [0,1,4] [zq [] 4 5] [(_,_),(_,_),(_,_)] (by kernel_rfl) rfl rfl ⟨zp rfl (op_alloc _ _ zr22),trivial⟩ ?_
   refine pt_then ?_
   refine ht_seq ?_
   refine ht_seq ?_
   obtain ⟨v3, hv3, h⟩ := bind_some h
   refine zh hn [_, _, _, (12, .fl .shr 1 (List.map (Value.int .u8) b)), (13, .cloB 29 [.box 22 [.fl .shr 1 (List.map (Value.int .u8) v3)]])] [0,1,2] [1,2,4] [zq [0] 3 12, zq [3] 4 13] [(_,_),(_,_),(_,_)] (by kernel_rfl) rfl rfl ⟨zm rfl rfl rfl,zp rfl (op_callS _ _ 22 _ _ rfl Tryd.call22 rfl rfl (ok_dots_lines b _ hv3) rfl),trivial⟩ ?_
   refine pt_then ?_
   refine ht_block ?_
   refine ht_pick [2, 0, 1] (by kernel_rfl) (es' := [(13, .cloB 29 [.box 22 [.fl .shr 1 (List.map (Value.int .u8) v3)]]), (28, .glob (GL mx)), (5, .box 22 [.v (.slice none 0 0)])]) rfl ?_
   refine ht_sub (fs := [(13, .cloB 29 [.box 22 [.fl .shr 1 (List.map (Value.int .u8) v3)]]), (28, .glob (GL mx)), (5, .box 22 [.fl (.own 5) 1 (List.map (Value.int .u8) [])])]) (.same _ (.same _ (.box _ _ (subs_cons (sub_nil 5 1) (subs_nil)) rfl .nil))) ?_
   refine ht_rangeF h 29 13 14 29 _ [28, 5] Tryd.call29 (fun (s21 : (List Int)) => [(28, .glob (GL mx)), (5, .box 22 [.fl (.own 5) 1 (List.map (Value.int .u8) s21)])]) (fun (() : Unit) => []) (fun l J Y hY t t' h => ok_dots_lines_1 mx l J Y hY v3 t t' h) hn rfl (fun _ => rfl) (fun _ => rfl) (fun _ => rfl) rfl rfl (fun _ => ⟨rfl, rfl⟩) rfl (glIn_look 28 rfl) ?_ ?_ ?_
   ·rintro kk g0 hn hio x s21 u h
    refine ht_es (es' := [(14, .fl .shr 1 (List.map (Value.int .u8) x)), (28, .glob (GL mx)), (5, .box 22 [.fl (.own 5) 1 (List.map (Value.int .u8) s21)]), (28, .v (kk.tm.getD 28 undef)), (5, .v (kk.tm.getD 5 undef)), (29, .inv kk.ready)]) rfl ?_
    refine zh hn [_, _, _, _, _, _, (6, .fl .shr 1 (List.map (Value.int .u8) x))] [0,1,2,3,4,5] [1,2,3,4,5,6] [zq [0] 6 6] [(_,_),(_,_),(_,_),(_,_),(_,_),(_,_)] (by kernel_rfl) rfl rfl ⟨za rfl rfl rfl,trivial⟩ ?_
    refine pt_pick [0, 1, 2, 3, 5, 4] (by kernel_rfl) (es' := [(28, .glob (GL mx)), (5, .box 22 [.fl (.own 5) 1 (List.map (Value.int .u8) s21)]), (28, .v (kk.tm.getD 28 undef)), (5, .v (kk.tm.getD 5 undef)), (6, .fl .shr 1 (List.map (Value.int .u8) x)), (29, .inv kk.ready)]) rfl ?_
    refine pt_begin (es := [(28, .glob (GL mx)), (5, .box 22 [.fl (.own 5) 1 (List.map (Value.int .u8) s21)]), (28, .v (kk.tm.getD 28 undef)), (5, .v (kk.tm.getD 5 undef)), (6, .fl .shr 1 (List.map (Value.int .u8) x))]) 29 rfl ?_
    refine ht_block ?_
    refine ht_seq ?_
    refine ht_joinS h (fun (s29 : (List Int)) => [(28, .glob (GL mx)), (5, .box 22 [.fl (.own 5) 1 (List.map (Value.int .u8) s29)]), (28, .v (kk.tm.getD 28 undef)), (5, .v (kk.tm.getD 5 undef)), (6, .fl .shr 1 (List.map (Value.int .u8) x)), (29, .inv kk.busy)]) ?_ ?_
    ·rintro s29 h
     refine pt_then ?_
     refine ht_seq ?_
     obtain ⟨v12, hv12, h⟩ := bind_some h
     refine zh hn [_, _, _, _, _, _, (21, .same (.cell 5 0)), (22, .fl .shr 1 (List.map (Value.int .u8) x)), (23, .fl (.own 5) 1 (List.map (Value.int .u8) v12)), (5, .box 22 [.any]), (5, .box 22 [.fl (.own 5) 1 (List.map (Value.int .u8) v12)])] [0,1,2,3,4,5] [0,10,2,3,5] [zq [1] 6 21, zq [4] 7 22, ⟨[6, 7], [1], [9, 8], [(.slot 23)]⟩, ⟨[], [6, 8, 9], [10], [.cell 5 0]⟩] [(_,_),(_,_),(_,_),(_,_),(_,_)] (by kernel_rfl) rfl rfl ⟨zp rfl (op_load _ _ _ _ _ _ Tryd.underlying22 rfl rfl rfl (zl rfl) rfl rfl rfl),zm rfl rfl rfl,zp rfl (op_app_cell _ _ _ _ _ _ el22 rfl rfl (zl rfl) rfl (map_len _) (map_len _) hv12 ((List.map_append).symm.trans (congrArg (List.map _) (app_eq hv12))) (Nat.ne_of_beq_eq_false rfl) rfl rfl),zp rfl (LOp.drop [_] (op_store_take _ _ _ _ _ _ _ _ sz22 rfl rfl rfl (zl rfl) rfl rfl)),trivial⟩ ?_
     refine pt_then ?_
     obtain ⟨v13, hv13, h⟩ := bind_some h
     refine zh hn [_, _, _, _, _, (24, .same (.cell 5 0)), (25, .fl (.own 5) 1 (List.map (Value.int .u8) v13)), (5, .box 22 [.any]), (5, .box 22 [.fl (.own 5) 1 (List.map (Value.int .u8) v13)])] [0,1,2,3,4] [0,8,2,3,4] [zq [1] 5 24, ⟨[5], [1], [7, 6], [(.slot 25)]⟩, ⟨[], [5, 6, 7], [8], [.cell 5 0]⟩] [(_,_),(_,_),(_,_),(_,_),(_,_)] (by kernel_rfl) rfl rfl ⟨zp rfl (op_load _ _ _ _ _ _ Tryd.underlying22 rfl rfl rfl (zl rfl) rfl rfl rfl),zp rfl (op_apps_cell _ _ _ _ _ _ el22 zr5 Tryd.underlying9 rfl rfl (zl rfl) rfl rfl hv13 rfl (by decide) rfl rfl),zp rfl (LOp.drop [_] (op_store_take _ _ _ _ _ _ _ _ sz22 rfl rfl rfl (zl rfl) rfl rfl)),trivial⟩ ?_
     refine pt_inb ?_
     obtain rfl := Option.some.inj h
     exact pt_rnext 29 [28, 5] _ rfl rfl (by kernel_rfl)
    ·intro u30 h hl31 hr32
     refine ht_seq ?_
     obtain ⟨v4, hv4, h⟩ := bind_some h
     refine zh hn [_, _, _, _, _, _, (15, .fl .shr 1 (List.map (Value.int .u8) x)), (16, .fl (.own 5) 1 (List.map (Value.int .u8) [46])), (17, .fl .ro 1 (List.map (Value.int .u8) [46])), (18, .v (.bool v4))] [0,1,2,3,4,5] [0,1,2,3,4,5,9] [zq [4] 6 15, zq [] 7 16, ⟨[], [7], [8], [(.slot 17)]⟩, zq [6,8] 9 18] [(_,_),(_,_),(_,_),(_,_),(_,_),(_,_),(_,_)] (by kernel_rfl) rfl rfl ⟨zm rfl rfl rfl,zp rfl (op_buildSlice _ _ 1 (.int .u8 0) (List.map (Value.int .u8) [46]) [(0, .int .u8 46)] Tryd.underlying22 sz5 zr5 (fun _ V w o a hv hes => by simp only [List.map_toArray, List.map_cons, List.map_nil]; try rfl) (litfill (by simp [Instr.fill, Value.cells]; rfl) (by simp [List.range, List.range.loop] <;> rfl)) (by simp [Value.oneCell']) rfl (by decide) (by decide) (by decide)),zp rfl (op_conv_mark _ _ _ Tryd.underlying22 Tryd.underlying5 (by intro h; cases h)),zp rfl (op_call _ _ 23 _ _ rfl Tryd.call23 rfl (ok_bytes_HasPrefix x [46] _ hv4) rfl rfl),trivial⟩ ?_
     refine pt_then ?_
     refine ht_cond _ rfl (fun hb33 => ?_) (fun hb33 => ?_)
     ·have h := cond_t hb33 h
      obtain ⟨v6, hv6, h⟩ := bind_some h
      refine zh hn [_, _, _, _, _, _, _, (19, .same (.cell 5 0)), (20, .fl (.own 5) 1 (List.map (Value.int .u8) v6)), (5, .box 22 [.any]), (5, .box 22 [.fl (.own 5) 1 (List.map (Value.int .u8) v6)])] [0,1,2,3,4,5,6] [0,10,2,3,4,5] [zq [1] 7 19, ⟨[7], [1], [9, 8], [(.slot 20)]⟩, ⟨[], [7, 8, 9], [10], [.cell 5 0]⟩] [(_,_),(_,_),(_,_),(_,_),(_,_),(_,_)] (by kernel_rfl) rfl rfl ⟨zp rfl (op_load _ _ _ _ _ _ Tryd.underlying22 rfl rfl rfl (zl rfl) rfl rfl rfl),zp rfl (op_apps_cell _ _ _ _ _ _ el22 zr5 Tryd.underlying9 rfl rfl (zl rfl) rfl rfl hv6 rfl (by decide) rfl rfl),zp rfl (LOp.drop [_] (op_store_take _ _ _ _ _ _ _ _ sz22 rfl rfl rfl (zl rfl) rfl rfl)),trivial⟩ ?_
      exact hl31 _ (Option.some.inj h).symm
     ·have h := cond_f hb33 h
      refine ht_skip ?_
      refine pt_pick [0, 1, 2, 3, 4, 5] (by kernel_rfl) (es' := [(_, _), (_, _), (_, _), (_, _), (_, _), (_, _)]) rfl ?_
      exact hl31 _ (Option.some.inj h).symm
   ·rintro D s21 h
    refine pt_inb ?_
    refine pt_then ?_
    refine ht_seq ?_
    obtain ⟨v34, hv34, h⟩ := bind_some h
    refine zh hn [_, _, (26, .same (.cell 5 0)), (27, .fl (.own 5) 1 (List.map (Value.int .u8) v34)), (5, .box 22 [.any]), (2, .fl (.own 5) 1 (List.map (Value.int .u8) v34)), (3, .v (.int .i64 0))] [0,1] [0,5,6] [zq [1] 2 26, ⟨[2], [1], [4, 3], [(.slot 27)]⟩, ⟨[], [3], [5], [(.slot 2)]⟩, zq [] 6 3] [(_,_),(_,_),(_,_)] (by kernel_rfl) rfl rfl ⟨zp rfl (op_load _ _ _ _ _ _ Tryd.underlying22 rfl rfl rfl (zl rfl) rfl rfl rfl),zp rfl (op_apps_cell _ _ _ _ _ _ el22 zr5 Tryd.underlying9 rfl rfl (zl rfl) rfl rfl hv34 rfl (by decide) rfl rfl),zp rfl (op_assign_take _ _ _ _ rfl),za rfl rfl rfl,trivial⟩ ?_
    refine pt_then ?_
    refine ht_ret ?_
    refine pt_pick [1, 2] (by kernel_rfl) (es' := [(_, _), (_, _)]) rfl ?_
    obtain rfl := Option.some.inj h
    exact pt_ret hio rfl (.tmp _ _ (.tmp _ _ .nil)) rfl rfl
   ·rintro D ⟨⟩ h
    cases h
set_option maxHeartbeats 1000000 in
theorem ok_wherrykeep_Bytes (a : (List Int)) (b : (List Int)) (r : Bool) (h : Sh.wherrykeep_Bytes a b = some r) : FnOK Tryd.prog 18 [.fl .shr 1 (List.map (Value.int .u8) a), .fl .shr 1 (List.map (Value.int .u8) b)] (.v (.bool r)) := by
  unfold Sh.wherrykeep_Bytes at h
  refine fn_ok Tryd.func18 rfl (zl rfl) rfl rfl fun g0 hn hio => ?_
  refine ht_seq ?_
  refine zh hn [_, _, (4, .v (.bool false))] [0,1] [0,1] [zq [] 2 4] [(_,_),(_,_)] (by kernel_rfl) rfl rfl ⟨za rfl rfl rfl,trivial⟩ ?_
  refine pt_then ?_
  refine ht_seq ?_
  refine ht_seq ?_
  refine zh hn [_, _, (6, .fl .shr 1 (List.map (Value.int .u8) a)), (7, .v (.int .i64 (a.length : Int))), (8, .fl .shr 1 (List.map (Value.int .u8) b)), (9, .v (.int .i64 (b.length : Int))), (10, .v (.bool (((a.length : Int) != (b.length : Int)))))] [0,1] [0,1,6] [zq [0] 2 6, zq [2] 3 7, zq [1] 4 8, zq [4] 5 9, zq [3,5] 6 10] [(_,_),(_,_),(_,_)] (by kernel_rfl) rfl rfl ⟨zm rfl rfl rfl,zp rfl (op_len_fl _ _ _ Tryd.underlying22 rfl (by decide) (map_len _)),zm rfl rfl rfl,zp rfl (op_len_fl _ _ _ Tryd.underlying22 rfl (by decide) (map_len _)),zo rfl rfl rfl rfl,trivial⟩ ?_
  refine pt_then ?_
  refine ht_cond _ rfl (fun hb1 => ?_) (fun hb1 => ?_)
  ·have h := cond_t hb1 h
   refine ht_seq ?_
   refine zh hn [_, _, _, (4, .v (.bool false))] [0,1,2] [3] [zq [] 3 4] [(_,_)] (by kernel_rfl) rfl rfl ⟨za rfl rfl rfl,trivial⟩ ?_
   refine pt_then ?_
   refine ht_ret ?_
   refine pt_r_then ?_
   obtain rfl := Option.some.inj h
   exact pt_ret hio rfl (.tmp _ _ .nil) rfl rfl
  ·have h := cond_f hb1 h
   refine ht_skip ?_
   refine pt_then ?_
   refine ht_seq ?_
   refine ht_seq ?_
   refine zh hn [_, _, _, (5, .v (.int .i64 0))] [0,1,2] [0,1,3] [zq [] 3 5] [(_,_),(_,_),(_,_)] (by kernel_rfl) rfl rfl ⟨za rfl rfl rfl,trivial⟩ ?_
   refine pt_then ?_
   refine ht_loopS h (fun (s12 : Int) => [(0, .fl .shr 1 (List.map (Value.int .u8) a)), (1, .fl .shr 1 (List.map (Value.int .u8) b)), (5, .v (.int .i64 s12))]) (fun (() : Unit) => []) ?_ ?_
   ·rintro ⟨⟩ h
    refine pt_then ?_
    refine ht_seq ?_
    refine zh hn [(4, .v (.bool true))] [] [0] [zq [] 0 4] [(_,_)] (by kernel_rfl) rfl rfl ⟨za rfl rfl rfl,trivial⟩ ?_
    refine pt_then ?_
    refine ht_ret ?_
    obtain rfl := Option.some.inj h
    exact pt_ret hio rfl (.tmp _ _ .nil) rfl rfl
   ·rintro u15 hl16 hr17 s12 rr20 h ho18
    refine ht_seq ?_
    refine ht_seq ?_
    refine zh hn [_, _, _, (11, .v (.int .i64 s12)), (12, .fl .shr 1 (List.map (Value.int .u8) a)), (13, .v (.int .i64 (a.length : Int))), (14, .v (.bool ((decide (s12 < (a.length : Int))))))] [0,1,2] [0,1,2,6] [zq [2] 3 11, zq [0] 4 12, zq [4] 5 13, zq [3,5] 6 14] [(_,_),(_,_),(_,_),(_,_)] (by kernel_rfl) rfl rfl ⟨zm rfl rfl rfl,zm rfl rfl rfl,zp rfl (op_len_fl _ _ _ Tryd.underlying22 rfl (by decide) (map_len _)),zo rfl rfl rfl rfl,trivial⟩ ?_
    refine pt_then ?_
    refine ht_cond _ rfl (fun hb21 => ?_) (fun hb21 => ?_)
    ·have h := cond_t hb21 h
     refine ht_skip ?_
     refine pt_then ?_
     refine ht_seq ?_
     refine ht_block ?_
     refine ht_seq ?_
     obtain ⟨v3, hv3, h⟩ := bind_some h
     obtain ⟨v4, hv4, h⟩ := bind_some h
     obtain ⟨v5, hv5, h⟩ := bind_some h
     obtain ⟨v6, hv6, h⟩ := bind_some h
     refine ht_anyR (by kernel_rfl) hn (El := [_, _, _, _, (17, .fl .shr 1 (List.map (Value.int .u8) a)), (18, .v (.int .i64 s12)), (19, .eref (.slot 17) (v3 * 1)), (20, .v (.int .u8 v4)), (21, .fl .shr 1 (List.map (Value.int .u8) b)), (22, .v (.int .i64 s12)), (23, .eref (.slot 21) (v5 * 1)), (24, .v (.int .u8 v6)), (25, .v (.bool (v4 != v6)))]) (init := [0, 1, 2, 3]) (fin := [0, 1, 2, 12]) (sps := [zq [0] 4 17, zq [2] 5 18, zq [4,5] 6 19, zq [6,4] 7 20, zq [1] 8 21, zq [2] 9 22, zq [8,9] 10 23, zq [10,8] 11 24, zq [7,11] 12 25]) (es' := [(_, _), (_, _), (_, _), (25, .v (.bool (v4 != v6)))]) (by kernel_rfl) rfl rfl ⟨zm rfl rfl rfl,zm rfl rfl rfl,zp rfl (op_ix _ _ _ _ _ _ _ _ Tryd.underlying22 sz5 (by decide) rfl rfl rfl (ix_ok hv3).1 (map_lt (ix_ok hv3).2) rfl),zp rfl (op_load_e _ _ _ _ _ _ Tryd.underlying5 rfl rfl rfl (map_get hv4)),zm rfl rfl rfl,zm rfl rfl rfl,zp rfl (op_ix _ _ _ _ _ _ _ _ Tryd.underlying22 sz5 (by decide) rfl rfl rfl (ix_ok hv5).1 (map_lt (ix_ok hv5).2) rfl),zp rfl (op_load_e _ _ _ _ _ _ Tryd.underlying5 rfl rfl rfl (map_get hv6)),zo rfl rfl rfl rfl,trivial⟩ ?_
     refine pt_then ?_
     refine ht_cond _ rfl (fun hb22 => ?_) (fun hb22 => ?_)
     ·have h := cond_t hb22 h
      refine ht_seq ?_
      refine zh hn [_, _, _, _, (4, .v (.bool false))] [0,1,2,3] [4] [zq [] 4 4] [(_,_)] (by kernel_rfl) rfl rfl ⟨za rfl rfl rfl,trivial⟩ ?_
      refine pt_then ?_
      refine ht_ret ?_
      refine pt_r_in ?_
      refine pt_r_then ?_
      refine pt_r_then ?_
      refine pt_r_in ?_
      refine pt_r_then ?_
      have h := hr17 _ (ho18 _ (Option.some.inj h).symm).symm
      obtain rfl := Option.some.inj h
      exact pt_ret hio rfl (.tmp _ _ .nil) rfl rfl
     ·have h := cond_f hb22 h
      refine ht_skip ?_
      refine pt_inb ?_
      refine pt_then ?_
      obtain ⟨v8, hv8, h⟩ := bind_some h
      refine zh hn [_, _, _, _, (15, .v (.int .i64 s12)), (16, .v (.int .i64 v8)), (5, .v (.int .i64 v8))] [0,1,2,3] [0,1,6] [zq [2] 4 15, zq [4] 5 16, ⟨[5], [2], [6], [(.slot 5)]⟩] [(_,_),(_,_),(_,_)] (by kernel_rfl) rfl rfl ⟨zm rfl rfl rfl,zp rfl (op_bin _ _ _ _ _ rfl rfl (ibind (f := Value.int .i64) (Option.some.inj hv8))),zp rfl (LOp.drop [_] (op_assign _ _ _ _ rfl rfl)),trivial⟩ ?_
      exact pt_next _ (Option.some.inj h).symm rfl
    ·have h := cond_f hb21 h
     refine ht_exit ?_
     refine pt_x_then ?_
     refine pt_x_then ?_
     refine pt_x_in ?_
     refine pt_pick [] (by kernel_rfl) (es' := []) rfl ?_
     exact hl16 _ (ho18 _ (Option.some.inj h).symm).symm
set_option maxHeartbeats 1000000 in
theorem ok_dots_lastLine (mx : Int) (b : (List Int)) (r : (Int × Bool)) (h : Sh.dots_lastLine b = some r) : FnG Tryd.prog (GL mx) 24 [.fl .shr 1 (List.map (Value.int .u8) b)] (.tup [.v (.int .i64 r.1), .v (.bool r.2)]) := by
  unfold Sh.dots_lastLine at h
  refine fn_okG Tryd.func24 rfl (zl rfl) rfl rfl fun g0 hn hio => ?_
  refine ht_seq ?_
  refine zh hn [_, _, (2, .box 3 [.v (.int .i64 0)]), (3, .box 4 [.v (.bool false)])] [0,1] [0,1,2,3] [zq [] 2 2, zq [] 3 3] [(_,_),(_,_),(_,_),(_,_)] (by kernel_rfl) rfl rfl ⟨zp rfl (op_alloc _ _ zr3),zp rfl (op_alloc _ _ zr4),trivial⟩ ?_
  refine pt_then ?_
  refine ht_seq ?_
  refine ht_seq ?_
  obtain ⟨v1, hv1, h⟩ := bind_some h
  refine zh hn [_, _, _, _, (5, .fl .shr 1 (List.map (Value.int .u8) b)), (6, .cloB 29 [.box 22 [.fl .shr 1 (List.map (Value.int .u8) v1)]])] [0,1,2,3] [1,2,3,5] [zq [0] 4 5, zq [4] 5 6] [(_,_),(_,_),(_,_),(_,_)] (by kernel_rfl) rfl rfl ⟨zm rfl rfl rfl,zp rfl (op_callS _ _ 22 _ _ rfl Tryd.call22 rfl rfl (ok_dots_lines b _ hv1) rfl),trivial⟩ ?_
  refine pt_then ?_
  refine ht_block ?_
  refine ht_pick [3, 0, 1, 2] (by kernel_rfl) (es' := [(6, .cloB 29 [.box 22 [.fl .shr 1 (List.map (Value.int .u8) v1)]]), (17, .glob (GL mx)), (2, .box 3 [.v (.int .i64 0)]), (3, .box 4 [.v (.bool false)])]) rfl ?_
  refine ht_rangeF h 29 6 7 18 _ [17, 2, 3] Tryd.call29 (fun (s8 : Int) => [(17, .glob (GL mx)), (2, .box 3 [.v (.int .i64 s8)]), (3, .box 4 [.v (.bool false)])]) (fun (s10 : Int) => [(17, .glob (GL mx)), (2, .box 3 [.v (.int .i64 s10)]), (3, .box 4 [.v (.bool true)])]) (fun l J Y hY t t' h => ok_dots_lines_1 mx l J Y hY v1 t t' h) hn rfl (fun _ => rfl) (fun _ => rfl) (fun _ => rfl) rfl rfl (fun _ => ⟨rfl, rfl⟩) rfl (glIn_look 17 rfl) ?_ ?_ ?_
  ·rintro kk g0 hn hio x s8 u h
   refine ht_es (es' := [(7, .fl .shr 1 (List.map (Value.int .u8) x)), (17, .glob (GL mx)), (2, .box 3 [.v (.int .i64 s8)]), (3, .box 4 [.v (.bool false)]), (17, .v (kk.tm.getD 17 undef)), (2, .v (kk.tm.getD 2 undef)), (3, .v (kk.tm.getD 3 undef)), (18, .inv kk.ready)]) rfl ?_
   refine zh hn [_, _, _, _, _, _, _, _, (4, .fl .shr 1 (List.map (Value.int .u8) x))] [0,1,2,3,4,5,6,7] [1,2,3,4,5,6,7,8] [zq [0] 8 4] [(_,_),(_,_),(_,_),(_,_),(_,_),(_,_),(_,_),(_,_)] (by kernel_rfl) rfl rfl ⟨za rfl rfl rfl,trivial⟩ ?_
   refine pt_pick [0, 1, 2, 3, 4, 5, 7, 6] (by kernel_rfl) (es' := [(17, .glob (GL mx)), (2, .box 3 [.v (.int .i64 s8)]), (3, .box 4 [.v (.bool false)]), (17, .v (kk.tm.getD 17 undef)), (2, .v (kk.tm.getD 2 undef)), (3, .v (kk.tm.getD 3 undef)), (4, .fl .shr 1 (List.map (Value.int .u8) x)), (18, .inv kk.ready)]) rfl ?_
   refine pt_begin (es := [(17, .glob (GL mx)), (2, .box 3 [.v (.int .i64 s8)]), (3, .box 4 [.v (.bool false)]), (17, .v (kk.tm.getD 17 undef)), (2, .v (kk.tm.getD 2 undef)), (3, .v (kk.tm.getD 3 undef)), (4, .fl .shr 1 (List.map (Value.int .u8) x))]) 18 rfl ?_
   refine ht_block ?_
   refine ht_seq ?_
   refine ht_seq ?_
   obtain ⟨v2, hv2, h⟩ := bind_some h
   refine zh hn [_, _, _, _, _, _, _, _, (8, .fl .shr 1 (List.map (Value.int .u8) x)), (9, .v (.string v2)), (10, .v (.bool ((v2.toList == (⟨#[46]⟩ : ByteArray).toList))))] [0,1,2,3,4,5,6,7] [0,1,2,3,4,5,6,7,10] [zq [6] 8 8, zq [8] 9 9, zq [9] 10 10] [(_,_),(_,_),(_,_),(_,_),(_,_),(_,_),(_,_),(_,_),(_,_)] (by kernel_rfl) rfl rfl ⟨zm rfl rfl rfl,zp rfl ((Option.some.inj hv2) ▸ op_bytes_str _ _ _ x Tryd.underlying22 Tryd.underlying9 Tryd.underlying5 rfl),zo rfl rfl rfl rfl,trivial⟩ ?_
   refine pt_then ?_
   refine ht_cond _ rfl (fun hb11 => ?_) (fun hb11 => ?_)
   ·have h := cond_t hb11 h
    refine ht_seq ?_
    refine zh hn [_, _, _, _, _, _, _, _, _, (11, .v (.int .i64 s8)), (2, .box 3 [.v (.int .i64 s8)]), (3, .box 4 [.v (.bool true)])] [0,1,2,3,4,5,6,7,8] [0,10,11,3,4,5,7] [zq [1] 9 11, ⟨[9], [1], [10], [.cell 2 0]⟩, ⟨[], [2], [11], [.cell 3 0]⟩] [(_,_),(_,_),(_,_),(_,_),(_,_),(_,_),(_,_)] (by kernel_rfl) rfl rfl ⟨zp rfl (op_load _ _ _ _ _ _ Tryd.underlying3 rfl rfl rfl (zl rfl) rfl rfl rfl),zp rfl (op_store _ _ _ _ _ _ _ _ sz3 rfl rfl rfl rfl (zl rfl) rfl rfl),zp rfl (op_store _ _ _ _ _ _ _ _ sz4 rfl rfl rfl rfl (zl rfl) rfl rfl),trivial⟩ ?_
    refine pt_then ?_
    refine ht_ret ?_
    refine pt_r_then ?_
    refine pt_r_in ?_
    obtain rfl := Option.some.inj h
    exact pt_rret 18 [17, 2, 3] _ rfl rfl (by kernel_rfl)
   ·have h := cond_f hb11 h
    refine ht_skip ?_
    refine pt_then ?_
    obtain ⟨v4, hv4, h⟩ := bind_some h
    obtain ⟨v5, hv5, h⟩ := bind_some h
    refine zh hn (_ :: _ :: _ :: _ :: _ :: _ :: _ :: _ :: _ :: (12, .v (.int .i64 s8)) :: (13, .fl .shr 1 (List.map (Value.int .u8) x)) :: (14, .v (.int .i64 (x.length : Int))) :: (15, .v (.int .i64 v4)) :: (16, .v (.int .i64 v5)) :: (2, .box 3 [.v (.int .i64 v5)]) :: []) [0,1,2,3,4,5,6,7,8] [0,14,2,3,4,5,7] [zq [1] 9 12, zq [6] 10 13, zq [10] 11 14, zq [11] 12 15, zq [9,12] 13 16, ⟨[13], [1], [14], [.cell 2 0]⟩] [(_,_),(_,_),(_,_),(_,_),(_,_),(_,_),(_,_)] (by kernel_rfl) rfl rfl ⟨zp rfl (op_load _ _ _ _ _ _ Tryd.underlying3 rfl rfl rfl (zl rfl) rfl rfl rfl),zm rfl rfl rfl,zp rfl (op_len_fl _ _ _ Tryd.underlying22 rfl (by decide) (map_len _)),zp rfl (op_bin _ _ _ _ _ rfl rfl (ibind (f := Value.int .i64) (Option.some.inj hv4))),zp rfl (op_bin _ _ _ _ _ rfl rfl (ibind (f := Value.int .i64) (Option.some.inj hv5))),zp rfl (op_store _ _ _ _ _ _ _ _ sz3 rfl rfl rfl rfl (zl rfl) rfl rfl),trivial⟩ ?_
    refine pt_inb ?_
    obtain rfl := Option.some.inj h
    exact pt_rnext 18 [17, 2, 3] _ rfl rfl (by kernel_rfl)
  ·rintro D s8 h
   refine pt_inb ?_
   refine pt_then ?_
   refine ht_seq ?_
   refine zh hn [_, _, _, (2, .box 3 [.v (.int .i64 0)]), (3, .box 4 [.v (.bool false)])] [0,1,2] [0,3,4] [⟨[], [1], [3], [.cell 2 0]⟩, ⟨[], [2], [4], [.cell 3 0]⟩] [(_,_),(_,_),(_,_)] (by kernel_rfl) rfl rfl ⟨zp rfl (op_store _ _ _ _ _ _ _ _ sz3 rfl rfl rfl rfl (zl rfl) rfl rfl),zp rfl (op_store _ _ _ _ _ _ _ _ sz4 rfl rfl rfl rfl (zl rfl) rfl rfl),trivial⟩ ?_
   refine pt_then ?_
   refine ht_ret ?_
   refine pt_pick [1, 2] (by kernel_rfl) (es' := [(_, _), (_, _)]) rfl ?_
   obtain rfl := Option.some.inj h
   exact pt_ret hio rfl (.cell1 _ _ _ _ Tryd.underlying3 rfl (.cell1 _ _ _ _ Tryd.underlying4 rfl .nil)) rfl rfl
  ·rintro D s10 h
   refine pt_pick [1, 2] (by kernel_rfl) (es' := [(_, _), (_, _)]) rfl ?_
   refine pt_r_in ?_
   refine pt_r_then ?_
   obtain rfl := Option.some.inj h
   exact pt_ret hio rfl (.cell1 _ _ _ _ Tryd.underlying3 rfl (.cell1 _ _ _ _ Tryd.underlying4 rfl .nil)) rfl rfl
set_option maxHeartbeats 1000000 in
theorem ok_bytes_TrimPrefix_sh (s : (List Int)) (prefix_ : (List Int)) (r : (List Int)) (h : Sh.bytes_TrimPrefix_sh s prefix_ = some r) : FnOK Tryd.prog 25 [.fl .shr 1 (List.map (Value.int .u8) s), .fl .shr 1 (List.map (Value.int .u8) prefix_)] (.fl .shr 1 (List.map (Value.int .u8) r)) := by
  unfold Sh.bytes_TrimPrefix_sh at h
  refine fn_ok Tryd.func25 rfl (zl rfl) rfl rfl fun g0 hn hio => ?_
  refine ht_seq ?_
  refine zh hn [_, _, (4, .v (.slice none 0 0))] [0,1] [0,1] [zq [] 2 4] [(_,_),(_,_)] (by kernel_rfl) rfl rfl ⟨za rfl rfl rfl,trivial⟩ ?_
  refine pt_then ?_
  refine ht_seq ?_
  refine ht_seq ?_
  obtain ⟨v1, hv1, h⟩ := bind_some h
  refine zh hn [_, _, (5, .fl .shr 1 (List.map (Value.int .u8) s)), (6, .fl .shr 1 (List.map (Value.int .u8) prefix_)), (7, .v (.bool v1))] [0,1] [0,1,4] [zq [0] 2 5, zq [1] 3 6, zq [2,3] 4 7] [(_,_),(_,_),(_,_)] (by kernel_rfl) rfl rfl ⟨zm rfl rfl rfl,zm rfl rfl rfl,zp rfl (op_call _ _ 23 _ _ rfl Tryd.call23 rfl (ok_bytes_HasPrefix s prefix_ _ hv1) rfl rfl),trivial⟩ ?_
  refine pt_then ?_
  refine ht_cond _ rfl (fun hb2 => ?_) (fun hb2 => ?_)
  ·have h := cond_t hb2 h
   refine ht_seq ?_
   obtain ⟨v3, hv3, h⟩ := bind_some h
   refine zh hn [_, _, _, (8, .fl .shr 1 (List.map (Value.int .u8) s)), (9, .fl .shr 1 (List.map (Value.int .u8) prefix_)), (10, .v (.int .i64 (prefix_.length : Int))), (11, .fl .shr 1 (List.map (Value.int .u8) v3)), (4, .fl .shr 1 (List.map (Value.int .u8) v3))] [0,1,2] [7] [zq [0] 3 8, zq [1] 4 9, zq [4] 5 10, zq [3,5] 6 11, zq [6] 7 4] [(_,_)] (by kernel_rfl) rfl rfl ⟨zm rfl rfl rfl,zm rfl rfl rfl,zp rfl (op_len_fl _ _ _ Tryd.underlying22 rfl (by decide) (map_len _)),zp rfl (op_sl _ _ _ (prefix_.length : Int) (s.length : Int) _ Tryd.underlying22 sz5 rfl rfl ⟨_, rfl⟩ rfl hv3),za rfl rfl rfl,trivial⟩ ?_
   refine pt_then ?_
   refine ht_ret ?_
   refine pt_r_then ?_
   obtain rfl := Option.some.inj h
   exact pt_ret hio rfl (.tmp _ _ .nil) rfl rfl
  ·have h := cond_f hb2 h
   refine ht_skip ?_
   refine pt_then ?_
   refine ht_seq ?_
   refine zh hn [_, _, _, (12, .fl .shr 1 (List.map (Value.int .u8) s)), (4, .fl .shr 1 (List.map (Value.int .u8) s))] [0,1,2] [4] [zq [0] 3 12, zq [3] 4 4] [(_,_)] (by kernel_rfl) rfl rfl ⟨zm rfl rfl rfl,za rfl rfl rfl,trivial⟩ ?_
   refine pt_then ?_
   refine ht_ret ?_
   obtain rfl := Option.some.inj h
   exact pt_ret hio rfl (.tmp _ _ .nil) rfl rfl
set_option maxHeartbeats 1000000 in
theorem ok_dots_Strip (mx : Int) (b : (List Int)) (r : ((List Int) × Int × Int)) (h : Sh.dots_Strip b = some r) : FnG Tryd.prog (GL mx) 12 [.fl .shr 1 (List.map (Value.int .u8) b)] (.tup [.fl (.own 5) 1 (List.map (Value.int .u8) r.1), .v (.int .i64 r.2.1), .v (.int .i64 r.2.2)]) := by
  unfold Sh.dots_Strip at h
  refine fn_okG Tryd.func12 rfl (zl rfl) rfl rfl fun g0 hn hio => ?_
  refine ht_seq ?_
  refine zh hn [_, _, (2, .box 22 [.v (.slice none 0 0)]), (3, .v (.int .i64 0)), (4, .v (.int .i64 0))] [0,1] [0,1,2] [zq [] 2 2, zq [] 3 3, zq [] 4 4] [(_,_),(_,_),(_,_)] (by kernel_rfl) rfl rfl ⟨zp rfl (op_alloc _ _ zr22),za rfl rfl rfl,za rfl rfl rfl,trivial⟩ ?_
  refine pt_then ?_
  refine ht_seq ?_
  obtain ⟨v1, hv1, h⟩ := bind_some h
  refine zh hn [_, _, _, (10, .fl .shr 1 (List.map (Value.int .u8) b)), (11, .tup [.v (.int .i64 v1.1), .v (.bool v1.2)]), (9, .tup [.v (.int .i64 v1.1), .v (.bool v1.2)]), (12, .v (.int .i64 v1.1)), (13, .v (.bool v1.2)), (5, .v (.int .i64 v1.1)), (6, .v (.bool v1.2))] [0,1,2] [0,1,2,8,9] [zq [0] 3 10, zq [3,1] 4 11, ⟨[], [4], [5], [(.slot 9)]⟩, zq [5] 6 12, zq [5] 7 13, zq [6] 8 5, zq [7] 9 6] [(_,_),(_,_),(_,_),(_,_),(_,_)] (by kernel_rfl) rfl rfl ⟨zm rfl rfl rfl,zp rfl (op_callG _ _ 39 24 _ _ rfl Tryd.call24 rfl rfl (fun _ h => h) (ok_dots_lastLine mx b _ hv1) rfl rfl),zp rfl (op_move_take _ _ _ _ rfl),zp rfl (op_extract _ _ _ _ _ rfl rfl (zl rfl) rfl rfl),zp rfl (op_extract _ _ _ _ _ rfl rfl (zl rfl) rfl rfl),za rfl rfl rfl,za rfl rfl rfl,trivial⟩ ?_
  refine pt_then ?_
  refine ht_seq ?_
  refine ht_seq ?_
  refine zh hn [_, _, _, _, _, (14, .v (.bool v1.2)), (15, .v (.bool (!v1.2)))] [0,1,2,3,4] [0,1,2,3,6] [zq [4] 5 14, zq [5] 6 15] [(_,_),(_,_),(_,_),(_,_),(_,_)] (by kernel_rfl) rfl rfl ⟨zm rfl rfl rfl,zp rfl (op_un _ _ _ _ rfl rfl),trivial⟩ ?_
  refine pt_then ?_
  refine ht_cond _ rfl (fun hb2 => ?_) (fun hb2 => ?_)
  ·have h := cond_t hb2 h
   refine ht_seq ?_
   refine zh hn [_, _, _, _, _, (2, .box 22 [.v (.slice none 0 0)]), (3, .v (.int .i64 0)), (4, .v (.int .i64 9))] [0,1,2,3,4] [1,5,6,7] [⟨[], [2], [5], [.cell 2 0]⟩, zq [] 6 3, zq [] 7 4] [(_,_),(_,_),(_,_),(_,_)] (by kernel_rfl) rfl rfl ⟨zp rfl (op_store _ _ _ _ _ _ _ _ sz22 rfl rfl rfl rfl (zl rfl) rfl rfl),za rfl rfl rfl,za rfl rfl rfl,trivial⟩ ?_
   refine pt_then ?_
   refine ht_ret ?_
   refine pt_pick [1, 2, 3] (by kernel_rfl) (es' := [(_, _), (_, _), (_, _)]) rfl ?_
   refine pt_sub (fs := [(2, .box 22 [.fl (.own 5) 1 (List.map (Value.int .u8) [])]), (3, .v (.int .i64 0)), (4, .v (.int .i64 9))]) (.box _ _ (subs_cons (sub_nil 5 1) (subs_nil)) rfl (.same _ (.same _ .nil))) ?_
   refine pt_r_then ?_
   obtain rfl := Option.some.inj h
   exact pt_ret hio rfl (.cell1 _ _ _ _ Tryd.underlying22 rfl (.tmp _ _ (.tmp _ _ .nil))) rfl rfl
  ·have h := cond_f hb2 h
   refine ht_skip ?_
   refine pt_then ?_
   refine ht_seq ?_
   refine ht_seq ?_
   obtain ⟨v3, hv3, h⟩ := bind_some h
   obtain ⟨v4, hv4, h⟩ := bind_some h
   refine zh hn [_, _, _, _, _, (16, .fl .shr 1 (List.map (Value.int .u8) b)), (17, .v (.int .i64 v1.1)), (18, .fl .shr 1 (List.map (Value.int .u8) v3)), (19, .v (.int .i64 v4)), (7, .v (.int .i64 v4))] [0,1,2,3,4] [0,1,2,3,9] [zq [0] 5 16, zq [3] 6 17, zq [5,6] 7 18, zq [7,1] 8 19, zq [8] 9 7] [(_,_),(_,_),(_,_),(_,_),(_,_)] (by kernel_rfl) rfl rfl ⟨zm rfl rfl rfl,zm rfl rfl rfl,zp rfl (op_sl _ _ _ 0 v1.1 _ Tryd.underlying22 sz5 rfl rfl rfl ⟨_, rfl⟩ hv3),zp rfl (op_callG _ _ 39 17 _ _ rfl Tryd.call17 rfl rfl (fun _ h => h) (ok_dots_Check mx v3 _ hv4) rfl rfl),za rfl rfl rfl,trivial⟩ ?_
   refine pt_then ?_
   refine ht_seq ?_
   refine zh hn [_, _, _, _, _, (20, .v (.int .i64 v4)), (21, .v (.bool (v4 != 0)))] [0,1,2,3,4] [0,1,2,3,4,6] [zq [4] 5 20, zq [5] 6 21] [(_,_),(_,_),(_,_),(_,_),(_,_),(_,_)] (by kernel_rfl) rfl rfl ⟨zm rfl rfl rfl,zo rfl rfl rfl rfl,trivial⟩ ?_
   refine pt_then ?_
   refine ht_cond _ rfl (fun hb5 => ?_) (fun hb5 => ?_)
   ·have h := cond_t hb5 h
    refine ht_seq ?_
    refine zh hn [_, _, _, _, _, _, (22, .v (.int .i64 v4)), (2, .box 22 [.v (.slice none 0 0)]), (3, .v (.int .i64 0)), (4, .v (.int .i64 v4))] [0,1,2,3,4,5] [1,7,8,9] [zq [4] 6 22, ⟨[], [2], [7], [.cell 2 0]⟩, zq [] 8 3, zq [6] 9 4] [(_,_),(_,_),(_,_),(_,_)] (by kernel_rfl) rfl rfl ⟨zm rfl rfl rfl,zp rfl (op_store _ _ _ _ _ _ _ _ sz22 rfl rfl rfl rfl (zl rfl) rfl rfl),za rfl rfl rfl,za rfl rfl rfl,trivial⟩ ?_
    refine pt_then ?_
    refine ht_ret ?_
    refine pt_pick [1, 2, 3] (by kernel_rfl) (es' := [(_, _), (_, _), (_, _)]) rfl ?_
    refine pt_sub (fs := [(2, .box 22 [.fl (.own 5) 1 (List.map (Value.int .u8) [])]), (3, .v (.int .i64 0)), (4, .v (.int .i64 v4))]) (.box _ _ (subs_cons (sub_nil 5 1) (subs_nil)) rfl (.same _ (.same _ .nil))) ?_
    refine pt_r_then ?_
    obtain rfl := Option.some.inj h
    exact pt_ret hio rfl (.cell1 _ _ _ _ Tryd.underlying22 rfl (.tmp _ _ (.tmp _ _ .nil))) rfl rfl
   ·have h := cond_f hb5 h
    refine ht_skip ?_
    refine pt_then ?_
    refine ht_seq ?_
    refine ht_seq ?_
    obtain ⟨v6, hv6, h⟩ := bind_some h
    obtain ⟨v7, hv7, h⟩ := bind_some h
    refine zh hn [_, _, _, _, _, _, (23, .fl .shr 1 (List.map (Value.int .u8) b)), (24, .v (.int .i64 v1.1)), (25, .fl .shr 1 (List.map (Value.int .u8) v6)), (26, .cloB 29 [.box 22 [.fl .shr 1 (List.map (Value.int .u8) v7)]])] [0,1,2,3,4,5] [1,2,3,9] [zq [0] 6 23, zq [3] 7 24, zq [6,7] 8 25, zq [8] 9 26] [(_,_),(_,_),(_,_),(_,_)] (by kernel_rfl) rfl rfl ⟨zm rfl rfl rfl,zm rfl rfl rfl,zp rfl (op_sl _ _ _ 0 v1.1 _ Tryd.underlying22 sz5 rfl rfl rfl ⟨_, rfl⟩ hv6),zp rfl (op_callS _ _ 22 _ _ rfl Tryd.call22 rfl rfl (ok_dots_lines v6 _ hv7) rfl),trivial⟩ ?_
    refine pt_then ?_
    refine ht_block ?_
    refine ht_pick [3, 0, 1, 2] (by kernel_rfl) (es' := [(26, .cloB 29 [.box 22 [.fl .shr 1 (List.map (Value.int .u8) v7)]]), (39, .glob (GL mx)), (2, .box 22 [.v (.slice none 0 0)]), (5, .v (.int .i64 v1.1))]) rfl ?_
    refine ht_sub (fs := [(26, .cloB 29 [.box 22 [.fl .shr 1 (List.map (Value.int .u8) v7)]]), (39, .glob (GL mx)), (2, .box 22 [.fl (.own 5) 1 (List.map (Value.int .u8) [])]), (5, .v (.int .i64 v1.1))]) (.same _ (.same _ (.box _ _ (subs_cons (sub_nil 5 1) (subs_nil)) rfl (.same _ .nil)))) ?_
    refine ht_rangeF h 29 26 27 40 _ [39, 2, 5] Tryd.call29 (fun (s12 : (List Int)) => [(39, .glob (GL mx)), (2, .box 22 [.fl (.own 5) 1 (List.map (Value.int .u8) s12)]), (5, .v (.int .i64 v1.1))]) (fun (() : Unit) => []) (fun l J Y hY t t' h => ok_dots_lines_1 mx l J Y hY v7 t t' h) hn rfl (fun _ => rfl) (fun _ => rfl) (fun _ => rfl) rfl rfl (fun _ => ⟨rfl, rfl⟩) rfl (glIn_look 39 rfl) ?_ ?_ ?_
    ·rintro kk g0 hn hio x s12 u h
     refine ht_es (es' := [(27, .fl .shr 1 (List.map (Value.int .u8) x)), (39, .glob (GL mx)), (2, .box 22 [.fl (.own 5) 1 (List.map (Value.int .u8) s12)]), (5, .v (.int .i64 v1.1)), (39, .v (kk.tm.getD 39 undef)), (2, .v (kk.tm.getD 2 undef)), (5, .v (kk.tm.getD 5 undef)), (40, .inv kk.ready)]) rfl ?_
     refine zh hn [_, _, _, _, _, _, _, _, (8, .fl .shr 1 (List.map (Value.int .u8) x))] [0,1,2,3,4,5,6,7] [1,2,3,4,5,6,7,8] [zq [0] 8 8] [(_,_),(_,_),(_,_),(_,_),(_,_),(_,_),(_,_),(_,_)] (by kernel_rfl) rfl rfl ⟨za rfl rfl rfl,trivial⟩ ?_
     refine pt_pick [0, 1, 2, 3, 4, 5, 7, 6] (by kernel_rfl) (es' := [(39, .glob (GL mx)), (2, .box 22 [.fl (.own 5) 1 (List.map (Value.int .u8) s12)]), (5, .v (.int .i64 v1.1)), (39, .v (kk.tm.getD 39 undef)), (2, .v (kk.tm.getD 2 undef)), (5, .v (kk.tm.getD 5 undef)), (8, .fl .shr 1 (List.map (Value.int .u8) x)), (40, .inv kk.ready)]) rfl ?_
     refine pt_begin (es := [(39, .glob (GL mx)), (2, .box 22 [.fl (.own 5) 1 (List.map (Value.int .u8) s12)]), (5, .v (.int .i64 v1.1)), (39, .v (kk.tm.getD 39 undef)), (2, .v (kk.tm.getD 2 undef)), (5, .v (kk.tm.getD 5 undef)), (8, .fl .shr 1 (List.map (Value.int .u8) x))]) 40 rfl ?_
     refine ht_block ?_
     refine ht_seq ?_
     obtain ⟨v8, hv8, h⟩ := bind_some h
     obtain ⟨v9, hv9, h⟩ := bind_some h
     refine ht_anyR (by kernel_rfl) hn (El := (_ :: _ :: _ :: _ :: _ :: _ :: _ :: _ :: (28, .same (.cell 2 0)) :: (29, .fl .shr 1 (List.map (Value.int .u8) x)) :: (30, .fl (.own 5) 1 (List.map (Value.int .u8) [46])) :: (31, .fl .ro 1 (List.map (Value.int .u8) [46])) :: (32, .fl .shr 1 (List.map (Value.int .u8) v8)) :: (33, .fl (.own 5) 1 (List.map (Value.int .u8) v9)) :: (2, .box 22 [.any]) :: (2, .box 22 [.fl (.own 5) 1 (List.map (Value.int .u8) v9)]) :: [])) (init := [0, 1, 2, 3, 4, 5, 6, 7]) (fin := [0, 15, 2, 3, 4, 5, 7]) (sps := [zq [1] 8 28, zq [6] 9 29, zq [] 10 30, ⟨[], [10], [11], [(.slot 31)]⟩, zq [9,11] 12 32, ⟨[8, 12], [1], [14, 13], [(.slot 33)]⟩, ⟨[], [8, 13, 14], [15], [.cell 2 0]⟩]) (es' := [(_, _), (2, .box 22 [.fl (.own 5) 1 (List.map (Value.int .u8) v9)]), (_, _), (_, _), (_, _), (_, _), (_, _)]) (by kernel_rfl) rfl rfl ⟨zp rfl (op_load _ _ _ _ _ _ Tryd.underlying22 rfl rfl rfl (zl rfl) rfl rfl rfl),zm rfl rfl rfl,zp rfl (op_buildSlice _ _ 1 (.int .u8 0) (List.map (Value.int .u8) [46]) [(0, .int .u8 46)] Tryd.underlying22 sz5 zr5 (fun _ V w o a hv hes => by simp only [List.map_toArray, List.map_cons, List.map_nil]; try rfl) (litfill (by simp [Instr.fill, Value.cells]; rfl) (by simp [List.range, List.range.loop] <;> rfl)) (by simp [Value.oneCell']) rfl (by decide) (by decide) (by decide)),zp rfl (op_conv_mark _ _ _ Tryd.underlying22 Tryd.underlying5 (by intro h; cases h)),zp rfl (op_callS _ _ 25 _ _ rfl Tryd.call25 rfl rfl (ok_bytes_TrimPrefix_sh x [46] _ hv8) rfl),zp rfl (op_app_cell _ _ _ _ _ _ el22 rfl rfl (zl rfl) rfl (map_len _) (map_len _) hv9 ((List.map_append).symm.trans (congrArg (List.map _) (app_eq hv9))) (Nat.ne_of_beq_eq_false rfl) rfl rfl),zp rfl (LOp.drop [_] (op_store_take _ _ _ _ _ _ _ _ sz22 rfl rfl rfl (zl rfl) rfl rfl)),trivial⟩ ?_
     refine pt_then ?_
     obtain ⟨v10, hv10, h⟩ := bind_some h
     refine zh hn [_, _, _, _, _, _, _, (34, .same (.cell 2 0)), (35, .fl (.own 5) 1 (List.map (Value.int .u8) v10)), (2, .box 22 [.any]), (2, .box 22 [.fl (.own 5) 1 (List.map (Value.int .u8) v10)])] [0,1,2,3,4,5,6] [0,10,2,3,4,5,6] [zq [1] 7 34, ⟨[7], [1], [9, 8], [(.slot 35)]⟩, ⟨[], [7, 8, 9], [10], [.cell 2 0]⟩] [(_,_),(_,_),(_,_),(_,_),(_,_),(_,_),(_,_)] (by kernel_rfl) rfl rfl ⟨zp rfl (op_load _ _ _ _ _ _ Tryd.underlying22 rfl rfl rfl (zl rfl) rfl rfl rfl),zp rfl (op_apps_cell _ _ _ _ _ _ el22 zr5 Tryd.underlying9 rfl rfl (zl rfl) rfl rfl hv10 rfl (by decide) rfl rfl),zp rfl (LOp.drop [_] (op_store_take _ _ _ _ _ _ _ _ sz22 rfl rfl rfl (zl rfl) rfl rfl)),trivial⟩ ?_
     refine pt_inb ?_
     obtain rfl := Option.some.inj h
     exact pt_rnext 40 [39, 2, 5] _ rfl rfl (by kernel_rfl)
    ·rintro D s12 h
     refine pt_inb ?_
     refine pt_then ?_
     refine ht_seq ?_
     obtain ⟨v13, hv13, h⟩ := bind_some h
     refine zh hn [_, _, _, (36, .same (.cell 2 0)), (37, .v (.int .i64 v1.1)), (38, .v (.int .i64 v13)), (2, .box 22 [.fl (.own 5) 1 (List.map (Value.int .u8) s12)]), (3, .v (.int .i64 v13)), (4, .v (.int .i64 0))] [0,1,2] [0,6,7,8] [zq [1] 3 36, zq [2] 4 37, zq [4] 5 38, ⟨[3], [1], [6], []⟩, zq [5] 7 3, zq [] 8 4] [(_,_),(_,_),(_,_),(_,_)] (by kernel_rfl) rfl rfl ⟨zp rfl (op_load _ _ _ _ _ _ Tryd.underlying22 rfl rfl rfl (zl rfl) rfl rfl rfl),zm rfl rfl rfl,zp rfl (op_bin _ _ _ _ _ rfl rfl (ibind (f := Value.int .i64) (Option.some.inj hv13))),zp rfl (op_store_self1 _ _ _ 2 0 sz22 rfl rfl rfl (zl rfl)),za rfl rfl rfl,za rfl rfl rfl,trivial⟩ ?_
     refine pt_then ?_
     refine ht_ret ?_
     refine pt_pick [1, 2, 3] (by kernel_rfl) (es' := [(_, _), (_, _), (_, _)]) rfl ?_
     obtain rfl := Option.some.inj h
     exact pt_ret hio rfl (.cell1 _ _ _ _ Tryd.underlying22 rfl (.tmp _ _ (.tmp _ _ .nil))) rfl rfl
    ·rintro D ⟨⟩ h
     cases h
set_option maxHeartbeats 1000000 in
theorem ok_wherrylaw14_wakes (mx : Int) (r : Bool) (h : Sh.wherrylaw14_wakes  = some r) : FnG Tryd.prog (GL mx) 21 [] (.v (.bool r)) := by
  unfold Sh.wherrylaw14_wakes at h
  refine fn_okG Tryd.func21 rfl (zl rfl) rfl rfl fun g0 hn hio => ?_
  refine ht_seq ?_
  refine zh hn [_, (0, .v (.bool false))] [0] [0] [zq [] 1 0] [(_,_)] (by kernel_rfl) rfl rfl ⟨za rfl rfl rfl,trivial⟩ ?_
  refine pt_then ?_
  refine ht_seq ?_
  refine zh hn [_, (7, .fl (.own 5) 1 (List.map (Value.int .u8) [46, 13, 10])), (8, .fl .ro 1 (List.map (Value.int .u8) [46, 13, 10])), (1, .fl .ro 1 (List.map (Value.int .u8) [46, 13, 10]))] [0] [0,3] [zq [] 1 7, ⟨[], [1], [2], [(.slot 8)]⟩, zq [2] 3 1] [(_,_),(_,_)] (by kernel_rfl) rfl rfl ⟨zp rfl (op_buildSlice _ _ 1 (.int .u8 0) (List.map (Value.int .u8) [46, 13, 10]) [(0, .int .u8 46), (1, .int .u8 13), (2, .int .u8 10)] Tryd.underlying22 sz5 zr5 (fun _ V w o a hv hes => by simp only [List.map_toArray, List.map_cons, List.map_nil]; try rfl) (litfill (by simp [Instr.fill, Value.cells]; rfl) (by simp [List.range, List.range.loop] <;> rfl)) (by simp [Value.oneCell']) rfl (by decide) (by decide) (by decide)),zp rfl (op_conv_mark _ _ _ Tryd.underlying22 Tryd.underlying5 (by intro h; cases h)),za rfl rfl rfl,trivial⟩ ?_
  refine pt_then ?_
  refine ht_seq ?_
  obtain ⟨v1, hv1, h⟩ := bind_some h
  refine zh hn [_, _, (10, .fl .ro 1 (List.map (Value.int .u8) [46, 13, 10])), (11, .tup [.fl (.own 5) 1 (List.map (Value.int .u8) v1.1), .v (.int .i64 v1.2)]), (9, .tup [.fl (.own 5) 1 (List.map (Value.int .u8) v1.1), .v (.int .i64 v1.2)]), (12, .fl (.own 5) 1 (List.map (Value.int .u8) v1.1)), (9, .tup [.any, .v (.int .i64 v1.2)]), (13, .v (.int .i64 v1.2)), (2, .fl (.own 5) 1 (List.map (Value.int .u8) v1.1)), (3, .v (.int .i64 v1.2))] [0,1] [0,1,8,9] [zq [1] 2 10, zq [2,0] 3 11, ⟨[], [3], [4], [(.slot 9)]⟩, ⟨[], [4], [6, 5], [(.slot 12)]⟩, zq [6] 7 13, ⟨[], [5], [8], [(.slot 2)]⟩, zq [7] 9 3] [(_,_),(_,_),(_,_),(_,_)] (by kernel_rfl) rfl rfl ⟨zm rfl rfl rfl,zp rfl (op_callG _ _ 53 11 _ _ rfl Tryd.call11 rfl rfl (fun _ h => h) (ok_dots_Stuff mx [46, 13, 10] _ hv1) rfl rfl),zp rfl (op_move_take _ _ _ _ rfl),zp rfl (op_extract_take _ _ _ _ _ rfl (zl rfl) rfl rfl (by decide) rfl),zp rfl (op_extract _ _ _ _ _ rfl rfl (zl rfl) rfl rfl),zp rfl (op_assign_take _ _ _ _ rfl),za rfl rfl rfl,trivial⟩ ?_
  refine pt_then ?_
  refine ht_seq ?_
  obtain ⟨v2, hv2, h⟩ := bind_some h
  refine zh hn [_, _, _, _, (15, .same (.slot 2)), (16, .tup [.fl (.own 5) 1 (List.map (Value.int .u8) v2.1), .v (.int .i64 v2.2.1), .v (.int .i64 v2.2.2)]), (14, .tup [.fl (.own 5) 1 (List.map (Value.int .u8) v2.1), .v (.int .i64 v2.2.1), .v (.int .i64 v2.2.2)]), (17, .fl (.own 5) 1 (List.map (Value.int .u8) v2.1)), (14, .tup [.any, .v (.int .i64 v2.2.1), .v (.int .i64 v2.2.2)]), (18, .v (.int .i64 v2.2.1)), (19, .v (.int .i64 v2.2.2)), (4, .fl (.own 5) 1 (List.map (Value.int .u8) v2.1)), (5, .v (.int .i64 v2.2.1)), (6, .v (.int .i64 v2.2.2))] [0,1,2,3] [0,1,2,3,11,12,13] [zq [2] 4 15, zq [4,2,0] 5 16, ⟨[], [5], [6], [(.slot 14)]⟩, ⟨[], [6], [8, 7], [(.slot 17)]⟩, zq [8] 9 18, zq [8] 10 19, ⟨[], [7], [11], [(.slot 4)]⟩, zq [9] 12 5, zq [10] 13 6] [(_,_),(_,_),(_,_),(_,_),(_,_),(_,_),(_,_)] (by kernel_rfl) rfl rfl ⟨zm rfl rfl rfl,zp rfl (op_callG _ _ 53 12 _ _ rfl Tryd.call12 rfl rfl (fun _ h => h) (ok_dots_Strip mx v1.1 _ hv2) rfl rfl),zp rfl (op_move_take _ _ _ _ rfl),zp rfl (op_extract_take _ _ _ _ _ rfl (zl rfl) rfl rfl (by decide) rfl),zp rfl (op_extract _ _ _ _ _ rfl rfl (zl rfl) rfl rfl),zp rfl (op_extract _ _ _ _ _ rfl rfl (zl rfl) rfl rfl),zp rfl (op_assign_take _ _ _ _ rfl),za rfl rfl rfl,za rfl rfl rfl,trivial⟩ ?_
  refine pt_then ?_
  refine ht_seq ?_
  refine ht_joinS h (fun (s7 : Bool) => [(53, .glob (GL mx)), (0, .v (.bool s7))]) ?_ ?_
  ·rintro s7 h
   refine pt_then ?_
   refine ht_ret ?_
   refine pt_pick [1] (by kernel_rfl) (es' := [(_, _)]) rfl ?_
   obtain rfl := Option.some.inj h
   exact pt_ret hio rfl (.tmp _ _ .nil) rfl rfl
  ·intro u8 h hl9 hr10
   refine cond_some h (fun hg4_2 h => ?_) (fun hg4_2 h => ?_)
   ·refine cond_some h (fun hg4_6 h => ?_) (fun hg4_6 h => ?_)
    ·obtain ⟨v3, hv3, h⟩ := bind_some h
     refine cond_some h (fun hg4_11 h => ?_) (fun hg4_11 h => ?_)
     ·obtain ⟨v4, hv4, h⟩ := bind_some h
      refine cond_some h (fun hg4_16 h => ?_) (fun hg4_16 h => ?_)
      ·refine cond_some h (fun hg4_20 h => ?_) (fun hg4_20 h => ?_)
       ·obtain ⟨v5, hv5, h⟩ := bind_some h
        refine cond_some h (fun hg4_26 h => ?_) (fun hg4_26 h => ?_)
        ·obtain ⟨v6, hv6, h⟩ := bind_some h
         refine zh hn (_ :: _ :: _ :: _ :: _ :: _ :: _ :: (20, .v (.int .i64 v1.2)) :: (21, .v (.bool (v1.2 == 0))) :: (22, .v (.bool true)) :: (23, .v (.int .i64 v2.2.2)) :: (24, .v (.bool (v2.2.2 == 0))) :: (25, .v (.bool (v2.2.2 == 0))) :: (26, .v (.bool true)) :: (27, .fl (.own 5) 1 (List.map (Value.int .u8) v1.1)) :: (28, .v (.string v3)) :: (29, .v (.bool ((v3.toList == (⟨#[46, 46, 13, 10, 46, 13, 10]⟩ : ByteArray).toList)))) :: (30, .v (.bool ((v3.toList == (⟨#[46, 46, 13, 10, 46, 13, 10]⟩ : ByteArray).toList)))) :: (31, .v (.bool true)) :: (32, .fl (.own 5) 1 (List.map (Value.int .u8) v2.1)) :: (33, .fl .ro 1 (List.map (Value.int .u8) [46, 13, 10])) :: (34, .v (.bool v4)) :: (35, .v (.bool v4)) :: (36, .v (.bool true)) :: (37, .v (.int .i64 v2.2.1)) :: (38, .v (.bool (v2.2.1 == 7))) :: (39, .v (.bool (v2.2.1 == 7))) :: (40, .v (.bool true)) :: (41, .fl (.own 5) 1 (List.map (Value.int .u8) [97, 10])) :: (42, .fl .ro 1 (List.map (Value.int .u8) [97, 10])) :: (43, .v (.int .i64 v5)) :: (44, .v (.bool (v5 == 5))) :: (45, .v (.bool (v5 == 5))) :: (46, .v (.bool true)) :: (47, .fl (.own 5) 1 (List.map (Value.int .u8) [97, 13, 10, 98, 13, 10, 99])) :: (48, .fl .ro 1 (List.map (Value.int .u8) [97, 13, 10, 98, 13, 10, 99])) :: (49, .fr .ro false 1 (List.flatten (List.map Row_int_u8.ienc v6))) :: (50, .v (.int .i64 (v6.length : Int))) :: (51, .v (.bool (((v6.length : Int) == 2)))) :: (52, .v (.bool (((v6.length : Int) == 2)))) :: (0, .v (.bool (((v6.length : Int) == 2)))) :: []) [0,1,2,3,4,5,6] [0,40] (zq [3] 7 20 :: zq [7] 8 21 :: zq [8] 9 22 :: zq [9,6] 10 23 :: zq [9,10] 11 24 :: zq [9,11] 12 25 :: zq [12] 13 26 :: ⟨[13], [2], [14], [(.slot 27)]⟩ :: zq [13,14] 15 28 :: zq [13,15] 16 29 :: zq [13,16] 17 30 :: zq [17] 18 31 :: ⟨[18], [4], [19], [(.slot 32)]⟩ :: zq [18,1] 20 33 :: zq [18,19,20] 21 34 :: zq [18,21] 22 35 :: zq [22] 23 36 :: zq [23,5] 24 37 :: zq [23,24] 25 38 :: zq [23,25] 26 39 :: zq [26] 27 40 :: zq [27] 28 41 :: ⟨[27], [28], [29], [(.slot 42)]⟩ :: zq [27,29,0] 30 43 :: zq [27,30] 31 44 :: zq [27,31] 32 45 :: zq [32] 33 46 :: zq [33] 34 47 :: ⟨[33], [34], [35], [(.slot 48)]⟩ :: zq [33,35,0] 36 49 :: zq [33,36] 37 50 :: zq [33,37] 38 51 :: zq [33,38] 39 52 :: zq [39] 40 0 :: []) [(_,_),(_,_)] (by kernel_rfl) rfl rfl ⟨zm rfl rfl rfl,zo rfl rfl rfl rfl,zm rfl (zb hg4_2) rfl,zr 2 rfl rfl rfl (op_move _ _ _ _ rfl rfl),zr 2 rfl rfl rfl (op_bin _ _ _ _ _ rfl rfl rfl),zk true rfl rfl rfl,zm rfl (zb hg4_6) rfl,zr 6 rfl rfl rfl (op_move_take _ _ _ _ rfl),zr 6 rfl rfl rfl ((Option.some.inj hv3) ▸ op_bytes_str _ _ _ v1.1 Tryd.underlying22 Tryd.underlying9 Tryd.underlying5 rfl),zr 6 rfl rfl rfl (op_bin _ _ _ _ _ rfl rfl rfl),zk true rfl rfl rfl,zm rfl (zb hg4_11) rfl,zr 11 rfl rfl rfl (op_move_take _ _ _ _ rfl),zr 11 rfl rfl rfl (op_move _ _ _ _ rfl rfl),zr 11 rfl rfl rfl (op_call _ _ 18 _ _ rfl Tryd.call18 rfl (ok_wherrykeep_Bytes v2.1 [46, 13, 10] _ hv4) rfl rfl),zk true rfl rfl rfl,zm rfl (zb hg4_16) rfl,zr 16 rfl rfl rfl (op_move _ _ _ _ rfl rfl),zr 16 rfl rfl rfl (op_bin _ _ _ _ _ rfl rfl rfl),zk true rfl rfl rfl,zm rfl (zb hg4_20) rfl,zr 20 rfl rfl rfl (op_buildSlice _ _ 1 (.int .u8 0) (List.map (Value.int .u8) [97, 10]) [(0, .int .u8 97), (1, .int .u8 10)] Tryd.underlying22 sz5 zr5 (fun _ V w o a hv hes => by simp only [List.map_toArray, List.map_cons, List.map_nil]; try rfl) (litfill (by simp [Instr.fill, Value.cells]; rfl) (by simp [List.range, List.range.loop] <;> rfl)) (by simp [Value.oneCell']) rfl (by decide) (by decide) (by decide)),zr 20 rfl rfl rfl (op_conv_mark _ _ _ Tryd.underlying22 Tryd.underlying5 (by intro h; cases h)),zr 20 rfl rfl rfl (op_callG _ _ 53 17 _ _ rfl Tryd.call17 rfl rfl (fun _ h => h) (ok_dots_Check mx [97, 10] _ hv5) rfl rfl),zr 20 rfl rfl rfl (op_bin _ _ _ _ _ rfl rfl rfl),zk true rfl rfl rfl,zm rfl (zb hg4_26) rfl,zr 26 rfl rfl rfl (op_buildSlice _ _ 1 (.int .u8 0) (List.map (Value.int .u8) [97, 13, 10, 98, 13, 10, 99]) [(0, .int .u8 97), (1, .int .u8 13), (2, .int .u8 10), (3, .int .u8 98), (4, .int .u8 13), (5, .int .u8 10), (6, .int .u8 99)] Tryd.underlying22 sz5 zr5 (fun _ V w o a hv hes => by simp only [List.map_toArray, List.map_cons, List.map_nil]; try rfl) (litfill (by simp [Instr.fill, Value.cells]; rfl) (by simp [List.range, List.range.loop] <;> rfl)) (by simp [Value.oneCell']) rfl (by decide) (by decide) (by decide)),zr 26 rfl rfl rfl (op_conv_mark _ _ _ Tryd.underlying22 Tryd.underlying5 (by intro h; cases h)),zr 26 rfl rfl rfl (op_callG _ _ 53 14 _ _ rfl Tryd.call14 rfl rfl (fun _ h => h) (ok_dots_Lines mx [97, 13, 10, 98, 13, 10, 99] _ hv6) rfl rfl),zr 26 rfl rfl rfl (op_len_fr _ _ _ Tryd.underlying29 rfl (by decide) (gflat_len Row_int_u8.ilen _)),zr 26 rfl rfl rfl (op_bin _ _ _ _ _ rfl rfl rfl),zk true rfl rfl rfl,za rfl rfl rfl,trivial⟩ ?_
         exact hl9 _ (Option.some.inj h).symm
        ·refine zh hn (_ :: _ :: _ :: _ :: _ :: _ :: _ :: (20, .v (.int .i64 v1.2)) :: (21, .v (.bool (v1.2 == 0))) :: (22, .v (.bool true)) :: (23, .v (.int .i64 v2.2.2)) :: (24, .v (.bool (v2.2.2 == 0))) :: (25, .v (.bool (v2.2.2 == 0))) :: (26, .v (.bool true)) :: (27, .fl (.own 5) 1 (List.map (Value.int .u8) v1.1)) :: (28, .v (.string v3)) :: (29, .v (.bool ((v3.toList == (⟨#[46, 46, 13, 10, 46, 13, 10]⟩ : ByteArray).toList)))) :: (30, .v (.bool ((v3.toList == (⟨#[46, 46, 13, 10, 46, 13, 10]⟩ : ByteArray).toList)))) :: (31, .v (.bool true)) :: (32, .fl (.own 5) 1 (List.map (Value.int .u8) v2.1)) :: (33, .fl .ro 1 (List.map (Value.int .u8) [46, 13, 10])) :: (34, .v (.bool v4)) :: (35, .v (.bool v4)) :: (36, .v (.bool true)) :: (37, .v (.int .i64 v2.2.1)) :: (38, .v (.bool (v2.2.1 == 7))) :: (39, .v (.bool (v2.2.1 == 7))) :: (40, .v (.bool true)) :: (41, .fl (.own 5) 1 (List.map (Value.int .u8) [97, 10])) :: (42, .fl .ro 1 (List.map (Value.int .u8) [97, 10])) :: (43, .v (.int .i64 v5)) :: (44, .v (.bool (v5 == 5))) :: (45, .v (.bool (v5 == 5))) :: (46, .v (.bool false)) :: (47, .v undef) :: (48, .v undef) :: (49, .v undef) :: (50, .v undef) :: (51, .v undef) :: (52, .v (.bool false)) :: (0, .v (.bool false)) :: []) [0,1,2,3,4,5,6] [0,40] (zq [3] 7 20 :: zq [7] 8 21 :: zq [8] 9 22 :: zq [9,6] 10 23 :: zq [9,10] 11 24 :: zq [9,11] 12 25 :: zq [12] 13 26 :: ⟨[13], [2], [14], [(.slot 27)]⟩ :: zq [13,14] 15 28 :: zq [13,15] 16 29 :: zq [13,16] 17 30 :: zq [17] 18 31 :: ⟨[18], [4], [19], [(.slot 32)]⟩ :: zq [18,1] 20 33 :: zq [18,19,20] 21 34 :: zq [18,21] 22 35 :: zq [22] 23 36 :: zq [23,5] 24 37 :: zq [23,24] 25 38 :: zq [23,25] 26 39 :: zq [26] 27 40 :: zq [27] 28 41 :: ⟨[27], [28], [29], [(.slot 42)]⟩ :: zq [27,29,0] 30 43 :: zq [27,30] 31 44 :: zq [27,31] 32 45 :: zq [32] 33 46 :: zq [33] 34 47 :: zq [33] 35 48 :: zq [33] 36 49 :: zq [33] 37 50 :: zq [33] 38 51 :: zq [33] 39 52 :: zq [39] 40 0 :: []) [(_,_),(_,_)] (by kernel_rfl) rfl rfl ⟨zm rfl rfl rfl,zo rfl rfl rfl rfl,zm rfl (zb hg4_2) rfl,zr 2 rfl rfl rfl (op_move _ _ _ _ rfl rfl),zr 2 rfl rfl rfl (op_bin _ _ _ _ _ rfl rfl rfl),zk true rfl rfl rfl,zm rfl (zb hg4_6) rfl,zr 6 rfl rfl rfl (op_move_take _ _ _ _ rfl),zr 6 rfl rfl rfl ((Option.some.inj hv3) ▸ op_bytes_str _ _ _ v1.1 Tryd.underlying22 Tryd.underlying9 Tryd.underlying5 rfl),zr 6 rfl rfl rfl (op_bin _ _ _ _ _ rfl rfl rfl),zk true rfl rfl rfl,zm rfl (zb hg4_11) rfl,zr 11 rfl rfl rfl (op_move_take _ _ _ _ rfl),zr 11 rfl rfl rfl (op_move _ _ _ _ rfl rfl),zr 11 rfl rfl rfl (op_call _ _ 18 _ _ rfl Tryd.call18 rfl (ok_wherrykeep_Bytes v2.1 [46, 13, 10] _ hv4) rfl rfl),zk true rfl rfl rfl,zm rfl (zb hg4_16) rfl,zr 16 rfl rfl rfl (op_move _ _ _ _ rfl rfl),zr 16 rfl rfl rfl (op_bin _ _ _ _ _ rfl rfl rfl),zk true rfl rfl rfl,zm rfl (zb hg4_20) rfl,zr 20 rfl rfl rfl (op_buildSlice _ _ 1 (.int .u8 0) (List.map (Value.int .u8) [97, 10]) [(0, .int .u8 97), (1, .int .u8 10)] Tryd.underlying22 sz5 zr5 (fun _ V w o a hv hes => by simp only [List.map_toArray, List.map_cons, List.map_nil]; try rfl) (litfill (by simp [Instr.fill, Value.cells]; rfl) (by simp [List.range, List.range.loop] <;> rfl)) (by simp [Value.oneCell']) rfl (by decide) (by decide) (by decide)),zr 20 rfl rfl rfl (op_conv_mark _ _ _ Tryd.underlying22 Tryd.underlying5 (by intro h; cases h)),zr 20 rfl rfl rfl (op_callG _ _ 53 17 _ _ rfl Tryd.call17 rfl rfl (fun _ h => h) (ok_dots_Check mx [97, 10] _ hv5) rfl rfl),zr 20 rfl rfl rfl (op_bin _ _ _ _ _ rfl rfl rfl),zk true rfl rfl rfl,zm rfl (zb hg4_26) rfl,zs 26 true rfl rfl rfl rfl,zs 26 true rfl rfl rfl rfl,zs 26 true rfl rfl rfl rfl,zs 26 true rfl rfl rfl rfl,zs 26 true rfl rfl rfl rfl,zk false rfl rfl rfl,za rfl rfl rfl,trivial⟩ ?_
         exact hl9 _ (Option.some.inj h).symm
       ·refine zh hn (_ :: _ :: _ :: _ :: _ :: _ :: _ :: (20, .v (.int .i64 v1.2)) :: (21, .v (.bool (v1.2 == 0))) :: (22, .v (.bool true)) :: (23, .v (.int .i64 v2.2.2)) :: (24, .v (.bool (v2.2.2 == 0))) :: (25, .v (.bool (v2.2.2 == 0))) :: (26, .v (.bool true)) :: (27, .fl (.own 5) 1 (List.map (Value.int .u8) v1.1)) :: (28, .v (.string v3)) :: (29, .v (.bool ((v3.toList == (⟨#[46, 46, 13, 10, 46, 13, 10]⟩ : ByteArray).toList)))) :: (30, .v (.bool ((v3.toList == (⟨#[46, 46, 13, 10, 46, 13, 10]⟩ : ByteArray).toList)))) :: (31, .v (.bool true)) :: (32, .fl (.own 5) 1 (List.map (Value.int .u8) v2.1)) :: (33, .fl .ro 1 (List.map (Value.int .u8) [46, 13, 10])) :: (34, .v (.bool v4)) :: (35, .v (.bool v4)) :: (36, .v (.bool true)) :: (37, .v (.int .i64 v2.2.1)) :: (38, .v (.bool (v2.2.1 == 7))) :: (39, .v (.bool (v2.2.1 == 7))) :: (40, .v (.bool false)) :: (41, .v undef) :: (42, .v undef) :: (43, .v undef) :: (44, .v undef) :: (45, .v (.bool false)) :: (46, .v (.bool false)) :: (47, .v undef) :: (48, .v undef) :: (49, .v undef) :: (50, .v undef) :: (51, .v undef) :: (52, .v (.bool false)) :: (0, .v (.bool false)) :: []) [0,1,2,3,4,5,6] [0,40] (zq [3] 7 20 :: zq [7] 8 21 :: zq [8] 9 22 :: zq [9,6] 10 23 :: zq [9,10] 11 24 :: zq [9,11] 12 25 :: zq [12] 13 26 :: ⟨[13], [2], [14], [(.slot 27)]⟩ :: zq [13,14] 15 28 :: zq [13,15] 16 29 :: zq [13,16] 17 30 :: zq [17] 18 31 :: ⟨[18], [4], [19], [(.slot 32)]⟩ :: zq [18,1] 20 33 :: zq [18,19,20] 21 34 :: zq [18,21] 22 35 :: zq [22] 23 36 :: zq [23,5] 24 37 :: zq [23,24] 25 38 :: zq [23,25] 26 39 :: zq [26] 27 40 :: zq [27] 28 41 :: zq [27] 29 42 :: zq [27] 30 43 :: zq [27] 31 44 :: zq [27] 32 45 :: zq [32] 33 46 :: zq [33] 34 47 :: zq [33] 35 48 :: zq [33] 36 49 :: zq [33] 37 50 :: zq [33] 38 51 :: zq [33] 39 52 :: zq [39] 40 0 :: []) [(_,_),(_,_)] (by kernel_rfl) rfl rfl ⟨zm rfl rfl rfl,zo rfl rfl rfl rfl,zm rfl (zb hg4_2) rfl,zr 2 rfl rfl rfl (op_move _ _ _ _ rfl rfl),zr 2 rfl rfl rfl (op_bin _ _ _ _ _ rfl rfl rfl),zk true rfl rfl rfl,zm rfl (zb hg4_6) rfl,zr 6 rfl rfl rfl (op_move_take _ _ _ _ rfl),zr 6 rfl rfl rfl ((Option.some.inj hv3) ▸ op_bytes_str _ _ _ v1.1 Tryd.underlying22 Tryd.underlying9 Tryd.underlying5 rfl),zr 6 rfl rfl rfl (op_bin _ _ _ _ _ rfl rfl rfl),zk true rfl rfl rfl,zm rfl (zb hg4_11) rfl,zr 11 rfl rfl rfl (op_move_take _ _ _ _ rfl),zr 11 rfl rfl rfl (op_move _ _ _ _ rfl rfl),zr 11 rfl rfl rfl (op_call _ _ 18 _ _ rfl Tryd.call18 rfl (ok_wherrykeep_Bytes v2.1 [46, 13, 10] _ hv4) rfl rfl),zk true rfl rfl rfl,zm rfl (zb hg4_16) rfl,zr 16 rfl rfl rfl (op_move _ _ _ _ rfl rfl),zr 16 rfl rfl rfl (op_bin _ _ _ _ _ rfl rfl rfl),zk true rfl rfl rfl,zm rfl (zb hg4_20) rfl,zs 20 true rfl rfl rfl rfl,zs 20 true rfl rfl rfl rfl,zs 20 true rfl rfl rfl rfl,zs 20 true rfl rfl rfl rfl,zk false rfl rfl rfl,zm rfl rfl rfl,zs 26 true rfl rfl rfl rfl,zs 26 true rfl rfl rfl rfl,zs 26 true rfl rfl rfl rfl,zs 26 true rfl rfl rfl rfl,zs 26 true rfl rfl rfl rfl,zk false rfl rfl rfl,za rfl rfl rfl,trivial⟩ ?_
        exact hl9 _ (Option.some.inj h).symm
      ·refine zh hn (_ :: _ :: _ :: _ :: _ :: _ :: _ :: (20, .v (.int .i64 v1.2)) :: (21, .v (.bool (v1.2 == 0))) :: (22, .v (.bool true)) :: (23, .v (.int .i64 v2.2.2)) :: (24, .v (.bool (v2.2.2 == 0))) :: (25, .v (.bool (v2.2.2 == 0))) :: (26, .v (.bool true)) :: (27, .fl (.own 5) 1 (List.map (Value.int .u8) v1.1)) :: (28, .v (.string v3)) :: (29, .v (.bool ((v3.toList == (⟨#[46, 46, 13, 10, 46, 13, 10]⟩ : ByteArray).toList)))) :: (30, .v (.bool ((v3.toList == (⟨#[46, 46, 13, 10, 46, 13, 10]⟩ : ByteArray).toList)))) :: (31, .v (.bool true)) :: (32, .fl (.own 5) 1 (List.map (Value.int .u8) v2.1)) :: (33, .fl .ro 1 (List.map (Value.int .u8) [46, 13, 10])) :: (34, .v (.bool v4)) :: (35, .v (.bool v4)) :: (36, .v (.bool false)) :: (37, .v undef) :: (38, .v undef) :: (39, .v (.bool false)) :: (40, .v (.bool false)) :: (41, .v undef) :: (42, .v undef) :: (43, .v undef) :: (44, .v undef) :: (45, .v (.bool false)) :: (46, .v (.bool false)) :: (47, .v undef) :: (48, .v undef) :: (49, .v undef) :: (50, .v undef) :: (51, .v undef) :: (52, .v (.bool false)) :: (0, .v (.bool false)) :: []) [0,1,2,3,4,5,6] [0,40] (zq [3] 7 20 :: zq [7] 8 21 :: zq [8] 9 22 :: zq [9,6] 10 23 :: zq [9,10] 11 24 :: zq [9,11] 12 25 :: zq [12] 13 26 :: ⟨[13], [2], [14], [(.slot 27)]⟩ :: zq [13,14] 15 28 :: zq [13,15] 16 29 :: zq [13,16] 17 30 :: zq [17] 18 31 :: ⟨[18], [4], [19], [(.slot 32)]⟩ :: zq [18,1] 20 33 :: zq [18,19,20] 21 34 :: zq [18,21] 22 35 :: zq [22] 23 36 :: zq [23] 24 37 :: zq [23] 25 38 :: zq [23] 26 39 :: zq [26] 27 40 :: zq [27] 28 41 :: zq [27] 29 42 :: zq [27] 30 43 :: zq [27] 31 44 :: zq [27] 32 45 :: zq [32] 33 46 :: zq [33] 34 47 :: zq [33] 35 48 :: zq [33] 36 49 :: zq [33] 37 50 :: zq [33] 38 51 :: zq [33] 39 52 :: zq [39] 40 0 :: []) [(_,_),(_,_)] (by kernel_rfl) rfl rfl ⟨zm rfl rfl rfl,zo rfl rfl rfl rfl,zm rfl (zb hg4_2) rfl,zr 2 rfl rfl rfl (op_move _ _ _ _ rfl rfl),zr 2 rfl rfl rfl (op_bin _ _ _ _ _ rfl rfl rfl),zk true rfl rfl rfl,zm rfl (zb hg4_6) rfl,zr 6 rfl rfl rfl (op_move_take _ _ _ _ rfl),zr 6 rfl rfl rfl ((Option.some.inj hv3) ▸ op_bytes_str _ _ _ v1.1 Tryd.underlying22 Tryd.underlying9 Tryd.underlying5 rfl),zr 6 rfl rfl rfl (op_bin _ _ _ _ _ rfl rfl rfl),zk true rfl rfl rfl,zm rfl (zb hg4_11) rfl,zr 11 rfl rfl rfl (op_move_take _ _ _ _ rfl),zr 11 rfl rfl rfl (op_move _ _ _ _ rfl rfl),zr 11 rfl rfl rfl (op_call _ _ 18 _ _ rfl Tryd.call18 rfl (ok_wherrykeep_Bytes v2.1 [46, 13, 10] _ hv4) rfl rfl),zk true rfl rfl rfl,zm rfl (zb hg4_16) rfl,zs 16 true rfl rfl rfl rfl,zs 16 true rfl rfl rfl rfl,zk false rfl rfl rfl,zm rfl rfl rfl,zs 20 true rfl rfl rfl rfl,zs 20 true rfl rfl rfl rfl,zs 20 true rfl rfl rfl rfl,zs 20 true rfl rfl rfl rfl,zk false rfl rfl rfl,zm rfl rfl rfl,zs 26 true rfl rfl rfl rfl,zs 26 true rfl rfl rfl rfl,zs 26 true rfl rfl rfl rfl,zs 26 true rfl rfl rfl rfl,zs 26 true rfl rfl rfl rfl,zk false rfl rfl rfl,za rfl rfl rfl,trivial⟩ ?_
       exact hl9 _ (Option.some.inj h).symm
     ·refine zh hn (_ :: _ :: _ :: _ :: _ :: _ :: _ :: (20, .v (.int .i64 v1.2)) :: (21, .v (.bool (v1.2 == 0))) :: (22, .v (.bool true)) :: (23, .v (.int .i64 v2.2.2)) :: (24, .v (.bool (v2.2.2 == 0))) :: (25, .v (.bool (v2.2.2 == 0))) :: (26, .v (.bool true)) :: (27, .fl (.own 5) 1 (List.map (Value.int .u8) v1.1)) :: (28, .v (.string v3)) :: (29, .v (.bool ((v3.toList == (⟨#[46, 46, 13, 10, 46, 13, 10]⟩ : ByteArray).toList)))) :: (30, .v (.bool ((v3.toList == (⟨#[46, 46, 13, 10, 46, 13, 10]⟩ : ByteArray).toList)))) :: (31, .v (.bool false)) :: (32, .v undef) :: (33, .v undef) :: (34, .v undef) :: (35, .v (.bool false)) :: (36, .v (.bool false)) :: (37, .v undef) :: (38, .v undef) :: (39, .v (.bool false)) :: (40, .v (.bool false)) :: (41, .v undef) :: (42, .v undef) :: (43, .v undef) :: (44, .v undef) :: (45, .v (.bool false)) :: (46, .v (.bool false)) :: (47, .v undef) :: (48, .v undef) :: (49, .v undef) :: (50, .v undef) :: (51, .v undef) :: (52, .v (.bool false)) :: (0, .v (.bool false)) :: []) [0,1,2,3,4,5,6] [0,40] (zq [3] 7 20 :: zq [7] 8 21 :: zq [8] 9 22 :: zq [9,6] 10 23 :: zq [9,10] 11 24 :: zq [9,11] 12 25 :: zq [12] 13 26 :: ⟨[13], [2], [14], [(.slot 27)]⟩ :: zq [13,14] 15 28 :: zq [13,15] 16 29 :: zq [13,16] 17 30 :: zq [17] 18 31 :: zq [18] 19 32 :: zq [18] 20 33 :: zq [18] 21 34 :: zq [18] 22 35 :: zq [22] 23 36 :: zq [23] 24 37 :: zq [23] 25 38 :: zq [23] 26 39 :: zq [26] 27 40 :: zq [27] 28 41 :: zq [27] 29 42 :: zq [27] 30 43 :: zq [27] 31 44 :: zq [27] 32 45 :: zq [32] 33 46 :: zq [33] 34 47 :: zq [33] 35 48 :: zq [33] 36 49 :: zq [33] 37 50 :: zq [33] 38 51 :: zq [33] 39 52 :: zq [39] 40 0 :: []) [(_,_),(_,_)] (by kernel_rfl) rfl rfl ⟨zm rfl rfl rfl,zo rfl rfl rfl rfl,zm rfl (zb hg4_2) rfl,zr 2 rfl rfl rfl (op_move _ _ _ _ rfl rfl),zr 2 rfl rfl rfl (op_bin _ _ _ _ _ rfl rfl rfl),zk true rfl rfl rfl,zm rfl (zb hg4_6) rfl,zr 6 rfl rfl rfl (op_move_take _ _ _ _ rfl),zr 6 rfl rfl rfl ((Option.some.inj hv3) ▸ op_bytes_str _ _ _ v1.1 Tryd.underlying22 Tryd.underlying9 Tryd.underlying5 rfl),zr 6 rfl rfl rfl (op_bin _ _ _ _ _ rfl rfl rfl),zk true rfl rfl rfl,zm rfl (zb hg4_11) rfl,zs 11 true rfl rfl rfl rfl,zs 11 true rfl rfl rfl rfl,zs 11 true rfl rfl rfl rfl,zk false rfl rfl rfl,zm rfl rfl rfl,zs 16 true rfl rfl rfl rfl,zs 16 true rfl rfl rfl rfl,zk false rfl rfl rfl,zm rfl rfl rfl,zs 20 true rfl rfl rfl rfl,zs 20 true rfl rfl rfl rfl,zs 20 true rfl rfl rfl rfl,zs 20 true rfl rfl rfl rfl,zk false rfl rfl rfl,zm rfl rfl rfl,zs 26 true rfl rfl rfl rfl,zs 26 true rfl rfl rfl rfl,zs 26 true rfl rfl rfl rfl,zs 26 true rfl rfl rfl rfl,zs 26 true rfl rfl rfl rfl,zk false rfl rfl rfl,za rfl rfl rfl,trivial⟩ ?_
      exact hl9 _ (Option.some.inj h).symm
    ·refine zh hn (_ :: _ :: _ :: _ :: _ :: _ :: _ :: (20, .v (.int .i64 v1.2)) :: (21, .v (.bool (v1.2 == 0))) :: (22, .v (.bool true)) :: (23, .v (.int .i64 v2.2.2)) :: (24, .v (.bool (v2.2.2 == 0))) :: (25, .v (.bool (v2.2.2 == 0))) :: (26, .v (.bool false)) :: (27, .v undef) :: (28, .v undef) :: (29, .v undef) :: (30, .v (.bool false)) :: (31, .v (.bool false)) :: (32, .v undef) :: (33, .v undef) :: (34, .v undef) :: (35, .v (.bool false)) :: (36, .v (.bool false)) :: (37, .v undef) :: (38, .v undef) :: (39, .v (.bool false)) :: (40, .v (.bool false)) :: (41, .v undef) :: (42, .v undef) :: (43, .v undef) :: (44, .v undef) :: (45, .v (.bool false)) :: (46, .v (.bool false)) :: (47, .v undef) :: (48, .v undef) :: (49, .v undef) :: (50, .v undef) :: (51, .v undef) :: (52, .v (.bool false)) :: (0, .v (.bool false)) :: []) [0,1,2,3,4,5,6] [0,40] (zq [3] 7 20 :: zq [7] 8 21 :: zq [8] 9 22 :: zq [9,6] 10 23 :: zq [9,10] 11 24 :: zq [9,11] 12 25 :: zq [12] 13 26 :: zq [13] 14 27 :: zq [13] 15 28 :: zq [13] 16 29 :: zq [13] 17 30 :: zq [17] 18 31 :: zq [18] 19 32 :: zq [18] 20 33 :: zq [18] 21 34 :: zq [18] 22 35 :: zq [22] 23 36 :: zq [23] 24 37 :: zq [23] 25 38 :: zq [23] 26 39 :: zq [26] 27 40 :: zq [27] 28 41 :: zq [27] 29 42 :: zq [27] 30 43 :: zq [27] 31 44 :: zq [27] 32 45 :: zq [32] 33 46 :: zq [33] 34 47 :: zq [33] 35 48 :: zq [33] 36 49 :: zq [33] 37 50 :: zq [33] 38 51 :: zq [33] 39 52 :: zq [39] 40 0 :: []) [(_,_),(_,_)] (by kernel_rfl) rfl rfl ⟨zm rfl rfl rfl,zo rfl rfl rfl rfl,zm rfl (zb hg4_2) rfl,zr 2 rfl rfl rfl (op_move _ _ _ _ rfl rfl),zr 2 rfl rfl rfl (op_bin _ _ _ _ _ rfl rfl rfl),zk true rfl rfl rfl,zm rfl (zb hg4_6) rfl,zs 6 true rfl rfl rfl rfl,zs 6 true rfl rfl rfl rfl,zs 6 true rfl rfl rfl rfl,zk false rfl rfl rfl,zm rfl rfl rfl,zs 11 true rfl rfl rfl rfl,zs 11 true rfl rfl rfl rfl,zs 11 true rfl rfl rfl rfl,zk false rfl rfl rfl,zm rfl rfl rfl,zs 16 true rfl rfl rfl rfl,zs 16 true rfl rfl rfl rfl,zk false rfl rfl rfl,zm rfl rfl rfl,zs 20 true rfl rfl rfl rfl,zs 20 true rfl rfl rfl rfl,zs 20 true rfl rfl rfl rfl,zs 20 true rfl rfl rfl rfl,zk false rfl rfl rfl,zm rfl rfl rfl,zs 26 true rfl rfl rfl rfl,zs 26 true rfl rfl rfl rfl,zs 26 true rfl rfl rfl rfl,zs 26 true rfl rfl rfl rfl,zs 26 true rfl rfl rfl rfl,zk false rfl rfl rfl,za rfl rfl rfl,trivial⟩ ?_
     exact hl9 _ (Option.some.inj h).symm
   ·refine zh hn (_ :: _ :: _ :: _ :: _ :: _ :: _ :: (20, .v (.int .i64 v1.2)) :: (21, .v (.bool (v1.2 == 0))) :: (22, .v (.bool false)) :: (23, .v undef) :: (24, .v undef) :: (25, .v (.bool false)) :: (26, .v (.bool false)) :: (27, .v undef) :: (28, .v undef) :: (29, .v undef) :: (30, .v (.bool false)) :: (31, .v (.bool false)) :: (32, .v undef) :: (33, .v undef) :: (34, .v undef) :: (35, .v (.bool false)) :: (36, .v (.bool false)) :: (37, .v undef) :: (38, .v undef) :: (39, .v (.bool false)) :: (40, .v (.bool false)) :: (41, .v undef) :: (42, .v undef) :: (43, .v undef) :: (44, .v undef) :: (45, .v (.bool false)) :: (46, .v (.bool false)) :: (47, .v undef) :: (48, .v undef) :: (49, .v undef) :: (50, .v undef) :: (51, .v undef) :: (52, .v (.bool false)) :: (0, .v (.bool false)) :: []) [0,1,2,3,4,5,6] [0,40] (zq [3] 7 20 :: zq [7] 8 21 :: zq [8] 9 22 :: zq [9] 10 23 :: zq [9] 11 24 :: zq [9] 12 25 :: zq [12] 13 26 :: zq [13] 14 27 :: zq [13] 15 28 :: zq [13] 16 29 :: zq [13] 17 30 :: zq [17] 18 31 :: zq [18] 19 32 :: zq [18] 20 33 :: zq [18] 21 34 :: zq [18] 22 35 :: zq [22] 23 36 :: zq [23] 24 37 :: zq [23] 25 38 :: zq [23] 26 39 :: zq [26] 27 40 :: zq [27] 28 41 :: zq [27] 29 42 :: zq [27] 30 43 :: zq [27] 31 44 :: zq [27] 32 45 :: zq [32] 33 46 :: zq [33] 34 47 :: zq [33] 35 48 :: zq [33] 36 49 :: zq [33] 37 50 :: zq [33] 38 51 :: zq [33] 39 52 :: zq [39] 40 0 :: []) [(_,_),(_,_)] (by kernel_rfl) rfl rfl ⟨zm rfl rfl rfl,zo rfl rfl rfl rfl,zm rfl (zb hg4_2) rfl,zs 2 true rfl rfl rfl rfl,zs 2 true rfl rfl rfl rfl,zk false rfl rfl rfl,zm rfl rfl rfl,zs 6 true rfl rfl rfl rfl,zs 6 true rfl rfl rfl rfl,zs 6 true rfl rfl rfl rfl,zk false rfl rfl rfl,zm rfl rfl rfl,zs 11 true rfl rfl rfl rfl,zs 11 true rfl rfl rfl rfl,zs 11 true rfl rfl rfl rfl,zk false rfl rfl rfl,zm rfl rfl rfl,zs 16 true rfl rfl rfl rfl,zs 16 true rfl rfl rfl rfl,zk false rfl rfl rfl,zm rfl rfl rfl,zs 20 true rfl rfl rfl rfl,zs 20 true rfl rfl rfl rfl,zs 20 true rfl rfl rfl rfl,zs 20 true rfl rfl rfl rfl,zk false rfl rfl rfl,zm rfl rfl rfl,zs 26 true rfl rfl rfl rfl,zs 26 true rfl rfl rfl rfl,zs 26 true rfl rfl rfl rfl,zs 26 true rfl rfl rfl rfl,zs 26 true rfl rfl rfl rfl,zk false rfl rfl rfl,za rfl rfl rfl,trivial⟩ ?_
    exact hl9 _ (Option.some.inj h).symm
set_option maxHeartbeats 1000000 in
theorem ok_wherrykeep_Twin (l : (List Int)) (r : (List Int)) (h : Sh.wherrykeep_Twin l = some r) : FnOK Tryd.prog 10 [.fl .shr 1 (List.map (Value.int .u8) l)] (.fl (.own 5) 1 (List.map (Value.int .u8) r)) := by
  unfold Sh.wherrykeep_Twin at h
  refine fn_ok Tryd.func10 rfl (zl rfl) rfl rfl fun g0 hn hio => ?_
  refine ht_seq ?_
  refine zh hn [_, (2, .v (.slice none 0 0))] [0] [0] [zq [] 1 2] [(_,_)] (by kernel_rfl) rfl rfl ⟨za rfl rfl rfl,trivial⟩ ?_
  refine pt_then ?_
  refine ht_seq ?_
  refine zh hn [_, (3, .v (.slice none 0 0))] [0] [0,1] [zq [] 1 3] [(_,_),(_,_)] (by kernel_rfl) rfl rfl ⟨za rfl rfl rfl,trivial⟩ ?_
  refine pt_then ?_
  refine ht_seq ?_
  obtain ⟨v1, hv1, h⟩ := bind_some h
  refine zh hn [_, _, (4, .v (.slice none 0 0)), (5, .fl .shr 1 (List.map (Value.int .u8) l)), (6, .fl (.own 5) 1 (List.map (Value.int .u8) v1)), (2, .fl (.own 5) 1 (List.map (Value.int .u8) v1))] [0,1] [5] [zq [1] 2 4, zq [0] 3 5, zq [2,3] 4 6, ⟨[], [4], [5], [(.slot 2)]⟩] [(_,_)] (by kernel_rfl) rfl rfl ⟨zm rfl rfl rfl,zm rfl rfl rfl,zp rfl (op_app_nil _ _ _ _ el22 rfl rfl (map_len _) hv1 (congrArg (List.map _) (app_nil_eq hv1))),zp rfl (op_assign_take _ _ _ _ rfl),trivial⟩ ?_
  refine pt_then ?_
  refine ht_ret ?_
  obtain rfl := Option.some.inj h
  exact pt_ret hio rfl (.tmp _ _ .nil) rfl rfl
set_option maxHeartbeats 1000000 in
theorem ok_wherryref11_Body (b : (List Int)) (r : Bool) (h : Sh.wherryref11_Body b = some r) : FnOK Tryd.prog 16 [.fl .shr 1 (List.map (Value.int .u8) b)] (.v (.bool r)) := by
  unfold Sh.wherryref11_Body at h
  refine fn_ok Tryd.func16 rfl (zl rfl) rfl rfl fun g0 hn hio => ?_
  refine ht_seq ?_
  refine zh hn [_, (2, .v (.bool false))] [0] [0] [zq [] 1 2] [(_,_)] (by kernel_rfl) rfl rfl ⟨za rfl rfl rfl,trivial⟩ ?_
  refine pt_then ?_
  refine ht_seq ?_
  refine ht_seq ?_
  refine zh hn [_, (3, .v (.int .i64 0))] [0] [0,1] [zq [] 1 3] [(_,_),(_,_)] (by kernel_rfl) rfl rfl ⟨za rfl rfl rfl,trivial⟩ ?_
  refine pt_then ?_
  refine ht_loopS h (fun (s31 : Int) => [(0, .fl .shr 1 (List.map (Value.int .u8) b)), (3, .v (.int .i64 s31))]) (fun (() : Unit) => [(0, .fl .shr 1 (List.map (Value.int .u8) b))]) ?_ ?_
  ·rintro ⟨⟩ h
   refine pt_then ?_
   refine ht_seq ?_
   refine ht_joinS h (fun (s53 : Bool) => [(2, .v (.bool s53))]) ?_ ?_
   ·rintro s53 h
    refine pt_then ?_
    refine ht_ret ?_
    obtain rfl := Option.some.inj h
    exact pt_ret hio rfl (.tmp _ _ .nil) rfl rfl
   ·intro u54 h hl55 hr56
    refine cond_some h (fun hg6_3 h => ?_) (fun hg6_3 h => ?_)
    ·refine zh hn [_, (49, .fl .shr 1 (List.map (Value.int .u8) b)), (50, .v (.int .i64 (b.length : Int))), (51, .v (.bool (((b.length : Int) == 0)))), (52, .v (.bool true)), (53, .v undef), (54, .v undef), (55, .v undef), (56, .v undef), (57, .v undef), (58, .v undef), (59, .v undef), (60, .v (.bool true)), (2, .v (.bool true))] [0] [13] [zq [0] 1 49, zq [1] 2 50, zq [2] 3 51, zq [3] 4 52, zq [4] 5 53, zq [4] 6 54, zq [4] 7 55, zq [4] 8 56, zq [4] 9 57, zq [4] 10 58, zq [4] 11 59, zq [4] 12 60, zq [12] 13 2] [(_,_)] (by kernel_rfl) rfl rfl ⟨zm rfl rfl rfl,zp rfl (op_len_fl _ _ _ Tryd.underlying22 rfl (by decide) (map_len _)),zo rfl rfl rfl rfl,zm rfl (zb hg6_3) rfl,zs 3 false rfl rfl rfl rfl,zs 3 false rfl rfl rfl rfl,zs 3 false rfl rfl rfl rfl,zs 3 false rfl rfl rfl rfl,zs 3 false rfl rfl rfl rfl,zs 3 false rfl rfl rfl rfl,zs 3 false rfl rfl rfl rfl,zk true rfl rfl rfl,za rfl rfl rfl,trivial⟩ ?_
     exact hl55 _ (Option.some.inj h).symm
    ·obtain ⟨v50, hv50, h⟩ := bind_some h
     obtain ⟨v51, hv51, h⟩ := bind_some h
     obtain ⟨v52, hv52, h⟩ := bind_some h
     refine zh hn [_, (49, .fl .shr 1 (List.map (Value.int .u8) b)), (50, .v (.int .i64 (b.length : Int))), (51, .v (.bool (((b.length : Int) == 0)))), (52, .v (.bool false)), (53, .fl .shr 1 (List.map (Value.int .u8) b)), (54, .fl .shr 1 (List.map (Value.int .u8) b)), (55, .v (.int .i64 (b.length : Int))), (56, .v (.int .i64 v50)), (57, .eref (.slot 53) (v51 * 1)), (58, .v (.int .u8 v52)), (59, .v (.bool (v52 == 10))), (60, .v (.bool (v52 == 10))), (2, .v (.bool (v52 == 10)))] [0] [13] [zq [0] 1 49, zq [1] 2 50, zq [2] 3 51, zq [3] 4 52, zq [4,0] 5 53, zq [4,0] 6 54, zq [4,6] 7 55, zq [4,7] 8 56, zq [4,5,8] 9 57, zq [4,9,5] 10 58, zq [4,10] 11 59, zq [4,11] 12 60, zq [12] 13 2] [(_,_)] (by kernel_rfl) rfl rfl ⟨zm rfl rfl rfl,zp rfl (op_len_fl _ _ _ Tryd.underlying22 rfl (by decide) (map_len _)),zo rfl rfl rfl rfl,zm rfl (zb hg6_3) rfl,zr 3 rfl rfl rfl (op_move _ _ _ _ rfl rfl),zr 3 rfl rfl rfl (op_move _ _ _ _ rfl rfl),zr 3 rfl rfl rfl (op_len_fl _ _ _ Tryd.underlying22 rfl (by decide) (map_len _)),zr 3 rfl rfl rfl (op_bin _ _ _ _ _ rfl rfl (ibind (f := Value.int .i64) (Option.some.inj hv50))),zr 3 rfl rfl rfl (op_ix _ _ _ _ _ _ _ _ Tryd.underlying22 sz5 (by decide) rfl rfl rfl (ix_ok hv51).1 (map_lt (ix_ok hv51).2) rfl),zr 3 rfl rfl rfl (op_load_e _ _ _ _ _ _ Tryd.underlying5 rfl rfl rfl (map_get hv52)),zr 3 rfl rfl rfl (op_bin _ _ _ _ _ rfl rfl rfl),zk false rfl rfl rfl,za rfl rfl rfl,trivial⟩ ?_
     exact hl55 _ (Option.some.inj h).symm
  ·rintro u38 hl39 hr40 s31 rr43 h ho41
   refine ht_seq ?_
   refine ht_seq ?_
   refine zh hn [_, _, (4, .v (.int .i64 s31)), (5, .fl .shr 1 (List.map (Value.int .u8) b)), (6, .v (.int .i64 (b.length : Int))), (7, .v (.bool ((decide (s31 < (b.length : Int))))))] [0,1] [0,1,5] [zq [1] 2 4, zq [0] 3 5, zq [3] 4 6, zq [2,4] 5 7] [(_,_),(_,_),(_,_)] (by kernel_rfl) rfl rfl ⟨zm rfl rfl rfl,zm rfl rfl rfl,zp rfl (op_len_fl _ _ _ Tryd.underlying22 rfl (by decide) (map_len _)),zo rfl rfl rfl rfl,trivial⟩ ?_
   refine pt_then ?_
   refine ht_cond _ rfl (fun hb44 => ?_) (fun hb44 => ?_)
   ·have h := cond_t hb44 h
    refine ht_skip ?_
    refine pt_then ?_
    refine ht_seq ?_
    refine ht_block ?_
    refine ht_seq ?_
    refine ht_joinS h (fun (s45 : Bool) => [(0, .fl .shr 1 (List.map (Value.int .u8) b)), (3, .v (.int .i64 s31)), (48, .v (.bool s45))]) ?_ ?_
    ·rintro s45 h
     refine pt_then ?_
     refine ht_cond _ rfl (fun hb49 => ?_) (fun hb49 => ?_)
     ·have h := cond_t hb49 h
      refine ht_seq ?_
      refine zh hn [_, _, _, (2, .v (.bool false))] [0,1,2] [3] [zq [] 3 2] [(_,_)] (by kernel_rfl) rfl rfl ⟨za rfl rfl rfl,trivial⟩ ?_
      refine pt_then ?_
      refine ht_ret ?_
      refine pt_r_in ?_
      refine pt_r_then ?_
      refine pt_r_then ?_
      refine pt_r_in ?_
      refine pt_r_then ?_
      have h := hr40 _ (ho41 _ (Option.some.inj h).symm).symm
      obtain rfl := Option.some.inj h
      exact pt_ret hio rfl (.tmp _ _ .nil) rfl rfl
     ·have h := cond_f hb49 h
      refine ht_skip ?_
      refine pt_inb ?_
      refine pt_then ?_
      obtain ⟨v23, hv23, h⟩ := bind_some h
      refine zh hn [_, _, _, (8, .v (.int .i64 s31)), (9, .v (.int .i64 v23)), (3, .v (.int .i64 v23))] [0,1,2] [0,5] [zq [1] 3 8, zq [3] 4 9, ⟨[4], [1], [5], [(.slot 3)]⟩] [(_,_),(_,_)] (by kernel_rfl) rfl rfl ⟨zm rfl rfl rfl,zp rfl (op_bin _ _ _ _ _ rfl rfl (ibind (f := Value.int .i64) (Option.some.inj hv23))),zp rfl (LOp.drop [_] (op_assign _ _ _ _ rfl rfl)),trivial⟩ ?_
      exact pt_next _ (Option.some.inj h).symm rfl
    ·intro u46 h hl47 hr48
     obtain ⟨v2, hv2, h⟩ := bind_some h
     obtain ⟨v3, hv3, h⟩ := bind_some h
     refine cond_some h (fun hg4_5 h => ?_) (fun hg4_5 h => ?_)
     ·obtain ⟨v4, hv4, h⟩ := bind_some h
      refine cond_some h (fun hg4_11 h => ?_) (fun hg4_11 h => ?_)
      ·refine zh hn (_ :: _ :: _ :: (10, .fl .shr 1 (List.map (Value.int .u8) b)) :: (11, .v (.int .i64 s31)) :: (12, .eref (.slot 10) (v2 * 1)) :: (13, .v (.int .u8 v3)) :: (14, .v (.bool (v3 == 13))) :: (15, .v (.bool true)) :: (16, .v (.int .i64 s31)) :: (17, .v (.int .i64 v4)) :: (18, .fl .shr 1 (List.map (Value.int .u8) b)) :: (19, .v (.int .i64 (b.length : Int))) :: (20, .v (.bool ((decide ((b.length : Int) ≤ v4))))) :: (21, .v (.bool true)) :: (22, .v undef) :: (23, .v undef) :: (24, .v undef) :: (25, .v undef) :: (26, .v undef) :: (27, .v undef) :: (28, .v (.bool true)) :: (29, .v (.bool true)) :: (30, .v (.bool true)) :: (31, .v undef) :: (32, .v undef) :: (33, .v undef) :: (34, .v undef) :: (35, .v undef) :: (36, .v undef) :: (37, .v undef) :: (38, .v undef) :: (39, .v undef) :: (40, .v undef) :: (41, .v undef) :: (42, .v undef) :: (43, .v undef) :: (44, .v undef) :: (45, .v undef) :: (46, .v undef) :: (47, .v undef) :: (48, .v (.bool true)) :: []) [0,1,2] [0,1,41] (zq [0] 3 10 :: zq [1] 4 11 :: zq [3,4] 5 12 :: zq [5,3] 6 13 :: zq [6] 7 14 :: zq [7] 8 15 :: zq [8,1] 9 16 :: zq [8,9] 10 17 :: zq [8,0] 11 18 :: zq [8,11] 12 19 :: zq [8,10,12] 13 20 :: zq [8,13] 14 21 :: zq [14] 15 22 :: zq [14] 16 23 :: zq [14] 17 24 :: zq [14] 18 25 :: zq [14] 19 26 :: zq [14] 20 27 :: zq [8,14] 21 28 :: zq [8,21] 22 29 :: zq [22] 23 30 :: zq [23] 24 31 :: zq [23] 25 32 :: zq [23] 26 33 :: zq [23] 27 34 :: zq [23] 28 35 :: zq [23] 29 36 :: zq [29] 30 37 :: zq [29] 31 38 :: zq [29] 32 39 :: zq [32] 33 40 :: zq [32] 34 41 :: zq [32] 35 42 :: zq [32] 36 43 :: zq [32] 37 44 :: zq [32] 38 45 :: zq [29] 39 46 :: zq [23] 40 47 :: zq [23] 41 48 :: []) [(_,_),(_,_),(_,_)] (by kernel_rfl) rfl rfl ⟨zm rfl rfl rfl,zm rfl rfl rfl,zp rfl (op_ix _ _ _ _ _ _ _ _ Tryd.underlying22 sz5 (by decide) rfl rfl rfl (ix_ok hv2).1 (map_lt (ix_ok hv2).2) rfl),zp rfl (op_load_e _ _ _ _ _ _ Tryd.underlying5 rfl rfl rfl (map_get hv3)),zo rfl rfl rfl rfl,zm rfl (zb hg4_5) rfl,zr 5 rfl rfl rfl (op_move _ _ _ _ rfl rfl),zr 5 rfl rfl rfl (op_bin _ _ _ _ _ rfl rfl (ibind (f := Value.int .i64) (Option.some.inj hv4))),zr 5 rfl rfl rfl (op_move _ _ _ _ rfl rfl),zr 5 rfl rfl rfl (op_len_fl _ _ _ Tryd.underlying22 rfl (by decide) (map_len _)),zr 5 rfl rfl rfl (op_bin _ _ _ _ _ rfl rfl rfl),zr 5 rfl rfl rfl (op_move _ _ _ _ (zb hg4_11) rfl),zs 11 false rfl rfl rfl rfl,zs 11 false rfl rfl rfl rfl,zs 11 false rfl rfl rfl rfl,zs 11 false rfl rfl rfl rfl,zs 11 false rfl rfl rfl rfl,zs 11 false rfl rfl rfl rfl,zr 5 rfl rfl rfl (op_pick _ _ true _ rfl rfl),zk true rfl rfl rfl,zm rfl rfl rfl,zs 20 false rfl rfl rfl rfl,zs 20 false rfl rfl rfl rfl,zs 20 false rfl rfl rfl rfl,zs 20 false rfl rfl rfl rfl,zs 20 false rfl rfl rfl rfl,zs 20 false rfl rfl rfl rfl,zu 26 rfl rfl rfl rfl,zu 26 rfl rfl rfl rfl,zu 26 rfl rfl rfl rfl,zu 29 rfl rfl rfl rfl,zu 29 rfl rfl rfl rfl,zu 29 rfl rfl rfl rfl,zu 29 rfl rfl rfl rfl,zu 29 rfl rfl rfl rfl,zu 29 rfl rfl rfl rfl,zu 26 rfl rfl rfl rfl,zs 20 false rfl rfl rfl rfl,zk true rfl rfl rfl,trivial⟩ ?_
       exact hl47 _ (Option.some.inj h).symm
      ·obtain ⟨v5, hv5, h⟩ := bind_some h
       obtain ⟨v6, hv6, h⟩ := bind_some h
       obtain ⟨v7, hv7, h⟩ := bind_some h
       refine cond_some h (fun hg4_20 h => ?_) (fun hg4_20 h => ?_)
       ·refine zh hn (_ :: _ :: _ :: (10, .fl .shr 1 (List.map (Value.int .u8) b)) :: (11, .v (.int .i64 s31)) :: (12, .eref (.slot 10) (v2 * 1)) :: (13, .v (.int .u8 v3)) :: (14, .v (.bool (v3 == 13))) :: (15, .v (.bool true)) :: (16, .v (.int .i64 s31)) :: (17, .v (.int .i64 v4)) :: (18, .fl .shr 1 (List.map (Value.int .u8) b)) :: (19, .v (.int .i64 (b.length : Int))) :: (20, .v (.bool ((decide ((b.length : Int) ≤ v4))))) :: (21, .v (.bool false)) :: (22, .fl .shr 1 (List.map (Value.int .u8) b)) :: (23, .v (.int .i64 s31)) :: (24, .v (.int .i64 v5)) :: (25, .eref (.slot 22) (v6 * 1)) :: (26, .v (.int .u8 v7)) :: (27, .v (.bool (v7 != 10))) :: (28, .v (.bool (v7 != 10))) :: (29, .v (.bool (v7 != 10))) :: (30, .v (.bool true)) :: (31, .v undef) :: (32, .v undef) :: (33, .v undef) :: (34, .v undef) :: (35, .v undef) :: (36, .v undef) :: (37, .v undef) :: (38, .v undef) :: (39, .v undef) :: (40, .v undef) :: (41, .v undef) :: (42, .v undef) :: (43, .v undef) :: (44, .v undef) :: (45, .v undef) :: (46, .v undef) :: (47, .v undef) :: (48, .v (.bool true)) :: []) [0,1,2] [0,1,41] (zq [0] 3 10 :: zq [1] 4 11 :: zq [3,4] 5 12 :: zq [5,3] 6 13 :: zq [6] 7 14 :: zq [7] 8 15 :: zq [8,1] 9 16 :: zq [8,9] 10 17 :: zq [8,0] 11 18 :: zq [8,11] 12 19 :: zq [8,10,12] 13 20 :: zq [8,13] 14 21 :: zq [14,0] 15 22 :: zq [14,1] 16 23 :: zq [14,16] 17 24 :: zq [14,15,17] 18 25 :: zq [14,18,15] 19 26 :: zq [14,19] 20 27 :: zq [8,14,20] 21 28 :: zq [8,21] 22 29 :: zq [22] 23 30 :: zq [23] 24 31 :: zq [23] 25 32 :: zq [23] 26 33 :: zq [23] 27 34 :: zq [23] 28 35 :: zq [23] 29 36 :: zq [29] 30 37 :: zq [29] 31 38 :: zq [29] 32 39 :: zq [32] 33 40 :: zq [32] 34 41 :: zq [32] 35 42 :: zq [32] 36 43 :: zq [32] 37 44 :: zq [32] 38 45 :: zq [29] 39 46 :: zq [23] 40 47 :: zq [23] 41 48 :: []) [(_,_),(_,_),(_,_)] (by kernel_rfl) rfl rfl ⟨zm rfl rfl rfl,zm rfl rfl rfl,zp rfl (op_ix _ _ _ _ _ _ _ _ Tryd.underlying22 sz5 (by decide) rfl rfl rfl (ix_ok hv2).1 (map_lt (ix_ok hv2).2) rfl),zp rfl (op_load_e _ _ _ _ _ _ Tryd.underlying5 rfl rfl rfl (map_get hv3)),zo rfl rfl rfl rfl,zm rfl (zb hg4_5) rfl,zr 5 rfl rfl rfl (op_move _ _ _ _ rfl rfl),zr 5 rfl rfl rfl (op_bin _ _ _ _ _ rfl rfl (ibind (f := Value.int .i64) (Option.some.inj hv4))),zr 5 rfl rfl rfl (op_move _ _ _ _ rfl rfl),zr 5 rfl rfl rfl (op_len_fl _ _ _ Tryd.underlying22 rfl (by decide) (map_len _)),zr 5 rfl rfl rfl (op_bin _ _ _ _ _ rfl rfl rfl),zr 5 rfl rfl rfl (op_move _ _ _ _ (zb hg4_11) rfl),zr 11 rfl rfl rfl (op_move _ _ _ _ rfl rfl),zr 11 rfl rfl rfl (op_move _ _ _ _ rfl rfl),zr 11 rfl rfl rfl (op_bin _ _ _ _ _ rfl rfl (ibind (f := Value.int .i64) (Option.some.inj hv5))),zr 11 rfl rfl rfl (op_ix _ _ _ _ _ _ _ _ Tryd.underlying22 sz5 (by decide) rfl rfl rfl (ix_ok hv6).1 (map_lt (ix_ok hv6).2) rfl),zr 11 rfl rfl rfl (op_load_e _ _ _ _ _ _ Tryd.underlying5 rfl rfl rfl (map_get hv7)),zr 11 rfl rfl rfl (op_bin _ _ _ _ _ rfl rfl rfl),zr 5 rfl rfl rfl (op_pick _ _ false _ rfl rfl),zk true rfl rfl rfl,zm rfl (zb hg4_20) rfl,zs 20 false rfl rfl rfl rfl,zs 20 false rfl rfl rfl rfl,zs 20 false rfl rfl rfl rfl,zs 20 false rfl rfl rfl rfl,zs 20 false rfl rfl rfl rfl,zs 20 false rfl rfl rfl rfl,zu 26 rfl rfl rfl rfl,zu 26 rfl rfl rfl rfl,zu 26 rfl rfl rfl rfl,zu 29 rfl rfl rfl rfl,zu 29 rfl rfl rfl rfl,zu 29 rfl rfl rfl rfl,zu 29 rfl rfl rfl rfl,zu 29 rfl rfl rfl rfl,zu 29 rfl rfl rfl rfl,zu 26 rfl rfl rfl rfl,zs 20 false rfl rfl rfl rfl,zk true rfl rfl rfl,trivial⟩ ?_
        exact hl47 _ (Option.some.inj h).symm
       ·obtain ⟨v8, hv8, h⟩ := bind_some h
        obtain ⟨v9, hv9, h⟩ := bind_some h
        refine cond_some h (fun hg4_26 h => ?_) (fun hg4_26 h => ?_)
        ·refine cond_some h (fun hg4_29 h => ?_) (fun hg4_29 h => ?_)
         ·refine zh hn (_ :: _ :: _ :: (10, .fl .shr 1 (List.map (Value.int .u8) b)) :: (11, .v (.int .i64 s31)) :: (12, .eref (.slot 10) (v2 * 1)) :: (13, .v (.int .u8 v3)) :: (14, .v (.bool (v3 == 13))) :: (15, .v (.bool true)) :: (16, .v (.int .i64 s31)) :: (17, .v (.int .i64 v4)) :: (18, .fl .shr 1 (List.map (Value.int .u8) b)) :: (19, .v (.int .i64 (b.length : Int))) :: (20, .v (.bool ((decide ((b.length : Int) ≤ v4))))) :: (21, .v (.bool false)) :: (22, .fl .shr 1 (List.map (Value.int .u8) b)) :: (23, .v (.int .i64 s31)) :: (24, .v (.int .i64 v5)) :: (25, .eref (.slot 22) (v6 * 1)) :: (26, .v (.int .u8 v7)) :: (27, .v (.bool (v7 != 10))) :: (28, .v (.bool (v7 != 10))) :: (29, .v (.bool (v7 != 10))) :: (30, .v (.bool false)) :: (31, .fl .shr 1 (List.map (Value.int .u8) b)) :: (32, .v (.int .i64 s31)) :: (33, .eref (.slot 31) (v8 * 1)) :: (34, .v (.int .u8 v9)) :: (35, .v (.bool (v9 == 10))) :: (36, .v (.bool true)) :: (37, .v (.int .i64 s31)) :: (38, .v (.bool (s31 == 0))) :: (39, .v (.bool true)) :: (40, .v undef) :: (41, .v undef) :: (42, .v undef) :: (43, .v undef) :: (44, .v undef) :: (45, .v undef) :: (46, .v (.bool true)) :: (47, .v (.bool true)) :: (48, .v (.bool true)) :: []) [0,1,2] [0,1,41] (zq [0] 3 10 :: zq [1] 4 11 :: zq [3,4] 5 12 :: zq [5,3] 6 13 :: zq [6] 7 14 :: zq [7] 8 15 :: zq [8,1] 9 16 :: zq [8,9] 10 17 :: zq [8,0] 11 18 :: zq [8,11] 12 19 :: zq [8,10,12] 13 20 :: zq [8,13] 14 21 :: zq [14,0] 15 22 :: zq [14,1] 16 23 :: zq [14,16] 17 24 :: zq [14,15,17] 18 25 :: zq [14,18,15] 19 26 :: zq [14,19] 20 27 :: zq [8,14,20] 21 28 :: zq [8,21] 22 29 :: zq [22] 23 30 :: zq [23,0] 24 31 :: zq [23,1] 25 32 :: zq [23,24,25] 26 33 :: zq [23,26,24] 27 34 :: zq [23,27] 28 35 :: zq [23,28] 29 36 :: zq [29,1] 30 37 :: zq [29,30] 31 38 :: zq [29,31] 32 39 :: zq [32] 33 40 :: zq [32] 34 41 :: zq [32] 35 42 :: zq [32] 36 43 :: zq [32] 37 44 :: zq [32] 38 45 :: zq [29,32] 39 46 :: zq [23,29,39] 40 47 :: zq [23,40] 41 48 :: []) [(_,_),(_,_),(_,_)] (by kernel_rfl) rfl rfl ⟨zm rfl rfl rfl,zm rfl rfl rfl,zp rfl (op_ix _ _ _ _ _ _ _ _ Tryd.underlying22 sz5 (by decide) rfl rfl rfl (ix_ok hv2).1 (map_lt (ix_ok hv2).2) rfl),zp rfl (op_load_e _ _ _ _ _ _ Tryd.underlying5 rfl rfl rfl (map_get hv3)),zo rfl rfl rfl rfl,zm rfl (zb hg4_5) rfl,zr 5 rfl rfl rfl (op_move _ _ _ _ rfl rfl),zr 5 rfl rfl rfl (op_bin _ _ _ _ _ rfl rfl (ibind (f := Value.int .i64) (Option.some.inj hv4))),zr 5 rfl rfl rfl (op_move _ _ _ _ rfl rfl),zr 5 rfl rfl rfl (op_len_fl _ _ _ Tryd.underlying22 rfl (by decide) (map_len _)),zr 5 rfl rfl rfl (op_bin _ _ _ _ _ rfl rfl rfl),zr 5 rfl rfl rfl (op_move _ _ _ _ (zb hg4_11) rfl),zr 11 rfl rfl rfl (op_move _ _ _ _ rfl rfl),zr 11 rfl rfl rfl (op_move _ _ _ _ rfl rfl),zr 11 rfl rfl rfl (op_bin _ _ _ _ _ rfl rfl (ibind (f := Value.int .i64) (Option.some.inj hv5))),zr 11 rfl rfl rfl (op_ix _ _ _ _ _ _ _ _ Tryd.underlying22 sz5 (by decide) rfl rfl rfl (ix_ok hv6).1 (map_lt (ix_ok hv6).2) rfl),zr 11 rfl rfl rfl (op_load_e _ _ _ _ _ _ Tryd.underlying5 rfl rfl rfl (map_get hv7)),zr 11 rfl rfl rfl (op_bin _ _ _ _ _ rfl rfl rfl),zr 5 rfl rfl rfl (op_pick _ _ false _ rfl rfl),zk true rfl rfl rfl,zm rfl (zb hg4_20) rfl,zr 20 rfl rfl rfl (op_move _ _ _ _ rfl rfl),zr 20 rfl rfl rfl (op_move _ _ _ _ rfl rfl),zr 20 rfl rfl rfl (op_ix _ _ _ _ _ _ _ _ Tryd.underlying22 sz5 (by decide) rfl rfl rfl (ix_ok hv8).1 (map_lt (ix_ok hv8).2) rfl),zr 20 rfl rfl rfl (op_load_e _ _ _ _ _ _ Tryd.underlying5 rfl rfl rfl (map_get hv9)),zr 20 rfl rfl rfl (op_bin _ _ _ _ _ rfl rfl rfl),zr 20 rfl rfl rfl (op_move _ _ _ _ (zb hg4_26) rfl),zr 26 rfl rfl rfl (op_move _ _ _ _ rfl rfl),zr 26 rfl rfl rfl (op_bin _ _ _ _ _ rfl rfl rfl),zr 26 rfl rfl rfl (op_move _ _ _ _ (zb hg4_29) rfl),zs 29 false rfl rfl rfl rfl,zs 29 false rfl rfl rfl rfl,zs 29 false rfl rfl rfl rfl,zs 29 false rfl rfl rfl rfl,zs 29 false rfl rfl rfl rfl,zs 29 false rfl rfl rfl rfl,zr 26 rfl rfl rfl (op_pick _ _ true _ rfl rfl),zr 20 rfl rfl rfl (op_pick _ _ true _ rfl rfl),zk false rfl rfl rfl,trivial⟩ ?_
          exact hl47 _ (Option.some.inj h).symm
         ·obtain ⟨v10, hv10, h⟩ := bind_some h
          obtain ⟨v11, hv11, h⟩ := bind_some h
          obtain ⟨v12, hv12, h⟩ := bind_some h
          refine zh hn (_ :: _ :: _ :: (10, .fl .shr 1 (List.map (Value.int .u8) b)) :: (11, .v (.int .i64 s31)) :: (12, .eref (.slot 10) (v2 * 1)) :: (13, .v (.int .u8 v3)) :: (14, .v (.bool (v3 == 13))) :: (15, .v (.bool true)) :: (16, .v (.int .i64 s31)) :: (17, .v (.int .i64 v4)) :: (18, .fl .shr 1 (List.map (Value.int .u8) b)) :: (19, .v (.int .i64 (b.length : Int))) :: (20, .v (.bool ((decide ((b.length : Int) ≤ v4))))) :: (21, .v (.bool false)) :: (22, .fl .shr 1 (List.map (Value.int .u8) b)) :: (23, .v (.int .i64 s31)) :: (24, .v (.int .i64 v5)) :: (25, .eref (.slot 22) (v6 * 1)) :: (26, .v (.int .u8 v7)) :: (27, .v (.bool (v7 != 10))) :: (28, .v (.bool (v7 != 10))) :: (29, .v (.bool (v7 != 10))) :: (30, .v (.bool false)) :: (31, .fl .shr 1 (List.map (Value.int .u8) b)) :: (32, .v (.int .i64 s31)) :: (33, .eref (.slot 31) (v8 * 1)) :: (34, .v (.int .u8 v9)) :: (35, .v (.bool (v9 == 10))) :: (36, .v (.bool true)) :: (37, .v (.int .i64 s31)) :: (38, .v (.bool (s31 == 0))) :: (39, .v (.bool false)) :: (40, .fl .shr 1 (List.map (Value.int .u8) b)) :: (41, .v (.int .i64 s31)) :: (42, .v (.int .i64 v10)) :: (43, .eref (.slot 40) (v11 * 1)) :: (44, .v (.int .u8 v12)) :: (45, .v (.bool (v12 != 13))) :: (46, .v (.bool (v12 != 13))) :: (47, .v (.bool (v12 != 13))) :: (48, .v (.bool (v12 != 13))) :: []) [0,1,2] [0,1,41] (zq [0] 3 10 :: zq [1] 4 11 :: zq [3,4] 5 12 :: zq [5,3] 6 13 :: zq [6] 7 14 :: zq [7] 8 15 :: zq [8,1] 9 16 :: zq [8,9] 10 17 :: zq [8,0] 11 18 :: zq [8,11] 12 19 :: zq [8,10,12] 13 20 :: zq [8,13] 14 21 :: zq [14,0] 15 22 :: zq [14,1] 16 23 :: zq [14,16] 17 24 :: zq [14,15,17] 18 25 :: zq [14,18,15] 19 26 :: zq [14,19] 20 27 :: zq [8,14,20] 21 28 :: zq [8,21] 22 29 :: zq [22] 23 30 :: zq [23,0] 24 31 :: zq [23,1] 25 32 :: zq [23,24,25] 26 33 :: zq [23,26,24] 27 34 :: zq [23,27] 28 35 :: zq [23,28] 29 36 :: zq [29,1] 30 37 :: zq [29,30] 31 38 :: zq [29,31] 32 39 :: zq [32,0] 33 40 :: zq [32,1] 34 41 :: zq [32,34] 35 42 :: zq [32,33,35] 36 43 :: zq [32,36,33] 37 44 :: zq [32,37] 38 45 :: zq [29,32,38] 39 46 :: zq [23,29,39] 40 47 :: zq [23,40] 41 48 :: []) [(_,_),(_,_),(_,_)] (by kernel_rfl) rfl rfl ⟨zm rfl rfl rfl,zm rfl rfl rfl,zp rfl (op_ix _ _ _ _ _ _ _ _ Tryd.underlying22 sz5 (by decide) rfl rfl rfl (ix_ok hv2).1 (map_lt (ix_ok hv2).2) rfl),zp rfl (op_load_e _ _ _ _ _ _ Tryd.underlying5 rfl rfl rfl (map_get hv3)),zo rfl rfl rfl rfl,zm rfl (zb hg4_5) rfl,zr 5 rfl rfl rfl (op_move _ _ _ _ rfl rfl),zr 5 rfl rfl rfl (op_bin _ _ _ _ _ rfl rfl (ibind (f := Value.int .i64) (Option.some.inj hv4))),zr 5 rfl rfl rfl (op_move _ _ _ _ rfl rfl),zr 5 rfl rfl rfl (op_len_fl _ _ _ Tryd.underlying22 rfl (by decide) (map_len _)),zr 5 rfl rfl rfl (op_bin _ _ _ _ _ rfl rfl rfl),zr 5 rfl rfl rfl (op_move _ _ _ _ (zb hg4_11) rfl),zr 11 rfl rfl rfl (op_move _ _ _ _ rfl rfl),zr 11 rfl rfl rfl (op_move _ _ _ _ rfl rfl),zr 11 rfl rfl rfl (op_bin _ _ _ _ _ rfl rfl (ibind (f := Value.int .i64) (Option.some.inj hv5))),zr 11 rfl rfl rfl (op_ix _ _ _ _ _ _ _ _ Tryd.underlying22 sz5 (by decide) rfl rfl rfl (ix_ok hv6).1 (map_lt (ix_ok hv6).2) rfl),zr 11 rfl rfl rfl (op_load_e _ _ _ _ _ _ Tryd.underlying5 rfl rfl rfl (map_get hv7)),zr 11 rfl rfl rfl (op_bin _ _ _ _ _ rfl rfl rfl),zr 5 rfl rfl rfl (op_pick _ _ false _ rfl rfl),zk true rfl rfl rfl,zm rfl (zb hg4_20) rfl,zr 20 rfl rfl rfl (op_move _ _ _ _ rfl rfl),zr 20 rfl rfl rfl (op_move _ _ _ _ rfl rfl),zr 20 rfl rfl rfl (op_ix _ _ _ _ _ _ _ _ Tryd.underlying22 sz5 (by decide) rfl rfl rfl (ix_ok hv8).1 (map_lt (ix_ok hv8).2) rfl),zr 20 rfl rfl rfl (op_load_e _ _ _ _ _ _ Tryd.underlying5 rfl rfl rfl (map_get hv9)),zr 20 rfl rfl rfl (op_bin _ _ _ _ _ rfl rfl rfl),zr 20 rfl rfl rfl (op_move _ _ _ _ (zb hg4_26) rfl),zr 26 rfl rfl rfl (op_move _ _ _ _ rfl rfl),zr 26 rfl rfl rfl (op_bin _ _ _ _ _ rfl rfl rfl),zr 26 rfl rfl rfl (op_move _ _ _ _ (zb hg4_29) rfl),zr 29 rfl rfl rfl (op_move _ _ _ _ rfl rfl),zr 29 rfl rfl rfl (op_move _ _ _ _ rfl rfl),zr 29 rfl rfl rfl (op_bin _ _ _ _ _ rfl rfl (ibind (f := Value.int .i64) (Option.some.inj hv10))),zr 29 rfl rfl rfl (op_ix _ _ _ _ _ _ _ _ Tryd.underlying22 sz5 (by decide) rfl rfl rfl (ix_ok hv11).1 (map_lt (ix_ok hv11).2) rfl),zr 29 rfl rfl rfl (op_load_e _ _ _ _ _ _ Tryd.underlying5 rfl rfl rfl (map_get hv12)),zr 29 rfl rfl rfl (op_bin _ _ _ _ _ rfl rfl rfl),zr 26 rfl rfl rfl (op_pick _ _ false _ rfl rfl),zr 20 rfl rfl rfl (op_pick _ _ true _ rfl rfl),zk false rfl rfl rfl,trivial⟩ ?_
          exact hl47 _ (Option.some.inj h).symm
        ·refine zh hn (_ :: _ :: _ :: (10, .fl .shr 1 (List.map (Value.int .u8) b)) :: (11, .v (.int .i64 s31)) :: (12, .eref (.slot 10) (v2 * 1)) :: (13, .v (.int .u8 v3)) :: (14, .v (.bool (v3 == 13))) :: (15, .v (.bool true)) :: (16, .v (.int .i64 s31)) :: (17, .v (.int .i64 v4)) :: (18, .fl .shr 1 (List.map (Value.int .u8) b)) :: (19, .v (.int .i64 (b.length : Int))) :: (20, .v (.bool ((decide ((b.length : Int) ≤ v4))))) :: (21, .v (.bool false)) :: (22, .fl .shr 1 (List.map (Value.int .u8) b)) :: (23, .v (.int .i64 s31)) :: (24, .v (.int .i64 v5)) :: (25, .eref (.slot 22) (v6 * 1)) :: (26, .v (.int .u8 v7)) :: (27, .v (.bool (v7 != 10))) :: (28, .v (.bool (v7 != 10))) :: (29, .v (.bool (v7 != 10))) :: (30, .v (.bool false)) :: (31, .fl .shr 1 (List.map (Value.int .u8) b)) :: (32, .v (.int .i64 s31)) :: (33, .eref (.slot 31) (v8 * 1)) :: (34, .v (.int .u8 v9)) :: (35, .v (.bool (v9 == 10))) :: (36, .v (.bool false)) :: (37, .v undef) :: (38, .v undef) :: (39, .v undef) :: (40, .v undef) :: (41, .v undef) :: (42, .v undef) :: (43, .v undef) :: (44, .v undef) :: (45, .v undef) :: (46, .v undef) :: (47, .v (.bool false)) :: (48, .v (.bool false)) :: []) [0,1,2] [0,1,41] (zq [0] 3 10 :: zq [1] 4 11 :: zq [3,4] 5 12 :: zq [5,3] 6 13 :: zq [6] 7 14 :: zq [7] 8 15 :: zq [8,1] 9 16 :: zq [8,9] 10 17 :: zq [8,0] 11 18 :: zq [8,11] 12 19 :: zq [8,10,12] 13 20 :: zq [8,13] 14 21 :: zq [14,0] 15 22 :: zq [14,1] 16 23 :: zq [14,16] 17 24 :: zq [14,15,17] 18 25 :: zq [14,18,15] 19 26 :: zq [14,19] 20 27 :: zq [8,14,20] 21 28 :: zq [8,21] 22 29 :: zq [22] 23 30 :: zq [23,0] 24 31 :: zq [23,1] 25 32 :: zq [23,24,25] 26 33 :: zq [23,26,24] 27 34 :: zq [23,27] 28 35 :: zq [23,28] 29 36 :: zq [29] 30 37 :: zq [29] 31 38 :: zq [29] 32 39 :: zq [32] 33 40 :: zq [32] 34 41 :: zq [32] 35 42 :: zq [32] 36 43 :: zq [32] 37 44 :: zq [32] 38 45 :: zq [29] 39 46 :: zq [23,29] 40 47 :: zq [23,40] 41 48 :: []) [(_,_),(_,_),(_,_)] (by kernel_rfl) rfl rfl ⟨zm rfl rfl rfl,zm rfl rfl rfl,zp rfl (op_ix _ _ _ _ _ _ _ _ Tryd.underlying22 sz5 (by decide) rfl rfl rfl (ix_ok hv2).1 (map_lt (ix_ok hv2).2) rfl),zp rfl (op_load_e _ _ _ _ _ _ Tryd.underlying5 rfl rfl rfl (map_get hv3)),zo rfl rfl rfl rfl,zm rfl (zb hg4_5) rfl,zr 5 rfl rfl rfl (op_move _ _ _ _ rfl rfl),zr 5 rfl rfl rfl (op_bin _ _ _ _ _ rfl rfl (ibind (f := Value.int .i64) (Option.some.inj hv4))),zr 5 rfl rfl rfl (op_move _ _ _ _ rfl rfl),zr 5 rfl rfl rfl (op_len_fl _ _ _ Tryd.underlying22 rfl (by decide) (map_len _)),zr 5 rfl rfl rfl (op_bin _ _ _ _ _ rfl rfl rfl),zr 5 rfl rfl rfl (op_move _ _ _ _ (zb hg4_11) rfl),zr 11 rfl rfl rfl (op_move _ _ _ _ rfl rfl),zr 11 rfl rfl rfl (op_move _ _ _ _ rfl rfl),zr 11 rfl rfl rfl (op_bin _ _ _ _ _ rfl rfl (ibind (f := Value.int .i64) (Option.some.inj hv5))),zr 11 rfl rfl rfl (op_ix _ _ _ _ _ _ _ _ Tryd.underlying22 sz5 (by decide) rfl rfl rfl (ix_ok hv6).1 (map_lt (ix_ok hv6).2) rfl),zr 11 rfl rfl rfl (op_load_e _ _ _ _ _ _ Tryd.underlying5 rfl rfl rfl (map_get hv7)),zr 11 rfl rfl rfl (op_bin _ _ _ _ _ rfl rfl rfl),zr 5 rfl rfl rfl (op_pick _ _ false _ rfl rfl),zk true rfl rfl rfl,zm rfl (zb hg4_20) rfl,zr 20 rfl rfl rfl (op_move _ _ _ _ rfl rfl),zr 20 rfl rfl rfl (op_move _ _ _ _ rfl rfl),zr 20 rfl rfl rfl (op_ix _ _ _ _ _ _ _ _ Tryd.underlying22 sz5 (by decide) rfl rfl rfl (ix_ok hv8).1 (map_lt (ix_ok hv8).2) rfl),zr 20 rfl rfl rfl (op_load_e _ _ _ _ _ _ Tryd.underlying5 rfl rfl rfl (map_get hv9)),zr 20 rfl rfl rfl (op_bin _ _ _ _ _ rfl rfl rfl),zr 20 rfl rfl rfl (op_move _ _ _ _ (zb hg4_26) rfl),zs 26 true rfl rfl rfl rfl,zs 26 true rfl rfl rfl rfl,zs 26 true rfl rfl rfl rfl,zu 29 rfl rfl rfl rfl,zu 29 rfl rfl rfl rfl,zu 29 rfl rfl rfl rfl,zu 29 rfl rfl rfl rfl,zu 29 rfl rfl rfl rfl,zu 29 rfl rfl rfl rfl,zs 26 true rfl rfl rfl rfl,zr 20 rfl rfl rfl (op_pick _ _ false _ rfl rfl),zk false rfl rfl rfl,trivial⟩ ?_
         exact hl47 _ (Option.some.inj h).symm
     ·obtain ⟨v13, hv13, h⟩ := bind_some h
      obtain ⟨v14, hv14, h⟩ := bind_some h
      refine cond_some h (fun hg4_26 h => ?_) (fun hg4_26 h => ?_)
      ·refine cond_some h (fun hg4_29 h => ?_) (fun hg4_29 h => ?_)
       ·refine zh hn (_ :: _ :: _ :: (10, .fl .shr 1 (List.map (Value.int .u8) b)) :: (11, .v (.int .i64 s31)) :: (12, .eref (.slot 10) (v2 * 1)) :: (13, .v (.int .u8 v3)) :: (14, .v (.bool (v3 == 13))) :: (15, .v (.bool false)) :: (16, .v undef) :: (17, .v undef) :: (18, .v undef) :: (19, .v undef) :: (20, .v undef) :: (21, .v undef) :: (22, .v undef) :: (23, .v undef) :: (24, .v undef) :: (25, .v undef) :: (26, .v undef) :: (27, .v undef) :: (28, .v undef) :: (29, .v (.bool false)) :: (30, .v (.bool false)) :: (31, .fl .shr 1 (List.map (Value.int .u8) b)) :: (32, .v (.int .i64 s31)) :: (33, .eref (.slot 31) (v13 * 1)) :: (34, .v (.int .u8 v14)) :: (35, .v (.bool (v14 == 10))) :: (36, .v (.bool true)) :: (37, .v (.int .i64 s31)) :: (38, .v (.bool (s31 == 0))) :: (39, .v (.bool true)) :: (40, .v undef) :: (41, .v undef) :: (42, .v undef) :: (43, .v undef) :: (44, .v undef) :: (45, .v undef) :: (46, .v (.bool true)) :: (47, .v (.bool true)) :: (48, .v (.bool true)) :: []) [0,1,2] [0,1,41] (zq [0] 3 10 :: zq [1] 4 11 :: zq [3,4] 5 12 :: zq [5,3] 6 13 :: zq [6] 7 14 :: zq [7] 8 15 :: zq [8] 9 16 :: zq [8] 10 17 :: zq [8] 11 18 :: zq [8] 12 19 :: zq [8] 13 20 :: zq [8] 14 21 :: zq [14] 15 22 :: zq [14] 16 23 :: zq [14] 17 24 :: zq [14] 18 25 :: zq [14] 19 26 :: zq [14] 20 27 :: zq [8] 21 28 :: zq [8] 22 29 :: zq [22] 23 30 :: zq [23,0] 24 31 :: zq [23,1] 25 32 :: zq [23,24,25] 26 33 :: zq [23,26,24] 27 34 :: zq [23,27] 28 35 :: zq [23,28] 29 36 :: zq [29,1] 30 37 :: zq [29,30] 31 38 :: zq [29,31] 32 39 :: zq [32] 33 40 :: zq [32] 34 41 :: zq [32] 35 42 :: zq [32] 36 43 :: zq [32] 37 44 :: zq [32] 38 45 :: zq [29,32] 39 46 :: zq [23,29,39] 40 47 :: zq [23,40] 41 48 :: []) [(_,_),(_,_),(_,_)] (by kernel_rfl) rfl rfl ⟨zm rfl rfl rfl,zm rfl rfl rfl,zp rfl (op_ix _ _ _ _ _ _ _ _ Tryd.underlying22 sz5 (by decide) rfl rfl rfl (ix_ok hv2).1 (map_lt (ix_ok hv2).2) rfl),zp rfl (op_load_e _ _ _ _ _ _ Tryd.underlying5 rfl rfl rfl (map_get hv3)),zo rfl rfl rfl rfl,zm rfl (zb hg4_5) rfl,zs 5 true rfl rfl rfl rfl,zs 5 true rfl rfl rfl rfl,zs 5 true rfl rfl rfl rfl,zs 5 true rfl rfl rfl rfl,zs 5 true rfl rfl rfl rfl,zs 5 true rfl rfl rfl rfl,zu 11 rfl rfl rfl rfl,zu 11 rfl rfl rfl rfl,zu 11 rfl rfl rfl rfl,zu 11 rfl rfl rfl rfl,zu 11 rfl rfl rfl rfl,zu 11 rfl rfl rfl rfl,zs 5 true rfl rfl rfl rfl,zk false rfl rfl rfl,zm rfl rfl rfl,zr 20 rfl rfl rfl (op_move _ _ _ _ rfl rfl),zr 20 rfl rfl rfl (op_move _ _ _ _ rfl rfl),zr 20 rfl rfl rfl (op_ix _ _ _ _ _ _ _ _ Tryd.underlying22 sz5 (by decide) rfl rfl rfl (ix_ok hv13).1 (map_lt (ix_ok hv13).2) rfl),zr 20 rfl rfl rfl (op_load_e _ _ _ _ _ _ Tryd.underlying5 rfl rfl rfl (map_get hv14)),zr 20 rfl rfl rfl (op_bin _ _ _ _ _ rfl rfl rfl),zr 20 rfl rfl rfl (op_move _ _ _ _ (zb hg4_26) rfl),zr 26 rfl rfl rfl (op_move _ _ _ _ rfl rfl),zr 26 rfl rfl rfl (op_bin _ _ _ _ _ rfl rfl rfl),zr 26 rfl rfl rfl (op_move _ _ _ _ (zb hg4_29) rfl),zs 29 false rfl rfl rfl rfl,zs 29 false rfl rfl rfl rfl,zs 29 false rfl rfl rfl rfl,zs 29 false rfl rfl rfl rfl,zs 29 false rfl rfl rfl rfl,zs 29 false rfl rfl rfl rfl,zr 26 rfl rfl rfl (op_pick _ _ true _ rfl rfl),zr 20 rfl rfl rfl (op_pick _ _ true _ rfl rfl),zk false rfl rfl rfl,trivial⟩ ?_
        exact hl47 _ (Option.some.inj h).symm
       ·obtain ⟨v15, hv15, h⟩ := bind_some h
        obtain ⟨v16, hv16, h⟩ := bind_some h
        obtain ⟨v17, hv17, h⟩ := bind_some h
        refine zh hn (_ :: _ :: _ :: (10, .fl .shr 1 (List.map (Value.int .u8) b)) :: (11, .v (.int .i64 s31)) :: (12, .eref (.slot 10) (v2 * 1)) :: (13, .v (.int .u8 v3)) :: (14, .v (.bool (v3 == 13))) :: (15, .v (.bool false)) :: (16, .v undef) :: (17, .v undef) :: (18, .v undef) :: (19, .v undef) :: (20, .v undef) :: (21, .v undef) :: (22, .v undef) :: (23, .v undef) :: (24, .v undef) :: (25, .v undef) :: (26, .v undef) :: (27, .v undef) :: (28, .v undef) :: (29, .v (.bool false)) :: (30, .v (.bool false)) :: (31, .fl .shr 1 (List.map (Value.int .u8) b)) :: (32, .v (.int .i64 s31)) :: (33, .eref (.slot 31) (v13 * 1)) :: (34, .v (.int .u8 v14)) :: (35, .v (.bool (v14 == 10))) :: (36, .v (.bool true)) :: (37, .v (.int .i64 s31)) :: (38, .v (.bool (s31 == 0))) :: (39, .v (.bool false)) :: (40, .fl .shr 1 (List.map (Value.int .u8) b)) :: (41, .v (.int .i64 s31)) :: (42, .v (.int .i64 v15)) :: (43, .eref (.slot 40) (v16 * 1)) :: (44, .v (.int .u8 v17)) :: (45, .v (.bool (v17 != 13))) :: (46, .v (.bool (v17 != 13))) :: (47, .v (.bool (v17 != 13))) :: (48, .v (.bool (v17 != 13))) :: []) [0,1,2] [0,1,41] (zq [0] 3 10 :: zq [1] 4 11 :: zq [3,4] 5 12 :: zq [5,3] 6 13 :: zq [6] 7 14 :: zq [7] 8 15 :: zq [8] 9 16 :: zq [8] 10 17 :: zq [8] 11 18 :: zq [8] 12 19 :: zq [8] 13 20 :: zq [8] 14 21 :: zq [14] 15 22 :: zq [14] 16 23 :: zq [14] 17 24 :: zq [14] 18 25 :: zq [14] 19 26 :: zq [14] 20 27 :: zq [8] 21 28 :: zq [8] 22 29 :: zq [22] 23 30 :: zq [23,0] 24 31 :: zq [23,1] 25 32 :: zq [23,24,25] 26 33 :: zq [23,26,24] 27 34 :: zq [23,27] 28 35 :: zq [23,28] 29 36 :: zq [29,1] 30 37 :: zq [29,30] 31 38 :: zq [29,31] 32 39 :: zq [32,0] 33 40 :: zq [32,1] 34 41 :: zq [32,34] 35 42 :: zq [32,33,35] 36 43 :: zq [32,36,33] 37 44 :: zq [32,37] 38 45 :: zq [29,32,38] 39 46 :: zq [23,29,39] 40 47 :: zq [23,40] 41 48 :: []) [(_,_),(_,_),(_,_)] (by kernel_rfl) rfl rfl ⟨zm rfl rfl rfl,zm rfl rfl rfl,zp rfl (op_ix _ _ _ _ _ _ _ _ Tryd.underlying22 sz5 (by decide) rfl rfl rfl (ix_ok hv2).1 (map_lt (ix_ok hv2).2) rfl),zp rfl (op_load_e _ _ _ _ _ _ Tryd.underlying5 rfl rfl rfl (map_get hv3)),zo rfl rfl rfl rfl,zm rfl (zb hg4_5) rfl,zs 5 true rfl rfl rfl rfl,zs 5 true rfl rfl rfl rfl,zs 5 true rfl rfl rfl rfl,zs 5 true rfl rfl rfl rfl,zs 5 true rfl rfl rfl rfl,zs 5 true rfl rfl rfl rfl,zu 11 rfl rfl rfl rfl,zu 11 rfl rfl rfl rfl,zu 11 rfl rfl rfl rfl,zu 11 rfl rfl rfl rfl,zu 11 rfl rfl rfl rfl,zu 11 rfl rfl rfl rfl,zs 5 true rfl rfl rfl rfl,zk false rfl rfl rfl,zm rfl rfl rfl,zr 20 rfl rfl rfl (op_move _ _ _ _ rfl rfl),zr 20 rfl rfl rfl (op_move _ _ _ _ rfl rfl),zr 20 rfl rfl rfl (op_ix _ _ _ _ _ _ _ _ Tryd.underlying22 sz5 (by decide) rfl rfl rfl (ix_ok hv13).1 (map_lt (ix_ok hv13).2) rfl),zr 20 rfl rfl rfl (op_load_e _ _ _ _ _ _ Tryd.underlying5 rfl rfl rfl (map_get hv14)),zr 20 rfl rfl rfl (op_bin _ _ _ _ _ rfl rfl rfl),zr 20 rfl rfl rfl (op_move _ _ _ _ (zb hg4_26) rfl),zr 26 rfl rfl rfl (op_move _ _ _ _ rfl rfl),zr 26 rfl rfl rfl (op_bin _ _ _ _ _ rfl rfl rfl),zr 26 rfl rfl rfl (op_move _ _ _ _ (zb hg4_29) rfl),zr 29 rfl rfl rfl (op_move _ _ _ _ rfl rfl),zr 29 rfl rfl rfl (op_move _ _ _ _ rfl rfl),zr 29 rfl rfl rfl (op_bin _ _ _ _ _ rfl rfl (ibind (f := Value.int .i64) (Option.some.inj hv15))),zr 29 rfl rfl rfl (op_ix _ _ _ _ _ _ _ _ Tryd.underlying22 sz5 (by decide) rfl rfl rfl (ix_ok hv16).1 (map_lt (ix_ok hv16).2) rfl),zr 29 rfl rfl rfl (op_load_e _ _ _ _ _ _ Tryd.underlying5 rfl rfl rfl (map_get hv17)),zr 29 rfl rfl rfl (op_bin _ _ _ _ _ rfl rfl rfl),zr 26 rfl rfl rfl (op_pick _ _ false _ rfl rfl),zr 20 rfl rfl rfl (op_pick _ _ true _ rfl rfl),zk false rfl rfl rfl,trivial⟩ ?_
        exact hl47 _ (Option.some.inj h).symm
      ·refine zh hn (_ :: _ :: _ :: (10, .fl .shr 1 (List.map (Value.int .u8) b)) :: (11, .v (.int .i64 s31)) :: (12, .eref (.slot 10) (v2 * 1)) :: (13, .v (.int .u8 v3)) :: (14, .v (.bool (v3 == 13))) :: (15, .v (.bool false)) :: (16, .v undef) :: (17, .v undef) :: (18, .v undef) :: (19, .v undef) :: (20, .v undef) :: (21, .v undef) :: (22, .v undef) :: (23, .v undef) :: (24, .v undef) :: (25, .v undef) :: (26, .v undef) :: (27, .v undef) :: (28, .v undef) :: (29, .v (.bool false)) :: (30, .v (.bool false)) :: (31, .fl .shr 1 (List.map (Value.int .u8) b)) :: (32, .v (.int .i64 s31)) :: (33, .eref (.slot 31) (v13 * 1)) :: (34, .v (.int .u8 v14)) :: (35, .v (.bool (v14 == 10))) :: (36, .v (.bool false)) :: (37, .v undef) :: (38, .v undef) :: (39, .v undef) :: (40, .v undef) :: (41, .v undef) :: (42, .v undef) :: (43, .v undef) :: (44, .v undef) :: (45, .v undef) :: (46, .v undef) :: (47, .v (.bool false)) :: (48, .v (.bool false)) :: []) [0,1,2] [0,1,41] (zq [0] 3 10 :: zq [1] 4 11 :: zq [3,4] 5 12 :: zq [5,3] 6 13 :: zq [6] 7 14 :: zq [7] 8 15 :: zq [8] 9 16 :: zq [8] 10 17 :: zq [8] 11 18 :: zq [8] 12 19 :: zq [8] 13 20 :: zq [8] 14 21 :: zq [14] 15 22 :: zq [14] 16 23 :: zq [14] 17 24 :: zq [14] 18 25 :: zq [14] 19 26 :: zq [14] 20 27 :: zq [8] 21 28 :: zq [8] 22 29 :: zq [22] 23 30 :: zq [23,0] 24 31 :: zq [23,1] 25 32 :: zq [23,24,25] 26 33 :: zq [23,26,24] 27 34 :: zq [23,27] 28 35 :: zq [23,28] 29 36 :: zq [29] 30 37 :: zq [29] 31 38 :: zq [29] 32 39 :: zq [32] 33 40 :: zq [32] 34 41 :: zq [32] 35 42 :: zq [32] 36 43 :: zq [32] 37 44 :: zq [32] 38 45 :: zq [29] 39 46 :: zq [23,29] 40 47 :: zq [23,40] 41 48 :: []) [(_,_),(_,_),(_,_)] (by kernel_rfl) rfl rfl ⟨zm rfl rfl rfl,zm rfl rfl rfl,zp rfl (op_ix _ _ _ _ _ _ _ _ Tryd.underlying22 sz5 (by decide) rfl rfl rfl (ix_ok hv2).1 (map_lt (ix_ok hv2).2) rfl),zp rfl (op_load_e _ _ _ _ _ _ Tryd.underlying5 rfl rfl rfl (map_get hv3)),zo rfl rfl rfl rfl,zm rfl (zb hg4_5) rfl,zs 5 true rfl rfl rfl rfl,zs 5 true rfl rfl rfl rfl,zs 5 true rfl rfl rfl rfl,zs 5 true rfl rfl rfl rfl,zs 5 true rfl rfl rfl rfl,zs 5 true rfl rfl rfl rfl,zu 11 rfl rfl rfl rfl,zu 11 rfl rfl rfl rfl,zu 11 rfl rfl rfl rfl,zu 11 rfl rfl rfl rfl,zu 11 rfl rfl rfl rfl,zu 11 rfl rfl rfl rfl,zs 5 true rfl rfl rfl rfl,zk false rfl rfl rfl,zm rfl rfl rfl,zr 20 rfl rfl rfl (op_move _ _ _ _ rfl rfl),zr 20 rfl rfl rfl (op_move _ _ _ _ rfl rfl),zr 20 rfl rfl rfl (op_ix _ _ _ _ _ _ _ _ Tryd.underlying22 sz5 (by decide) rfl rfl rfl (ix_ok hv13).1 (map_lt (ix_ok hv13).2) rfl),zr 20 rfl rfl rfl (op_load_e _ _ _ _ _ _ Tryd.underlying5 rfl rfl rfl (map_get hv14)),zr 20 rfl rfl rfl (op_bin _ _ _ _ _ rfl rfl rfl),zr 20 rfl rfl rfl (op_move _ _ _ _ (zb hg4_26) rfl),zs 26 true rfl rfl rfl rfl,zs 26 true rfl rfl rfl rfl,zs 26 true rfl rfl rfl rfl,zu 29 rfl rfl rfl rfl,zu 29 rfl rfl rfl rfl,zu 29 rfl rfl rfl rfl,zu 29 rfl rfl rfl rfl,zu 29 rfl rfl rfl rfl,zu 29 rfl rfl rfl rfl,zs 26 true rfl rfl rfl rfl,zr 20 rfl rfl rfl (op_pick _ _ false _ rfl rfl),zk false rfl rfl rfl,trivial⟩ ?_
       exact hl47 _ (Option.some.inj h).symm
   ·have h := cond_f hb44 h
    refine ht_exit ?_
    refine pt_x_then ?_
    refine pt_x_then ?_
    refine pt_x_in ?_
    refine pt_pick [0] (by kernel_rfl) (es' := [(_, _)]) rfl ?_
    exact hl39 _ (ho41 _ (Option.some.inj h).symm).symm
end Go.Proofs.YtgonanjdmdlkjaaDoor
