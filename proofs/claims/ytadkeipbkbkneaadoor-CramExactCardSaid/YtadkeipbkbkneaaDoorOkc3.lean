/-
  The model's runs are what is told in Lean.
-/
import Derived.Test.YtadkeipbkbkneaaDoorProg
import Derived.KernelRfl
import Derived.Test.YtadkeipbkbkneaaDoorShelf
import Derived.Test.YtadkeipbkbkneaaDoorOkc2
set_option linter.unusedVariables false
set_option linter.unusedSimpArgs false
namespace Go.Proofs.YtadkeipbkbkneaaDoor
open Go.Abs Go.Abs.Sh

set_option maxHeartbeats 1000000 in
theorem ok_cram_Verify (mx : Int) (user : ByteArray) (secret : ByteArray) (challenge : ByteArray) (line : ByteArray) (r : Bool) (h : Sh.cram_Verify user secret challenge line = some r) : FnG Tryd.prog (GL mx) 18 [.v (.string user), .v (.string secret), .v (.string challenge), .v (.string line)] (.v (.bool r)) := by
  unfold Sh.cram_Verify at h
  refine fn_okG Tryd.func18 rfl (Nat.le_of_ble_eq_true rfl) rfl rfl fun g0 hn hio => ?_
  refine ht_seq ?_
  refine ht_seqR hn (El := [_, _, _, _, _, (8, .v (.bool false))]) (init := [0, 1, 2, 3, 4]) (fin := [0, 1, 2, 3, 4]) (sps := [⟨[], [], [5], [(.slot 8)]⟩]) (es' := [(_, _), (_, _), (_, _), (_, _), (_, _)]) (by kernel_rfl) rfl rfl
   ⟨st_plain rfl (op_assign _ _ _ _ rfl rfl),
   trivial⟩ ?_
  refine pt_then ?_
  refine ht_seq ?_
  obtain ⟨v1, hv1, h⟩ := bind_some h
  refine ht_seqR hn (El := [_, _, _, _, _, (9, .v (.string line)), (10, .v (.string user)), (11, .v (.string secret)), (12, .v (.string challenge)), (13, .v (.string v1)), (14, .v (.bool (line.toList == v1.toList))), (8, .v (.bool (line.toList == v1.toList)))]) (init := [0, 1, 2, 3, 4]) (fin := [4, 11]) (sps := [⟨[3], [], [5], [(.slot 9)]⟩, ⟨[0], [], [6], [(.slot 10)]⟩, ⟨[1], [], [7], [(.slot 11)]⟩, ⟨[2], [], [8], [(.slot 12)]⟩, ⟨[6, 7, 8, 4], [], [9], [(.slot 13)]⟩, ⟨[5, 9], [], [10], [(.slot 14)]⟩, ⟨[10], [], [11], [(.slot 8)]⟩]) (es' := [(_, _), (8, .v (.bool (line.toList == v1.toList)))]) (by kernel_rfl) rfl rfl
   ⟨st_plain rfl (op_move _ _ _ _ rfl rfl),
   st_plain rfl (op_move _ _ _ _ rfl rfl),
   st_plain rfl (op_move _ _ _ _ rfl rfl),
   st_plain rfl (op_move _ _ _ _ rfl rfl),
   st_plain rfl (op_callG _ _ 15 17 _ _ rfl Tryd.call17 rfl rfl (fun _ h => h) (ok_cram_Answer mx user secret challenge _ hv1) rfl rfl),
   st_plain rfl (op_bin _ _ _ _ _ rfl rfl rfl),
   st_plain rfl (op_assign _ _ _ _ rfl rfl),
   trivial⟩ ?_
  refine pt_then ?_
  refine ht_ret ?_
  refine pt_pick [1] (by kernel_rfl) (es' := [(_, _)]) rfl ?_
  obtain rfl := Option.some.inj h
  exact pt_ret hio rfl (.tmp _ _ .nil) rfl rfl

set_option maxHeartbeats 1000000 in
theorem ok_wherrylaw10_wakes (mx : Int) (r : Bool) (h : Sh.wherrylaw10_wakes  = some r) : FnG Tryd.prog (GL mx) 19 [] (.v (.bool r)) := by
  unfold Sh.wherrylaw10_wakes at h
  refine fn_okG Tryd.func19 rfl (Nat.le_of_ble_eq_true rfl) rfl rfl fun g0 hn hio => ?_
  refine ht_seq ?_
  refine ht_seqR hn (El := [_, (0, .v (.bool false))]) (init := [0]) (fin := [0]) (sps := [⟨[], [], [1], [(.slot 0)]⟩]) (es' := [(_, _)]) (by kernel_rfl) rfl rfl
   ⟨st_plain rfl (op_assign _ _ _ _ rfl rfl),
   trivial⟩ ?_
  refine pt_then ?_
  refine ht_seq ?_
  refine ht_joinS h (fun (s4 : Bool) => [(14, .glob (GL mx)), (0, .v (.bool s4))]) ?_ ?_
  ·rintro s4 h
   refine pt_then ?_
   refine ht_ret ?_
   refine pt_pick [1] (by kernel_rfl) (es' := [(_, _)]) rfl ?_
   obtain rfl := Option.some.inj h
   exact pt_ret hio rfl (.tmp _ _ .nil) rfl rfl
  ·intro u5 h hl6 hr7
   obtain ⟨v1, hv1, h⟩ := bind_some h
   refine cond_some h (fun hg1_2 h => ?_) (fun hg1_2 h => ?_)
   ·obtain ⟨v2, hv2, h⟩ := bind_some h
    refine cond_some h (fun hg1_8 h => ?_) (fun hg1_8 h => ?_)
    ·obtain ⟨v3, hv3, h⟩ := bind_some h
     refine ht_seqR hn (El := (_ :: (1, .v (.string v1)) :: (2, .v (.bool ((v1.toList == (⟨#[100, 71, 108, 116, 73, 71, 73, 53, 77, 84, 78, 104, 78, 106, 65, 121, 89, 122, 100, 108, 90, 71, 69, 51, 89, 84, 81, 53, 78, 87, 73, 48, 90, 84, 90, 108, 78, 122, 77, 122, 78, 71, 81, 122, 79, 68, 107, 119]⟩ : ByteArray).toList)))) :: (3, .v (.bool true)) :: (4, .fl (.own 5) 1 (List.map (Value.int .u8) [97])) :: (5, .fl .ro 1 (List.map (Value.int .u8) [97])) :: (6, .v (.string v2)) :: (7, .v (.bool ((v2.toList == (⟨#[89, 81, 61, 61]⟩ : ByteArray).toList)))) :: (8, .v (.bool ((v2.toList == (⟨#[89, 81, 61, 61]⟩ : ByteArray).toList)))) :: (9, .v (.bool true)) :: (10, .fl (.own 5) 1 (List.map (Value.int .u8) [171])) :: (11, .v (.string v3)) :: (12, .v (.bool ((v3.toList == (⟨#[97, 98]⟩ : ByteArray).toList)))) :: (13, .v (.bool ((v3.toList == (⟨#[97, 98]⟩ : ByteArray).toList)))) :: (0, .v (.bool ((v3.toList == (⟨#[97, 98]⟩ : ByteArray).toList)))) :: [])) (init := [0]) (fin := [0, 14]) (sps := [⟨[0], [], [1], [(.slot 1)]⟩, ⟨[1], [], [2], [(.slot 2)]⟩, ⟨[2], [], [3], [(.slot 3)]⟩, ⟨[3], [], [4], [(.slot 4)]⟩, ⟨[3], [4], [5], [(.slot 5)]⟩, ⟨[3, 5], [], [6], [(.slot 6)]⟩, ⟨[3, 6], [], [7], [(.slot 7)]⟩, ⟨[3, 7], [], [8], [(.slot 8)]⟩, ⟨[8], [], [9], [(.slot 9)]⟩, ⟨[9], [], [10], [(.slot 10)]⟩, ⟨[9, 10], [], [11], [(.slot 11)]⟩, ⟨[9, 11], [], [12], [(.slot 12)]⟩, ⟨[9, 12], [], [13], [(.slot 13)]⟩, ⟨[13], [], [14], [(.slot 0)]⟩]) (es' := [(_, _), (0, .v (.bool ((v3.toList == (⟨#[97, 98]⟩ : ByteArray).toList))))]) (by kernel_rfl) rfl rfl
      ⟨st_plain rfl (op_callG _ _ 14 17 _ _ rfl Tryd.call17 rfl rfl (fun _ h => h) (ok_cram_Answer mx (⟨#[116, 105, 109]⟩ : ByteArray) (⟨#[116, 97, 110, 115, 116, 97, 97, 102, 116, 97, 110, 115, 116, 97, 97, 102]⟩ : ByteArray) (⟨#[60, 49, 56, 57, 54, 46, 54, 57, 55, 49, 55, 48, 57, 53, 50, 64, 112, 111, 115, 116, 111, 102, 102, 105, 99, 101, 46, 114, 101, 115, 116, 111, 110, 46, 109, 99, 105, 46, 110, 101, 116, 62]⟩ : ByteArray) _ hv1) rfl rfl),
      st_plain rfl (op_bin _ _ _ _ _ rfl rfl rfl),
      st_plain rfl (op_move _ _ _ _ (congrArg (fun b => AV.v (Value.bool b)) hg1_2) rfl),
      st_run 2 3 true rfl rfl rfl (List.Mem.head _) (op_buildSlice _ _ 1 (.int .u8 0) (List.map (Value.int .u8) [97]) [(0, .int .u8 97)] Tryd.underlying22 sz5 zr5 (fun _ V w o a hv hes => by simp only [List.map_toArray, List.map_cons, List.map_nil]; try rfl) (litfill (by simp [Instr.fill, Value.cells]; rfl) (by simp [List.range, List.range.loop] <;> rfl)) (by simp [Value.oneCell']) rfl (by decide) (by decide) (by decide)),
      st_run 2 3 true rfl rfl rfl (List.Mem.head _) (op_conv_mark _ _ _ Tryd.underlying22 Tryd.underlying5 (by intro h; cases h)),
      st_run 2 3 true rfl rfl rfl (List.Mem.head _) (op_call _ _ 12 _ _ rfl Tryd.call12 rfl (ok_cram_Encode [97] _ hv2) rfl rfl),
      st_run 2 3 true rfl rfl rfl (List.Mem.head _) (op_bin _ _ _ _ _ rfl rfl rfl),
      st_plain rfl (op_pick _ _ true _ rfl rfl),
      st_plain rfl (op_move _ _ _ _ (congrArg (fun b => AV.v (Value.bool b)) hg1_8) rfl),
      st_run 8 9 true rfl rfl rfl (List.Mem.head _) (op_buildSlice _ _ 1 (.int .u8 0) (List.map (Value.int .u8) [171]) [(0, .int .u8 171)] Tryd.underlying22 sz5 zr5 (fun _ V w o a hv hes => by simp only [List.map_toArray, List.map_cons, List.map_nil]; try rfl) (litfill (by simp [Instr.fill, Value.cells]; rfl) (by simp [List.range, List.range.loop] <;> rfl)) (by simp [Value.oneCell']) rfl (by decide) (by decide) (by decide)),
      st_run 8 9 true rfl rfl rfl (List.Mem.head _) (op_call _ _ 14 _ _ rfl Tryd.call14 rfl (ok_cram_Hex [171] _ hv3) rfl rfl),
      st_run 8 9 true rfl rfl rfl (List.Mem.head _) (op_bin _ _ _ _ _ rfl rfl rfl),
      st_plain rfl (op_pick _ _ true _ rfl rfl),
      st_plain rfl (op_assign _ _ _ _ rfl rfl),
      trivial⟩ ?_
     exact hl6 _ (Option.some.inj h).symm
    ·refine ht_seqR hn (El := (_ :: (1, .v (.string v1)) :: (2, .v (.bool ((v1.toList == (⟨#[100, 71, 108, 116, 73, 71, 73, 53, 77, 84, 78, 104, 78, 106, 65, 121, 89, 122, 100, 108, 90, 71, 69, 51, 89, 84, 81, 53, 78, 87, 73, 48, 90, 84, 90, 108, 78, 122, 77, 122, 78, 71, 81, 122, 79, 68, 107, 119]⟩ : ByteArray).toList)))) :: (3, .v (.bool true)) :: (4, .fl (.own 5) 1 (List.map (Value.int .u8) [97])) :: (5, .fl .ro 1 (List.map (Value.int .u8) [97])) :: (6, .v (.string v2)) :: (7, .v (.bool ((v2.toList == (⟨#[89, 81, 61, 61]⟩ : ByteArray).toList)))) :: (8, .v (.bool ((v2.toList == (⟨#[89, 81, 61, 61]⟩ : ByteArray).toList)))) :: (9, .v (.bool false)) :: (10, .v undef) :: (11, .v undef) :: (12, .v undef) :: (13, .v (.bool false)) :: (0, .v (.bool false)) :: [])) (init := [0]) (fin := [0, 14]) (sps := [⟨[0], [], [1], [(.slot 1)]⟩, ⟨[1], [], [2], [(.slot 2)]⟩, ⟨[2], [], [3], [(.slot 3)]⟩, ⟨[3], [], [4], [(.slot 4)]⟩, ⟨[3], [4], [5], [(.slot 5)]⟩, ⟨[3, 5], [], [6], [(.slot 6)]⟩, ⟨[3, 6], [], [7], [(.slot 7)]⟩, ⟨[3, 7], [], [8], [(.slot 8)]⟩, ⟨[8], [], [9], [(.slot 9)]⟩, ⟨[9], [], [10], [(.slot 10)]⟩, ⟨[9], [], [11], [(.slot 11)]⟩, ⟨[9], [], [12], [(.slot 12)]⟩, ⟨[9], [], [13], [(.slot 13)]⟩, ⟨[13], [], [14], [(.slot 0)]⟩]) (es' := [(_, _), (0, .v (.bool false))]) (by kernel_rfl) rfl rfl
      ⟨st_plain rfl (op_callG _ _ 14 17 _ _ rfl Tryd.call17 rfl rfl (fun _ h => h) (ok_cram_Answer mx (⟨#[116, 105, 109]⟩ : ByteArray) (⟨#[116, 97, 110, 115, 116, 97, 97, 102, 116, 97, 110, 115, 116, 97, 97, 102]⟩ : ByteArray) (⟨#[60, 49, 56, 57, 54, 46, 54, 57, 55, 49, 55, 48, 57, 53, 50, 64, 112, 111, 115, 116, 111, 102, 102, 105, 99, 101, 46, 114, 101, 115, 116, 111, 110, 46, 109, 99, 105, 46, 110, 101, 116, 62]⟩ : ByteArray) _ hv1) rfl rfl),
      st_plain rfl (op_bin _ _ _ _ _ rfl rfl rfl),
      st_plain rfl (op_move _ _ _ _ (congrArg (fun b => AV.v (Value.bool b)) hg1_2) rfl),
      st_run 2 3 true rfl rfl rfl (List.Mem.head _) (op_buildSlice _ _ 1 (.int .u8 0) (List.map (Value.int .u8) [97]) [(0, .int .u8 97)] Tryd.underlying22 sz5 zr5 (fun _ V w o a hv hes => by simp only [List.map_toArray, List.map_cons, List.map_nil]; try rfl) (litfill (by simp [Instr.fill, Value.cells]; rfl) (by simp [List.range, List.range.loop] <;> rfl)) (by simp [Value.oneCell']) rfl (by decide) (by decide) (by decide)),
      st_run 2 3 true rfl rfl rfl (List.Mem.head _) (op_conv_mark _ _ _ Tryd.underlying22 Tryd.underlying5 (by intro h; cases h)),
      st_run 2 3 true rfl rfl rfl (List.Mem.head _) (op_call _ _ 12 _ _ rfl Tryd.call12 rfl (ok_cram_Encode [97] _ hv2) rfl rfl),
      st_run 2 3 true rfl rfl rfl (List.Mem.head _) (op_bin _ _ _ _ _ rfl rfl rfl),
      st_plain rfl (op_pick _ _ true _ rfl rfl),
      st_plain rfl (op_move _ _ _ _ (congrArg (fun b => AV.v (Value.bool b)) hg1_8) rfl),
      st_skip 8 9 _ true rfl rfl rfl rfl (List.Mem.head _),
      st_skip 8 9 _ true rfl rfl rfl rfl (List.Mem.head _),
      st_skip 8 9 _ true rfl rfl rfl rfl (List.Mem.head _),
      st_plain rfl (op_pick _ _ false _ rfl rfl),
      st_plain rfl (op_assign _ _ _ _ rfl rfl),
      trivial⟩ ?_
     exact hl6 _ (Option.some.inj h).symm
   ·refine ht_seqR hn (El := (_ :: (1, .v (.string v1)) :: (2, .v (.bool ((v1.toList == (⟨#[100, 71, 108, 116, 73, 71, 73, 53, 77, 84, 78, 104, 78, 106, 65, 121, 89, 122, 100, 108, 90, 71, 69, 51, 89, 84, 81, 53, 78, 87, 73, 48, 90, 84, 90, 108, 78, 122, 77, 122, 78, 71, 81, 122, 79, 68, 107, 119]⟩ : ByteArray).toList)))) :: (3, .v (.bool false)) :: (4, .v undef) :: (5, .v undef) :: (6, .v undef) :: (7, .v undef) :: (8, .v (.bool false)) :: (9, .v (.bool false)) :: (10, .v undef) :: (11, .v undef) :: (12, .v undef) :: (13, .v (.bool false)) :: (0, .v (.bool false)) :: [])) (init := [0]) (fin := [0, 14]) (sps := [⟨[0], [], [1], [(.slot 1)]⟩, ⟨[1], [], [2], [(.slot 2)]⟩, ⟨[2], [], [3], [(.slot 3)]⟩, ⟨[3], [], [4], [(.slot 4)]⟩, ⟨[3], [], [5], [(.slot 5)]⟩, ⟨[3], [], [6], [(.slot 6)]⟩, ⟨[3], [], [7], [(.slot 7)]⟩, ⟨[3], [], [8], [(.slot 8)]⟩, ⟨[8], [], [9], [(.slot 9)]⟩, ⟨[9], [], [10], [(.slot 10)]⟩, ⟨[9], [], [11], [(.slot 11)]⟩, ⟨[9], [], [12], [(.slot 12)]⟩, ⟨[9], [], [13], [(.slot 13)]⟩, ⟨[13], [], [14], [(.slot 0)]⟩]) (es' := [(_, _), (0, .v (.bool false))]) (by kernel_rfl) rfl rfl
     ⟨st_plain rfl (op_callG _ _ 14 17 _ _ rfl Tryd.call17 rfl rfl (fun _ h => h) (ok_cram_Answer mx (⟨#[116, 105, 109]⟩ : ByteArray) (⟨#[116, 97, 110, 115, 116, 97, 97, 102, 116, 97, 110, 115, 116, 97, 97, 102]⟩ : ByteArray) (⟨#[60, 49, 56, 57, 54, 46, 54, 57, 55, 49, 55, 48, 57, 53, 50, 64, 112, 111, 115, 116, 111, 102, 102, 105, 99, 101, 46, 114, 101, 115, 116, 111, 110, 46, 109, 99, 105, 46, 110, 101, 116, 62]⟩ : ByteArray) _ hv1) rfl rfl),
     st_plain rfl (op_bin _ _ _ _ _ rfl rfl rfl),
     st_plain rfl (op_move _ _ _ _ (congrArg (fun b => AV.v (Value.bool b)) hg1_2) rfl),
     st_skip 2 3 _ true rfl rfl rfl rfl (List.Mem.head _),
     st_skip 2 3 _ true rfl rfl rfl rfl (List.Mem.head _),
     st_skip 2 3 _ true rfl rfl rfl rfl (List.Mem.head _),
     st_skip 2 3 _ true rfl rfl rfl rfl (List.Mem.head _),
     st_plain rfl (op_pick _ _ false _ rfl rfl),
     st_plain rfl (op_move _ _ _ _ rfl rfl),
     st_skip 8 9 _ true rfl rfl rfl rfl (List.Mem.head _),
     st_skip 8 9 _ true rfl rfl rfl rfl (List.Mem.head _),
     st_skip 8 9 _ true rfl rfl rfl rfl (List.Mem.head _),
     st_plain rfl (op_pick _ _ false _ rfl rfl),
     st_plain rfl (op_assign _ _ _ _ rfl rfl),
     trivial⟩ ?_
    exact hl6 _ (Option.some.inj h).symm

set_option maxHeartbeats 1000000 in
theorem ok_wherrylaw10_digit (c : Int) (r : Int) (h : Sh.wherrylaw10_digit c = some r) : FnOK Tryd.prog 21 [.v (.int .u8 c)] (.v (.int .i64 r)) := by
  unfold Sh.wherrylaw10_digit at h
  refine fn_ok Tryd.func21 rfl (Nat.le_of_ble_eq_true rfl) rfl rfl fun g0 hn hio => ?_
  refine ht_seq ?_
  refine ht_seqR hn (El := [_, (2, .v (.int .i64 0))]) (init := [0]) (fin := [0]) (sps := [⟨[], [], [1], [(.slot 2)]⟩]) (es' := [(_, _)]) (by kernel_rfl) rfl rfl
   ⟨st_plain rfl (op_assign _ _ _ _ rfl rfl),
   trivial⟩ ?_
  refine pt_then ?_
  refine ht_seq ?_
  refine ht_block ?_
  refine ht_seq ?_
  refine ht_joinS h (fun (s1 : Bool) => [(0, .v (.int .u8 c)), (3, .v (.bool s1))]) ?_ ?_
  ·rintro s1 h
   refine pt_then ?_
   refine ht_cond _ rfl (fun hb5 => ?_) (fun hb5 => ?_)
   ·have h := cond_t hb5 h
    refine ht_seq ?_
    obtain ⟨v6, hv6, h⟩ := bind_some h
    obtain ⟨v7, hv7, h⟩ := bind_some h
    refine ht_seqR hn (El := [_, _, (10, .v (.int .u8 c)), (11, .v (.int .u8 v6)), (12, .v (.int .i64 v7)), (2, .v (.int .i64 v7))]) (init := [0, 1]) (fin := [5]) (sps := [⟨[0], [], [2], [(.slot 10)]⟩, ⟨[2], [], [3], [(.slot 11)]⟩, ⟨[3], [], [4], [(.slot 12)]⟩, ⟨[4], [], [5], [(.slot 2)]⟩]) (es' := [(2, .v (.int .i64 v7))]) (by kernel_rfl) rfl rfl
     ⟨st_plain rfl (op_move _ _ _ _ rfl rfl),
     st_plain rfl (op_bin _ _ _ _ _ rfl rfl (ibind (f := Value.int .u8) (Option.some.inj hv6))),
     st_plain rfl ((Option.some.inj hv7) ▸ op_conv _ _ _ Tryd.underlying5 Tryd.underlying3 rfl),
     st_plain rfl (op_assign _ _ _ _ rfl rfl),
     trivial⟩ ?_
    refine pt_then ?_
    refine ht_ret ?_
    refine pt_r_in ?_
    refine pt_r_then ?_
    obtain rfl := Option.some.inj h
    exact pt_ret hio rfl (.tmp _ _ .nil) rfl rfl
   ·have h := cond_f hb5 h
    refine ht_seq ?_
    refine ht_joinS h (fun (s8 : Bool) => [(0, .v (.int .u8 c)), (13, .v (.bool s8))]) ?_ ?_
    ·rintro s8 h
     refine pt_then ?_
     refine ht_cond _ rfl (fun hb12 => ?_) (fun hb12 => ?_)
     ·have h := cond_t hb12 h
      refine ht_seq ?_
      obtain ⟨v13, hv13, h⟩ := bind_some h
      obtain ⟨v14, hv14, h⟩ := bind_some h
      obtain ⟨v15, hv15, h⟩ := bind_some h
      refine ht_seqR hn (El := [_, _, (20, .v (.int .u8 c)), (21, .v (.int .u8 v13)), (22, .v (.int .i64 v14)), (23, .v (.int .i64 v15)), (2, .v (.int .i64 v15))]) (init := [0, 1]) (fin := [6]) (sps := [⟨[0], [], [2], [(.slot 20)]⟩, ⟨[2], [], [3], [(.slot 21)]⟩, ⟨[3], [], [4], [(.slot 22)]⟩, ⟨[4], [], [5], [(.slot 23)]⟩, ⟨[5], [], [6], [(.slot 2)]⟩]) (es' := [(2, .v (.int .i64 v15))]) (by kernel_rfl) rfl rfl
       ⟨st_plain rfl (op_move _ _ _ _ rfl rfl),
       st_plain rfl (op_bin _ _ _ _ _ rfl rfl (ibind (f := Value.int .u8) (Option.some.inj hv13))),
       st_plain rfl ((Option.some.inj hv14) ▸ op_conv _ _ _ Tryd.underlying5 Tryd.underlying3 rfl),
       st_plain rfl (op_bin _ _ _ _ _ rfl rfl (ibind (f := Value.int .i64) (Option.some.inj hv15))),
       st_plain rfl (op_assign _ _ _ _ rfl rfl),
       trivial⟩ ?_
      refine pt_then ?_
      refine ht_ret ?_
      refine pt_r_in ?_
      refine pt_r_then ?_
      obtain rfl := Option.some.inj h
      exact pt_ret hio rfl (.tmp _ _ .nil) rfl rfl
     ·have h := cond_f hb12 h
      refine ht_skip ?_
      refine pt_inb ?_
      refine pt_then ?_
      refine ht_seq ?_
      refine ht_seqR hn (El := [_, _, (2, .v (.int .i64 (-100)))]) (init := [0, 1]) (fin := [2]) (sps := [⟨[], [], [2], [(.slot 2)]⟩]) (es' := [(2, .v (.int .i64 (-100)))]) (by kernel_rfl) rfl rfl
       ⟨st_plain rfl (op_assign _ _ _ _ rfl rfl),
       trivial⟩ ?_
      refine pt_then ?_
      refine ht_ret ?_
      obtain rfl := Option.some.inj h
      exact pt_ret hio rfl (.tmp _ _ .nil) rfl rfl
    ·intro u9 h hl10 hr11
     refine cond_some h (fun hg3_2 h => ?_) (fun hg3_2 h => ?_)
     ·refine ht_seqR hn (El := [_, _, (14, .v (.int .u8 c)), (15, .v (.bool ((decide (97 ≤ c))))), (16, .v (.bool true)), (17, .v (.int .u8 c)), (18, .v (.bool ((decide (c ≤ 102))))), (19, .v (.bool ((decide (c ≤ 102))))), (13, .v (.bool ((decide (c ≤ 102)))))]) (init := [0, 1]) (fin := [0, 8]) (sps := [⟨[0], [], [2], [(.slot 14)]⟩, ⟨[2], [], [3], [(.slot 15)]⟩, ⟨[3], [], [4], [(.slot 16)]⟩, ⟨[4, 0], [], [5], [(.slot 17)]⟩, ⟨[4, 5], [], [6], [(.slot 18)]⟩, ⟨[4, 6], [], [7], [(.slot 19)]⟩, ⟨[7], [], [8], [(.slot 13)]⟩]) (es' := [(_, _), (13, .v (.bool ((decide (c ≤ 102)))))]) (by kernel_rfl) rfl rfl
       ⟨st_plain rfl (op_move _ _ _ _ rfl rfl),
       st_plain rfl (op_bin _ _ _ _ _ rfl rfl rfl),
       st_plain rfl (op_move _ _ _ _ (congrArg (fun b => AV.v (Value.bool b)) hg3_2) rfl),
       st_run 2 16 true rfl rfl rfl (List.Mem.head _) (op_move _ _ _ _ rfl rfl),
       st_run 2 16 true rfl rfl rfl (List.Mem.head _) (op_bin _ _ _ _ _ rfl rfl rfl),
       st_plain rfl (op_pick _ _ true _ rfl rfl),
       st_plain rfl (op_assign _ _ _ _ rfl rfl),
       trivial⟩ ?_
      exact hl10 _ (Option.some.inj h).symm
     ·refine ht_seqR hn (El := [_, _, (14, .v (.int .u8 c)), (15, .v (.bool ((decide (97 ≤ c))))), (16, .v (.bool false)), (17, .v undef), (18, .v undef), (19, .v (.bool false)), (13, .v (.bool false))]) (init := [0, 1]) (fin := [0, 8]) (sps := [⟨[0], [], [2], [(.slot 14)]⟩, ⟨[2], [], [3], [(.slot 15)]⟩, ⟨[3], [], [4], [(.slot 16)]⟩, ⟨[4], [], [5], [(.slot 17)]⟩, ⟨[4], [], [6], [(.slot 18)]⟩, ⟨[4], [], [7], [(.slot 19)]⟩, ⟨[7], [], [8], [(.slot 13)]⟩]) (es' := [(_, _), (13, .v (.bool false))]) (by kernel_rfl) rfl rfl
       ⟨st_plain rfl (op_move _ _ _ _ rfl rfl),
       st_plain rfl (op_bin _ _ _ _ _ rfl rfl rfl),
       st_plain rfl (op_move _ _ _ _ (congrArg (fun b => AV.v (Value.bool b)) hg3_2) rfl),
       st_skip 2 16 _ true rfl rfl rfl rfl (List.Mem.head _),
       st_skip 2 16 _ true rfl rfl rfl rfl (List.Mem.head _),
       st_plain rfl (op_pick _ _ false _ rfl rfl),
       st_plain rfl (op_assign _ _ _ _ rfl rfl),
       trivial⟩ ?_
      exact hl10 _ (Option.some.inj h).symm
  ·intro u2 h hl3 hr4
   refine cond_some h (fun hg1_2 h => ?_) (fun hg1_2 h => ?_)
   ·refine ht_seqR hn (El := [_, (4, .v (.int .u8 c)), (5, .v (.bool ((decide (48 ≤ c))))), (6, .v (.bool true)), (7, .v (.int .u8 c)), (8, .v (.bool ((decide (c ≤ 57))))), (9, .v (.bool ((decide (c ≤ 57))))), (3, .v (.bool ((decide (c ≤ 57)))))]) (init := [0]) (fin := [0, 7]) (sps := [⟨[0], [], [1], [(.slot 4)]⟩, ⟨[1], [], [2], [(.slot 5)]⟩, ⟨[2], [], [3], [(.slot 6)]⟩, ⟨[3, 0], [], [4], [(.slot 7)]⟩, ⟨[3, 4], [], [5], [(.slot 8)]⟩, ⟨[3, 5], [], [6], [(.slot 9)]⟩, ⟨[6], [], [7], [(.slot 3)]⟩]) (es' := [(_, _), (3, .v (.bool ((decide (c ≤ 57)))))]) (by kernel_rfl) rfl rfl
     ⟨st_plain rfl (op_move _ _ _ _ rfl rfl),
     st_plain rfl (op_bin _ _ _ _ _ rfl rfl rfl),
     st_plain rfl (op_move _ _ _ _ (congrArg (fun b => AV.v (Value.bool b)) hg1_2) rfl),
     st_run 2 6 true rfl rfl rfl (List.Mem.head _) (op_move _ _ _ _ rfl rfl),
     st_run 2 6 true rfl rfl rfl (List.Mem.head _) (op_bin _ _ _ _ _ rfl rfl rfl),
     st_plain rfl (op_pick _ _ true _ rfl rfl),
     st_plain rfl (op_assign _ _ _ _ rfl rfl),
     trivial⟩ ?_
    exact hl3 _ (Option.some.inj h).symm
   ·refine ht_seqR hn (El := [_, (4, .v (.int .u8 c)), (5, .v (.bool ((decide (48 ≤ c))))), (6, .v (.bool false)), (7, .v undef), (8, .v undef), (9, .v (.bool false)), (3, .v (.bool false))]) (init := [0]) (fin := [0, 7]) (sps := [⟨[0], [], [1], [(.slot 4)]⟩, ⟨[1], [], [2], [(.slot 5)]⟩, ⟨[2], [], [3], [(.slot 6)]⟩, ⟨[3], [], [4], [(.slot 7)]⟩, ⟨[3], [], [5], [(.slot 8)]⟩, ⟨[3], [], [6], [(.slot 9)]⟩, ⟨[6], [], [7], [(.slot 3)]⟩]) (es' := [(_, _), (3, .v (.bool false))]) (by kernel_rfl) rfl rfl
     ⟨st_plain rfl (op_move _ _ _ _ rfl rfl),
     st_plain rfl (op_bin _ _ _ _ _ rfl rfl rfl),
     st_plain rfl (op_move _ _ _ _ (congrArg (fun b => AV.v (Value.bool b)) hg1_2) rfl),
     st_skip 2 6 _ true rfl rfl rfl rfl (List.Mem.head _),
     st_skip 2 6 _ true rfl rfl rfl rfl (List.Mem.head _),
     st_plain rfl (op_pick _ _ false _ rfl rfl),
     st_plain rfl (op_assign _ _ _ _ rfl rfl),
     trivial⟩ ?_
    exact hl3 _ (Option.some.inj h).symm

end Go.Proofs.YtadkeipbkbkneaaDoor
