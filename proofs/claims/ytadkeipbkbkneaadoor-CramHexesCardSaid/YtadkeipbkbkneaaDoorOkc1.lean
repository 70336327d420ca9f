/-
  The model's runs are what is told in Lean.
-/
import Derived.Test.YtadkeipbkbkneaaDoorProg
import Derived.KernelRfl
import Derived.Test.YtadkeipbkbkneaaDoorShelf
import Derived.Test.YtadkeipbkbkneaaDoorSh
set_option linter.unusedVariables false
set_option linter.unusedSimpArgs false
namespace Go.Proofs.YtadkeipbkbkneaaDoor
open Go.Abs Go.Abs.Sh

def GL (mx : Int) : List (Nat × List Value) := [(0, (List.map (Value.int .u32) digest_sines)), (1, (List.map (Value.int .i64) digest_turns))]
theorem gl_mem0 (mx : Int) : (0, ((List.map (Value.int .u32) digest_sines) : List Value)) ∈ GL mx := .head _
theorem gl_mem1 (mx : Int) : (1, ((List.map (Value.int .i64) digest_turns) : List Value)) ∈ GL mx := .tail _ (.head _)
theorem zr48 : (Tryd.prog.info? 48).bind (·.zero) = some (.agg #[.pointer none, .slice none 0 0]) := by kernel_rfl
theorem sz5 : (Tryd.prog.info? 5).map (·.size) = some 1 := by kernel_rfl
theorem sz22 : (Tryd.prog.info? 22).map (·.size) = some 1 := by kernel_rfl
theorem el22 : ElemT Tryd.prog 22 5 1 1 := ⟨⟨Tryd.t5, .int .u8 0, Tryd.underlying22, by kernel_rfl, by kernel_rfl, by kernel_rfl, by kernel_rfl, by decide, by kernel_rfl⟩⟩
theorem zr5 : (Tryd.prog.info? 5).bind (·.zero) = some (.int .u8 0) := by kernel_rfl
theorem za37 : ((Tryd.prog.info? 37).bind (·.zero)).map (·.cells.toList) = some (List.map (Value.int .u8) (List.replicate 16 (0 : Int))) := by kernel_rfl
theorem za57 : ((Tryd.prog.info? 57).bind (·.zero)).map (·.cells.toList) = some (List.map (Value.int .u8) (List.replicate 64 (0 : Int))) := by kernel_rfl
theorem sz49 : (Tryd.prog.info? 49).map (·.size) = some 1 := by kernel_rfl
theorem zr74 : (Tryd.prog.info? 74).bind (·.zero) = some (.agg #[.int .u32 0, .int .u32 0, .int .u32 0, .int .u32 0]) := by kernel_rfl
theorem za74 : ((Tryd.prog.info? 74).bind (·.zero)).map (·.cells.toList) = some (List.map (Value.int .u32) (List.replicate 4 (0 : Int))) := by kernel_rfl
theorem sz74 : (Tryd.prog.info? 74).map (·.size) = some 4 := by kernel_rfl
theorem za92 : ((Tryd.prog.info? 92).bind (·.zero)).map (·.cells.toList) = some (List.map (Value.int .u32) (List.replicate 16 (0 : Int))) := by kernel_rfl
theorem sz93 : (Tryd.prog.info? 93).map (·.size) = some 64 := by kernel_rfl
theorem sz96 : (Tryd.prog.info? 96).map (·.size) = some 4 := by kernel_rfl
theorem sz3 : (Tryd.prog.info? 3).map (·.size) = some 1 := by kernel_rfl
theorem sz37 : (Tryd.prog.info? 37).map (·.size) = some 16 := by kernel_rfl
theorem sz57 : (Tryd.prog.info? 57).map (·.size) = some 64 := by kernel_rfl
theorem sz9 : (Tryd.prog.info? 9).map (·.size) = some 1 := by kernel_rfl
theorem zr9 : (Tryd.prog.info? 9).bind (·.zero) = some (.string ByteArray.empty) := by kernel_rfl
theorem za62 : ((Tryd.prog.info? 62).bind (·.zero)).map (·.cells.toList) = some (List.map Value.bool (List.replicate 256 false)) := by kernel_rfl
theorem sz62 : (Tryd.prog.info? 62).map (·.size) = some 256 := by kernel_rfl
theorem sz4 : (Tryd.prog.info? 4).map (·.size) = some 1 := by kernel_rfl

theorem ok_strings_Builder_copyCheck (xs : List Value) : FnP Tryd.prog 38 [.hid (bldT 48 5 false xs)] [.hid (bldT 48 5 true xs)] (.tup []) :=
  bld_check (by decide) (fun b w h1 h2 h3 => Tryd.Builder_copyCheck_fresh b w h1 h2 h3) (fun b w h => Tryd.Builder_copyCheck_used b w h)

set_option maxHeartbeats 1000000 in
theorem ok_strings_Builder_WriteByte (xs : List Int) (c : Int) (r : List Int) (h : appO 1 xs [c] = some r) : FnP Tryd.prog 26 [.hid (bldT 48 5 false (List.map (Value.int .u8) xs)), .v (.int .u8 c)] [.hid (bldT 48 5 false (List.map (Value.int .u8) r))] (.v .nilIface) := by
  refine FnP.bldW ?_
  refine fn_okP Tryd.func26 rfl (Nat.le_of_ble_eq_true rfl) rfl (Nat.le_of_ble_eq_true rfl) fun args0 hargs0 g0 hn hio => ?_
  refine ht_seq ?_
  refine ht_seqR hn (El := [_, _, _, (4, .v .nilIface)]) (init := [0, 1, 2]) (fin := [0, 1, 2]) (sps := [⟨[], [], [3], [(.slot 4)]⟩]) (es' := [(_, _), (_, _), (_, _)]) (by kernel_rfl) rfl rfl
   ⟨st_plain rfl (op_assign _ _ _ _ rfl rfl),
   trivial⟩ ?_
  refine pt_then ?_
  refine ht_seq ?_
  refine ht_seqR hn (El := [_, _, _, (5, .same (.slot 0)), (0, .hid (bldT 48 5 true (List.map (Value.int .u8) xs))), (6, .tup [])]) (init := [0, 1, 2]) (fin := [4, 1, 2]) (sps := [⟨[], [], [3], [(.slot 5)]⟩, ⟨[3], [0], [4, 5], [(.slot 6)]⟩]) (es' := [(0, .hid (bldT 48 5 true (List.map (Value.int .u8) xs))), (_, _), (_, _)]) (by kernel_rfl) rfl rfl
   ⟨st_plain rfl (op_move_name _ _ _ rfl),
   st_plain rfl (op_callPS _ _ _ _ 6 38 [.tmp 5] [] _ _ _ rfl Tryd.call38 rfl rfl rfl (ok_strings_Builder_copyCheck _) (Nat.le_of_ble_eq_true rfl) rfl rfl rfl rfl rfl rfl rfl),
   trivial⟩ ?_
  refine pt_then ?_
  refine ht_bld_box 0 rfl ?_
  refine ht_seq ?_
  refine ht_seqR hn (El := (_ :: _ :: _ :: (7, .ptr 0 0) :: (8, .ptr 0 0) :: (9, .ptr 0 0) :: (10, .ptr 0 1) :: (11, .same (.cell 0 1)) :: (12, .v (.int .u8 c)) :: (13, .fl (.own 5) 1 (List.map (Value.int .u8) [c])) :: (14, .fl (.own 5) 1 (List.map (Value.int .u8) r)) :: (0, .box 48 [.ptr 0 0, .any]) :: (15, .ptr 0 0) :: (16, .ptr 0 1) :: (0, .box 48 [.ptr 0 0, .fl (.own 5) 1 (List.map (Value.int .u8) r)]) :: [])) (init := [0, 1, 2]) (fin := [14, 2]) (sps := [⟨[0], [], [3], [(.slot 7)]⟩, ⟨[0], [], [4], [(.slot 8)]⟩, ⟨[4, 0], [], [5], [(.slot 9)]⟩, ⟨[5, 0], [], [6], [(.slot 10)]⟩, ⟨[6, 0], [], [7], [(.slot 11)]⟩, ⟨[1], [], [8], [(.slot 12)]⟩, ⟨[8], [], [9], [(.slot 13)]⟩, ⟨[7, 9], [0], [11, 10], [(.slot 14)]⟩, ⟨[3, 11], [], [12], [(.slot 15)]⟩, ⟨[12, 11], [], [13], [(.slot 16)]⟩, ⟨[13], [7, 10, 11], [14], [.cell 0 1]⟩]) (es' := [(0, .box 48 [.ptr 0 0, .fl (.own 5) 1 (List.map (Value.int .u8) r)]), (_, _)]) (by kernel_rfl) rfl rfl
   ⟨st_plain rfl (op_move _ _ _ _ rfl rfl),
   st_plain rfl (op_move _ _ _ _ rfl rfl),
   st_plain rfl (op_nilCheck _ _ _ 0 0 rfl (by decide)),
   st_plain rfl (op_fieldAddr _ _ _ _ 0 0 _ Tryd.underlying48 rfl sz22 rfl rfl (by decide)),
   st_plain rfl (op_load _ _ _ _ _ _ Tryd.underlying22 rfl rfl rfl (Nat.le_of_ble_eq_true rfl) rfl rfl rfl),
   st_plain rfl (op_move _ _ _ _ rfl rfl),
   st_plain rfl (op_buildSlice _ _ 1 (.int .u8 0) (List.map (Value.int .u8) [c]) [(0, .int .u8 c)] Tryd.underlying22 sz5 zr5 (fun _ V w o a hv hes => by have e0 := rd_v hv hes (x := .tmp 12) rfl; simp only [List.map_toArray, List.map_cons, List.map_nil, e0]; try rfl) (litfill (by simp [Instr.fill, Value.cells]; rfl) (by simp [List.range, List.range.loop])) (by simp [Value.oneCell']) rfl (by decide) (by decide) (by decide)),
   st_plain rfl (op_app_cell _ _ _ _ _ _ el22 rfl rfl (Nat.le_of_ble_eq_true rfl) rfl (map_len _) (map_len _) h ((List.map_append).symm.trans (congrArg (List.map _) (app_eq h))) (by decide) rfl rfl),
   st_plain rfl (op_nilCheck _ _ _ 0 0 rfl (by decide)),
   st_plain rfl (op_fieldAddr _ _ _ _ 0 0 _ Tryd.underlying48 rfl sz22 rfl rfl (by decide)),
   st_plain rfl (LOp.drop [_] (op_store_take _ _ _ _ _ _ _ _ sz22 rfl rfl rfl (Nat.le_of_ble_eq_true rfl) rfl rfl)),
   trivial⟩ ?_
  refine pt_then ?_
  refine ht_seq ?_
  refine ht_seqR hn (El := [_, _, (4, .v .nilIface)]) (init := [0, 1]) (fin := [0, 1, 2]) (sps := [⟨[], [], [2], [(.slot 4)]⟩]) (es' := [(_, _), (_, _), (4, .v .nilIface)]) (by kernel_rfl) rfl rfl
   ⟨st_plain rfl (op_assign _ _ _ _ rfl rfl),
   trivial⟩ ?_
  refine pt_then ?_
  refine ht_ret ?_
  refine pt_bld 0 ?_
  refine pt_pick [2, 0, 1] (by kernel_rfl) (es' := [(_, _), (_, _), (_, _)]) rfl ?_
  exact pt_retP (es := [(4, .v .nilIface)]) (posts := [.hid (bldT 48 5 true (List.map (Value.int .u8) r))]) hio rfl rfl (.tmp _ _ .nil) rfl rfl hargs0 rfl

set_option maxHeartbeats 1000000 in
theorem ok_strings_Builder_String (xs : List Int) (s : ByteArray) (h : strO xs = some s) : FnP Tryd.prog 29 [.hid (bldT 48 5 false (List.map (Value.int .u8) xs))] [] (.v (.string s)) := by
  refine fn_okP Tryd.func29 rfl (Nat.le_of_ble_eq_true rfl) rfl (Nat.le_of_ble_eq_true rfl) fun args0 hargs0 g0 hn hio => ?_
  refine ht_bld_row 0 fun v => ?_
  refine ht_seq ?_
  refine ht_seqR hn (El := [_, (2, .v (.string ByteArray.empty))]) (init := [0]) (fin := [0]) (sps := [⟨[], [], [1], [(.slot 2)]⟩]) (es' := [(_, _)]) (by kernel_rfl) rfl rfl
   ⟨st_plain rfl (op_assign _ _ _ _ rfl rfl),
   trivial⟩ ?_
  refine pt_then ?_
  refine ht_seq ?_
  refine ht_anyR (by kernel_rfl) hn (El := [_, (3, .same (.slot 0)), (4, .ptr 0 0), (5, .ptr 0 1), (6, .v v), (7, .hid (usdT v)), (8, .same (.slot 0)), (9, .ptr 0 0), (10, .ptr 0 1), (11, .v v), (12, .v (.int .i64 ((List.map (Value.int .u8) xs).length : Int))), (13, .v (.string s)), (2, .v (.string s))]) (init := [0]) (fin := [12]) (sps := [⟨[], [], [1], [(.slot 3)]⟩, ⟨[1, 0], [], [2], [(.slot 4)]⟩, ⟨[2], [], [3], [(.slot 5)]⟩, ⟨[3, 0], [], [4], [(.slot 6)]⟩, ⟨[4, 0], [], [5], [(.slot 7)]⟩, ⟨[], [], [6], [(.slot 8)]⟩, ⟨[6, 0], [], [7], [(.slot 9)]⟩, ⟨[7], [], [8], [(.slot 10)]⟩, ⟨[8, 0], [], [9], [(.slot 11)]⟩, ⟨[9, 0], [], [10], [(.slot 12)]⟩, ⟨[5, 10], [0], [11], [(.slot 13)]⟩, ⟨[11], [], [12], [(.slot 2)]⟩]) (es' := [(2, .v (.string s))]) (by kernel_rfl) rfl rfl
   ⟨st_plain rfl (op_move_name _ _ _ rfl),
   st_plain rfl (op_nilCheck_bld _ _ _ 0 rfl rfl (by decide)),
   st_plain rfl (op_fieldAddr _ _ _ _ 0 0 _ Tryd.underlying48 rfl sz22 rfl rfl (by decide)),
   st_plain rfl (op_load_bld _ _ _ 0 Tryd.underlying22 rfl rfl rfl),
   st_plain rfl (op_usd _ _ 0 Tryd.underlying72 rfl rfl),
   st_plain rfl (op_move_name _ _ _ rfl),
   st_plain rfl (op_nilCheck_bld _ _ _ 0 rfl rfl (by decide)),
   st_plain rfl (op_fieldAddr _ _ _ _ 0 0 _ Tryd.underlying48 rfl sz22 rfl rfl (by decide)),
   st_plain rfl (op_load_bld _ _ _ 0 Tryd.underlying22 rfl rfl rfl),
   st_plain rfl (op_len_bld _ _ 0 Tryd.underlying22 rfl rfl),
   st_plain rfl (op_ustr _ _ 0 Tryd.underlying72 (by kernel_rfl) rfl rfl h),
   st_plain rfl (op_assign _ _ _ _ rfl rfl),
   trivial⟩ ?_
  refine pt_then ?_
  refine ht_ret ?_
  exact pt_retP (es := [(2, .v (.string s))]) (posts := []) hio rfl rfl (.tmp _ _ .nil) rfl rfl hargs0 rfl

set_option maxHeartbeats 1000000 in
theorem ok_cram_Hex (b : (List Int)) (r : ByteArray) (h : Sh.cram_Hex b = some r) : FnOK Tryd.prog 14 [.fl .shr 1 (List.map (Value.int .u8) b)] (.v (.string r)) := by
  unfold Sh.cram_Hex at h
  refine fn_ok Tryd.func14 rfl (Nat.le_of_ble_eq_true rfl) rfl rfl fun g0 hn hio => ?_
  refine ht_seq ?_
  refine ht_seqR hn (El := [_, (2, .v (.string (⟨#[]⟩ : ByteArray)))]) (init := [0]) (fin := [0]) (sps := [⟨[], [], [1], [(.slot 2)]⟩]) (es' := [(_, _)]) (by kernel_rfl) rfl rfl
   ⟨st_plain rfl (op_assign _ _ _ _ rfl rfl),
   trivial⟩ ?_
  refine pt_then ?_
  refine ht_seq ?_
  refine ht_seqR hn (El := [_, (3, .hid (bldT 48 5 false (List.map (Value.int .u8) ([] : List Int))))]) (init := [0]) (fin := [0, 1]) (sps := [⟨[], [], [1], [(.slot 3)]⟩]) (es' := [(_, _), (3, .hid (bldT 48 5 false (List.map (Value.int .u8) ([] : List Int))))]) (by kernel_rfl) rfl rfl
   ⟨st_plain rfl (LOp.bld0 (op_alloc _ _ zr48)),
   trivial⟩ ?_
  refine pt_then ?_
  refine ht_seq ?_
  refine ht_seq ?_
  refine ht_seqR hn (El := [_, _, (6, .fl .shr 1 (List.map (Value.int .u8) b)), (7, .v (.int .i64 (b.length : Int))), (8, .v (.int .i64 0))]) (init := [0, 1]) (fin := [1, 2, 3, 4]) (sps := [⟨[0], [], [2], [(.slot 6)]⟩, ⟨[2], [], [3], [(.slot 7)]⟩, ⟨[], [], [4], [(.slot 8)]⟩]) (es' := [(_, _), (6, .fl .shr 1 (List.map (Value.int .u8) b)), (7, .v (.int .i64 (b.length : Int))), (8, .v (.int .i64 0))]) (by kernel_rfl) rfl rfl
   ⟨st_plain rfl (op_move _ _ _ _ rfl rfl),
   st_plain rfl (op_len_fl _ _ _ Tryd.underlying22 rfl (by decide) (map_len _)),
   st_plain rfl (op_move _ _ _ _ rfl rfl),
   trivial⟩ ?_
  refine pt_then ?_
  refine ht_loopS h (fun ((s14, s15) : (List Int) × Int) => [(3, .hid (bldT 48 5 false (List.map (Value.int .u8) s14))), (6, .fl .shr 1 (List.map (Value.int .u8) b)), (7, .v (.int .i64 (b.length : Int))), (8, .v (.int .i64 s15))]) (fun (s17 : (List Int)) => [(3, .hid (bldT 48 5 false (List.map (Value.int .u8) s17)))]) ?_ ?_
  ·rintro s17 h
   refine pt_then ?_
   refine ht_seq ?_
   obtain ⟨v25, hv25, h⟩ := bind_some h
   refine ht_seqR hn (El := [_, (21, .v (.string v25)), (2, .v (.string v25))]) (init := [0]) (fin := [2]) (sps := [⟨[], [0], [1], [(.slot 21)]⟩, ⟨[1], [], [2], [(.slot 2)]⟩]) (es' := [(2, .v (.string v25))]) (by kernel_rfl) rfl rfl
    ⟨st_plain rfl (op_callPS _ _ _ _ 21 29 [.tmp 3] [] _ _ _ rfl Tryd.call29 rfl rfl rfl (ok_strings_Builder_String s17 _ hv25) (Nat.le_of_ble_eq_true rfl) rfl rfl rfl rfl rfl rfl rfl),
    st_plain rfl (op_assign _ _ _ _ rfl rfl),
    trivial⟩ ?_
   refine pt_then ?_
   refine ht_ret ?_
   obtain rfl := Option.some.inj h
   exact pt_ret hio rfl (.tmp _ _ .nil) rfl rfl
  ·rintro u18 hl19 hr20 ⟨s14, s15⟩ rr23 h ho21
   refine ht_seq ?_
   refine ht_seqR hn (El := [_, _, _, _, (9, .v (.bool ((decide (s15 < (b.length : Int))))))]) (init := [0, 1, 2, 3]) (fin := [0, 1, 2, 3, 4]) (sps := [⟨[3, 2], [], [4], [(.slot 9)]⟩]) (es' := [(_, _), (_, _), (_, _), (_, _), (9, .v (.bool ((decide (s15 < (b.length : Int))))))]) (by kernel_rfl) rfl rfl
    ⟨st_plain rfl (op_bin _ _ _ _ _ rfl rfl rfl),
    trivial⟩ ?_
   refine pt_then ?_
   refine ht_seq ?_
   refine ht_cond _ rfl (fun hb24 => ?_) (fun hb24 => ?_)
   ·have h := cond_t hb24 h
    refine ht_skip ?_
    refine pt_then ?_
    refine ht_seq ?_
    refine ht_block ?_
    refine ht_seq ?_
    obtain ⟨v2, hv2, h⟩ := bind_some h
    obtain ⟨v3, hv3, h⟩ := bind_some h
    refine ht_seqR hn (El := [_, _, _, _, _, (10, .eref (.slot 6) (v2 * 1)), (11, .v (.int .u8 v3)), (5, .v (.int .u8 v3))]) (init := [0, 1, 2, 3, 4]) (fin := [0, 1, 2, 3, 7]) (sps := [⟨[1, 3], [], [5], [(.slot 10)]⟩, ⟨[5, 1], [], [6], [(.slot 11)]⟩, ⟨[6], [], [7], [(.slot 5)]⟩]) (es' := [(_, _), (_, _), (_, _), (_, _), (5, .v (.int .u8 v3))]) (by kernel_rfl) rfl rfl
     ⟨st_plain rfl (op_ix _ _ _ _ _ _ _ _ Tryd.underlying22 sz5 (by decide) rfl rfl rfl (ix_ok hv2).1 (map_lt (ix_ok hv2).2) rfl),
     st_plain rfl (op_load_e _ _ _ _ _ _ Tryd.underlying5 rfl rfl rfl (map_get hv3)),
     st_plain rfl (op_assign _ _ _ _ rfl rfl),
     trivial⟩ ?_
    refine pt_then ?_
    refine ht_seq ?_
    obtain ⟨v4, hv4, h⟩ := bind_some h
    obtain ⟨v5, hv5, h⟩ := bind_some h
    obtain ⟨v6, hv6, h⟩ := bind_some h
    refine ht_seqR hn (El := [_, _, _, _, _, (12, .v (.int .u8 v3)), (13, .v (.int .u8 v4)), (14, .v (.int .u8 v5)), (15, .v (.nilIface)), (3, .hid (bldT 48 5 false (List.map (Value.int .u8) v6)))]) (init := [0, 1, 2, 3, 4]) (fin := [9, 1, 2, 3, 4]) (sps := [⟨[4], [], [5], [(.slot 12)]⟩, ⟨[5], [], [6], [(.slot 13)]⟩, ⟨[6], [], [7], [(.slot 14)]⟩, ⟨[7], [0], [9, 8], [(.slot 15)]⟩]) (es' := [(3, .hid (bldT 48 5 false (List.map (Value.int .u8) v6))), (_, _), (_, _), (_, _), (_, _)]) (by kernel_rfl) rfl rfl
     ⟨st_plain rfl (op_move _ _ _ _ rfl rfl),
     st_plain rfl (op_bin _ _ _ _ _ rfl rfl (shr_ok hv4)),
     st_plain rfl (op_chr _ _ _ v4 _ Tryd.underlying9 rfl rfl hv5),
     st_plain rfl (op_callPS _ _ _ _ 15 26 [.tmp 3] [.tmp 14] _ _ _ rfl Tryd.call26 rfl rfl rfl (ok_strings_Builder_WriteByte s14 v5 _ hv6) (Nat.le_of_ble_eq_true rfl) rfl rfl rfl rfl rfl rfl rfl),
     trivial⟩ ?_
    refine pt_then ?_
    obtain ⟨v7, hv7, h⟩ := bind_some h
    obtain ⟨v8, hv8, h⟩ := bind_some h
    obtain ⟨v9, hv9, h⟩ := bind_some h
    refine ht_seqR hn (El := [_, _, _, _, _, (16, .v (.int .u8 v3)), (17, .v (.int .u8 v7)), (18, .v (.int .u8 v8)), (19, .v (.nilIface)), (3, .hid (bldT 48 5 false (List.map (Value.int .u8) v9)))]) (init := [0, 1, 2, 3, 4]) (fin := [9, 1, 2, 3]) (sps := [⟨[4], [], [5], [(.slot 16)]⟩, ⟨[5], [], [6], [(.slot 17)]⟩, ⟨[6], [], [7], [(.slot 18)]⟩, ⟨[7], [0], [9, 8], [(.slot 19)]⟩]) (es' := [(3, .hid (bldT 48 5 false (List.map (Value.int .u8) v9))), (_, _), (_, _), (_, _)]) (by kernel_rfl) rfl rfl
     ⟨st_plain rfl (op_move _ _ _ _ rfl rfl),
     st_plain rfl (op_bin _ _ _ _ _ rfl rfl (ibind (f := Value.int .u8) (Option.some.inj hv7))),
     st_plain rfl (op_chr _ _ _ v7 _ Tryd.underlying9 rfl rfl hv8),
     st_plain rfl (op_callPS _ _ _ _ 19 26 [.tmp 3] [.tmp 18] _ _ _ rfl Tryd.call26 rfl rfl rfl (ok_strings_Builder_WriteByte v6 v8 _ hv9) (Nat.le_of_ble_eq_true rfl) rfl rfl rfl rfl rfl rfl rfl),
     trivial⟩ ?_
    refine pt_inb ?_
    refine pt_then ?_
    obtain ⟨v10, hv10, h⟩ := bind_some h
    refine ht_seqR hn (El := [_, _, _, _, (20, .v (.int .i64 v10)), (8, .v (.int .i64 v10))]) (init := [0, 1, 2, 3]) (fin := [0, 1, 2, 5]) (sps := [⟨[3], [], [4], [(.slot 20)]⟩, ⟨[4], [3], [5], [(.slot 8)]⟩]) (es' := [(_, _), (_, _), (_, _), (8, .v (.int .i64 v10))]) (by kernel_rfl) rfl rfl
     ⟨st_plain rfl (op_bin _ _ _ _ _ rfl rfl (ibind (f := Value.int .i64) (Option.some.inj hv10))),
     st_plain rfl (LOp.drop [_] (op_move _ _ _ _ rfl rfl)),
     trivial⟩ ?_
    exact pt_next _ (Option.some.inj h).symm rfl
   ·have h := cond_f hb24 h
    refine ht_exit ?_
    refine pt_x_then ?_
    refine pt_x_then ?_
    refine pt_x_in ?_
    refine pt_pick [0] (by kernel_rfl) (es' := [(_, _)]) rfl ?_
    exact hl19 _ (ho21 _ (Option.some.inj h).symm).symm

theorem ok_strings_Repeat (s : ByteArray) (c : Int) (r : ByteArray) (h : Sh.strings_Repeat s c = some r) : FnOK Tryd.prog 28 [.v (.string s), .v (.int .i64 c)] (.v (.string r)) := lib_strings_Repeat Tryd.strings_Repeat s c r h

set_option maxHeartbeats 1000000 in
theorem ok_strings_Builder_WriteString (xs : List Int) (s : ByteArray) (r : List Int) (h : appO 1 xs (sbytes s) = some r) : FnP Tryd.prog 27 [.hid (bldT 48 5 false (List.map (Value.int .u8) xs)), .v (.string s)] [.hid (bldT 48 5 false (List.map (Value.int .u8) r))] (.tup [.v (.int .i64 (s.size : Int)), .v .nilIface]) := by
  refine FnP.bldW ?_
  refine fn_okP Tryd.func27 rfl (Nat.le_of_ble_eq_true rfl) rfl (Nat.le_of_ble_eq_true rfl) fun args0 hargs0 g0 hn hio => ?_
  refine ht_seq ?_
  refine ht_seqR hn (El := [_, _, _, (4, .v (.int .i64 0)), (5, .v .nilIface)]) (init := [0, 1, 2]) (fin := [0, 1, 2]) (sps := [⟨[], [], [3], [(.slot 4)]⟩, ⟨[], [], [4], [(.slot 5)]⟩]) (es' := [(_, _), (_, _), (_, _)]) (by kernel_rfl) rfl rfl
   ⟨st_plain rfl (op_assign _ _ _ _ rfl rfl),
   st_plain rfl (op_assign _ _ _ _ rfl rfl),
   trivial⟩ ?_
  refine pt_then ?_
  refine ht_seq ?_
  refine ht_seqR hn (El := [_, _, _, (6, .same (.slot 0)), (0, .hid (bldT 48 5 true (List.map (Value.int .u8) xs))), (7, .tup [])]) (init := [0, 1, 2]) (fin := [4, 1, 2]) (sps := [⟨[], [], [3], [(.slot 6)]⟩, ⟨[3], [0], [4, 5], [(.slot 7)]⟩]) (es' := [(0, .hid (bldT 48 5 true (List.map (Value.int .u8) xs))), (_, _), (_, _)]) (by kernel_rfl) rfl rfl
   ⟨st_plain rfl (op_move_name _ _ _ rfl),
   st_plain rfl (op_callPS _ _ _ _ 7 38 [.tmp 6] [] _ _ _ rfl Tryd.call38 rfl rfl rfl (ok_strings_Builder_copyCheck _) (Nat.le_of_ble_eq_true rfl) rfl rfl rfl rfl rfl rfl rfl),
   trivial⟩ ?_
  refine pt_then ?_
  refine ht_bld_box 0 rfl ?_
  refine ht_seq ?_
  refine ht_seqR hn (El := (_ :: _ :: _ :: (8, .ptr 0 0) :: (9, .ptr 0 0) :: (10, .ptr 0 0) :: (11, .ptr 0 1) :: (12, .same (.cell 0 1)) :: (13, .v (.string s)) :: (14, .fl (.own 5) 1 (List.map (Value.int .u8) r)) :: (0, .box 48 [.ptr 0 0, .any]) :: (15, .ptr 0 0) :: (16, .ptr 0 1) :: (0, .box 48 [.ptr 0 0, .fl (.own 5) 1 (List.map (Value.int .u8) r)]) :: [])) (init := [0, 1, 2]) (fin := [13, 1, 2]) (sps := [⟨[0], [], [3], [(.slot 8)]⟩, ⟨[0], [], [4], [(.slot 9)]⟩, ⟨[4, 0], [], [5], [(.slot 10)]⟩, ⟨[5, 0], [], [6], [(.slot 11)]⟩, ⟨[6, 0], [], [7], [(.slot 12)]⟩, ⟨[1], [], [8], [(.slot 13)]⟩, ⟨[7, 8], [0], [10, 9], [(.slot 14)]⟩, ⟨[3, 10], [], [11], [(.slot 15)]⟩, ⟨[11, 10], [], [12], [(.slot 16)]⟩, ⟨[12], [7, 9, 10], [13], [.cell 0 1]⟩]) (es' := [(0, .box 48 [.ptr 0 0, .fl (.own 5) 1 (List.map (Value.int .u8) r)]), (_, _), (_, _)]) (by kernel_rfl) rfl rfl
   ⟨st_plain rfl (op_move _ _ _ _ rfl rfl),
   st_plain rfl (op_move _ _ _ _ rfl rfl),
   st_plain rfl (op_nilCheck _ _ _ 0 0 rfl (by decide)),
   st_plain rfl (op_fieldAddr _ _ _ _ 0 0 _ Tryd.underlying48 rfl sz22 rfl rfl (by decide)),
   st_plain rfl (op_load _ _ _ _ _ _ Tryd.underlying22 rfl rfl rfl (Nat.le_of_ble_eq_true rfl) rfl rfl rfl),
   st_plain rfl (op_move _ _ _ _ rfl rfl),
   st_plain rfl (op_apps_cell _ _ _ _ _ _ el22 zr5 Tryd.underlying9 rfl rfl (Nat.le_of_ble_eq_true rfl) rfl rfl h rfl (by decide) rfl rfl),
   st_plain rfl (op_nilCheck _ _ _ 0 0 rfl (by decide)),
   st_plain rfl (op_fieldAddr _ _ _ _ 0 0 _ Tryd.underlying48 rfl sz22 rfl rfl (by decide)),
   st_plain rfl (LOp.drop [_] (op_store_take _ _ _ _ _ _ _ _ sz22 rfl rfl rfl (Nat.le_of_ble_eq_true rfl) rfl rfl)),
   trivial⟩ ?_
  refine pt_then ?_
  refine ht_seq ?_
  refine ht_seqR hn (El := [_, _, _, (17, .v (.string s)), (18, .v (.int .i64 (s.size : Int))), (4, .v (.int .i64 (s.size : Int))), (5, .v .nilIface)]) (init := [0, 1, 2]) (fin := [0, 2, 5, 6]) (sps := [⟨[1], [], [3], [(.slot 17)]⟩, ⟨[3], [], [4], [(.slot 18)]⟩, ⟨[4], [], [5], [(.slot 4)]⟩, ⟨[], [], [6], [(.slot 5)]⟩]) (es' := [(_, _), (_, _), (4, .v (.int .i64 (s.size : Int))), (5, .v .nilIface)]) (by kernel_rfl) rfl rfl
   ⟨st_plain rfl (op_move _ _ _ _ rfl rfl),
   st_plain rfl (op_len_str _ _ _ Tryd.underlying9 rfl),
   st_plain rfl (op_assign _ _ _ _ rfl rfl),
   st_plain rfl (op_assign _ _ _ _ rfl rfl),
   trivial⟩ ?_
  refine pt_then ?_
  refine ht_ret ?_
  refine pt_bld 0 ?_
  refine pt_pick [2, 3, 0, 1] (by kernel_rfl) (es' := [(_, _), (_, _), (_, _), (_, _)]) rfl ?_
  exact pt_retP (es := [(4, .v (.int .i64 (s.size : Int))), (5, .v .nilIface)]) (posts := [.hid (bldT 48 5 true (List.map (Value.int .u8) r))]) hio rfl rfl (.tmp _ _ (.tmp _ _ .nil)) rfl rfl hargs0 rfl

set_option maxHeartbeats 1000000 in
theorem ok_cram_Encode (b : (List Int)) (r : ByteArray) (h : Sh.cram_Encode b = some r) : FnOK Tryd.prog 12 [.fl .shr 1 (List.map (Value.int .u8) b)] (.v (.string r)) := by
  unfold Sh.cram_Encode at h
  refine fn_ok Tryd.func12 rfl (Nat.le_of_ble_eq_true rfl) rfl rfl fun g0 hn hio => ?_
  refine ht_seq ?_
  refine ht_seqR hn (El := [_, (2, .v (.string (⟨#[]⟩ : ByteArray)))]) (init := [0]) (fin := [0]) (sps := [⟨[], [], [1], [(.slot 2)]⟩]) (es' := [(_, _)]) (by kernel_rfl) rfl rfl
   ⟨st_plain rfl (op_assign _ _ _ _ rfl rfl),
   trivial⟩ ?_
  refine pt_then ?_
  refine ht_seq ?_
  refine ht_seqR hn (El := [_, (3, .hid (bldT 48 5 false (List.map (Value.int .u8) ([] : List Int))))]) (init := [0]) (fin := [0, 1]) (sps := [⟨[], [], [1], [(.slot 3)]⟩]) (es' := [(_, _), (3, .hid (bldT 48 5 false (List.map (Value.int .u8) ([] : List Int))))]) (by kernel_rfl) rfl rfl
   ⟨st_plain rfl (LOp.bld0 (op_alloc _ _ zr48)),
   trivial⟩ ?_
  refine pt_then ?_
  refine ht_seq ?_
  refine ht_seq ?_
  refine ht_seqR hn (El := [_, _, (4, .v (.int .i64 0))]) (init := [0, 1]) (fin := [0, 1, 2]) (sps := [⟨[], [], [2], [(.slot 4)]⟩]) (es' := [(_, _), (_, _), (4, .v (.int .i64 0))]) (by kernel_rfl) rfl rfl
   ⟨st_plain rfl (op_assign _ _ _ _ rfl rfl),
   trivial⟩ ?_
  refine pt_then ?_
  refine ht_loopS h (fun ((s89, s90) : (List Int) × Int) => [(0, .fl .shr 1 (List.map (Value.int .u8) b)), (3, .hid (bldT 48 5 false (List.map (Value.int .u8) s89))), (4, .v (.int .i64 s90))]) (fun (s122 : (List Int)) => [(3, .hid (bldT 48 5 false (List.map (Value.int .u8) s122)))]) ?_ ?_
  ·rintro s122 h
   refine pt_then ?_
   refine ht_seq ?_
   obtain ⟨v160, hv160, h⟩ := bind_some h
   refine ht_seqR hn (El := [_, (60, .v (.string v160)), (2, .v (.string v160))]) (init := [0]) (fin := [2]) (sps := [⟨[], [0], [1], [(.slot 60)]⟩, ⟨[1], [], [2], [(.slot 2)]⟩]) (es' := [(2, .v (.string v160))]) (by kernel_rfl) rfl rfl
    ⟨st_plain rfl (op_callPS _ _ _ _ 60 29 [.tmp 3] [] _ _ _ rfl Tryd.call29 rfl rfl rfl (ok_strings_Builder_String s122 _ hv160) (Nat.le_of_ble_eq_true rfl) rfl rfl rfl rfl rfl rfl rfl),
    st_plain rfl (op_assign _ _ _ _ rfl rfl),
    trivial⟩ ?_
   refine pt_then ?_
   refine ht_ret ?_
   obtain rfl := Option.some.inj h
   exact pt_ret hio rfl (.tmp _ _ .nil) rfl rfl
  ·rintro u123 hl124 hr125 ⟨s89, s90⟩ rr128 h ho126
   refine ht_seq ?_
   refine ht_seq ?_
   refine ht_seqR hn (El := [_, _, _, (10, .v (.int .i64 s90)), (11, .fl .shr 1 (List.map (Value.int .u8) b)), (12, .v (.int .i64 (b.length : Int))), (13, .v (.bool ((decide (s90 < (b.length : Int))))))]) (init := [0, 1, 2]) (fin := [0, 1, 2, 6]) (sps := [⟨[2], [], [3], [(.slot 10)]⟩, ⟨[0], [], [4], [(.slot 11)]⟩, ⟨[4], [], [5], [(.slot 12)]⟩, ⟨[3, 5], [], [6], [(.slot 13)]⟩]) (es' := [(_, _), (_, _), (_, _), (13, .v (.bool ((decide (s90 < (b.length : Int))))))]) (by kernel_rfl) rfl rfl
    ⟨st_plain rfl (op_move _ _ _ _ rfl rfl),
    st_plain rfl (op_move _ _ _ _ rfl rfl),
    st_plain rfl (op_len_fl _ _ _ Tryd.underlying22 rfl (by decide) (map_len _)),
    st_plain rfl (op_bin _ _ _ _ _ rfl rfl rfl),
    trivial⟩ ?_
   refine pt_then ?_
   refine ht_cond _ rfl (fun hb129 => ?_) (fun hb129 => ?_)
   ·have h := cond_t hb129 h
    refine ht_skip ?_
    refine pt_then ?_
    refine ht_seq ?_
    refine ht_block ?_
    refine ht_seq ?_
    obtain ⟨v2, hv2, h⟩ := bind_some h
    obtain ⟨v3, hv3, h⟩ := bind_some h
    refine ht_seqR hn (El := [_, _, _, _, (16, .fl .shr 1 (List.map (Value.int .u8) b)), (17, .v (.int .i64 (b.length : Int))), (18, .v (.int .i64 s90)), (19, .v (.int .i64 v2)), (20, .v (.int .i64 v3)), (5, .v (.int .i64 v3))]) (init := [0, 1, 2, 3]) (fin := [0, 1, 2, 9]) (sps := [⟨[0], [], [4], [(.slot 16)]⟩, ⟨[4], [], [5], [(.slot 17)]⟩, ⟨[2], [], [6], [(.slot 18)]⟩, ⟨[5, 6], [], [7], [(.slot 19)]⟩, ⟨[7], [], [8], [(.slot 20)]⟩, ⟨[8], [], [9], [(.slot 5)]⟩]) (es' := [(_, _), (_, _), (_, _), (5, .v (.int .i64 v3))]) (by kernel_rfl) rfl rfl
     ⟨st_plain rfl (op_move _ _ _ _ rfl rfl),
     st_plain rfl (op_len_fl _ _ _ Tryd.underlying22 rfl (by decide) (map_len _)),
     st_plain rfl (op_move _ _ _ _ rfl rfl),
     st_plain rfl (op_bin _ _ _ _ _ rfl rfl (ibind (f := Value.int .i64) (Option.some.inj hv2))),
     st_plain rfl ((Option.some.inj hv3) ▸ op_min _ _ _ _ rfl rfl),
     st_plain rfl (op_assign _ _ _ _ rfl rfl),
     trivial⟩ ?_
    refine pt_then ?_
    refine ht_seq ?_
    refine ht_seqR hn (El := [_, _, _, _, (6, .v (.int .u32 0))]) (init := [0, 1, 2, 3]) (fin := [0, 1, 2, 3, 4]) (sps := [⟨[], [], [4], [(.slot 6)]⟩]) (es' := [(_, _), (_, _), (_, _), (_, _), (6, .v (.int .u32 0))]) (by kernel_rfl) rfl rfl
     ⟨st_plain rfl (op_assign _ _ _ _ rfl rfl),
     trivial⟩ ?_
    refine pt_then ?_
    refine ht_seq ?_
    refine ht_seq ?_
    obtain ⟨v4, hv4, h⟩ := bind_some h
    obtain ⟨v5, hv5, h⟩ := bind_some h
    refine ht_seqR hn (El := [_, _, _, _, _, (21, .fl .shr 1 (List.map (Value.int .u8) b)), (22, .v (.int .i64 s90)), (23, .v (.int .i64 s90)), (24, .v (.int .i64 v3)), (25, .v (.int .i64 v4)), (26, .fl .shr 1 (List.map (Value.int .u8) v5)), (27, .v (.int .i64 (v5.length : Int))), (28, .v (.int .i64 0))]) (init := [0, 1, 2, 3, 4]) (fin := [0, 1, 2, 3, 4, 10, 11, 12]) (sps := [⟨[0], [], [5], [(.slot 21)]⟩, ⟨[2], [], [6], [(.slot 22)]⟩, ⟨[2], [], [7], [(.slot 23)]⟩, ⟨[3], [], [8], [(.slot 24)]⟩, ⟨[7, 8], [], [9], [(.slot 25)]⟩, ⟨[5, 6, 9], [], [10], [(.slot 26)]⟩, ⟨[10], [], [11], [(.slot 27)]⟩, ⟨[], [], [12], [(.slot 28)]⟩]) (es' := [(_, _), (_, _), (_, _), (_, _), (_, _), (26, .fl .shr 1 (List.map (Value.int .u8) v5)), (27, .v (.int .i64 (v5.length : Int))), (28, .v (.int .i64 0))]) (by kernel_rfl) rfl rfl
     ⟨st_plain rfl (op_move _ _ _ _ rfl rfl),
     st_plain rfl (op_move _ _ _ _ rfl rfl),
     st_plain rfl (op_move _ _ _ _ rfl rfl),
     st_plain rfl (op_move _ _ _ _ rfl rfl),
     st_plain rfl (op_bin _ _ _ _ _ rfl rfl (ibind (f := Value.int .i64) (Option.some.inj hv4))),
     st_plain rfl (op_sl _ _ _ s90 v4 _ Tryd.underlying22 sz5 rfl rfl ⟨_, rfl⟩ ⟨_, rfl⟩ hv5),
     st_plain rfl (op_len_fl _ _ _ Tryd.underlying22 rfl (by decide) (map_len _)),
     st_plain rfl (op_move _ _ _ _ rfl rfl),
     trivial⟩ ?_
    refine pt_then ?_
    refine ht_loopS h (fun ((s134, s135) : Int × Int) => [(0, .fl .shr 1 (List.map (Value.int .u8) b)), (3, .hid (bldT 48 5 false (List.map (Value.int .u8) s89))), (4, .v (.int .i64 s90)), (5, .v (.int .i64 v3)), (6, .v (.int .u32 s134)), (26, .fl .shr 1 (List.map (Value.int .u8) v5)), (27, .v (.int .i64 (v5.length : Int))), (28, .v (.int .i64 s135))]) (fun (s137 : Int) => [(0, .fl .shr 1 (List.map (Value.int .u8) b)), (3, .hid (bldT 48 5 false (List.map (Value.int .u8) s89))), (4, .v (.int .i64 s90)), (5, .v (.int .i64 v3)), (6, .v (.int .u32 s137))]) ?_ ?_
    ·rintro s137 h
     refine pt_then ?_
     refine ht_seq ?_
     refine ht_seq ?_
     obtain ⟨v29, hv29, h⟩ := bind_some h
     refine ht_seqR hn (El := [_, _, _, _, _, (42, .v (.int .i64 v3)), (43, .v (.int .i64 v29)), (44, .v (.int .i64 0))]) (init := [0, 1, 2, 3, 4]) (fin := [0, 1, 2, 3, 4, 6, 7]) (sps := [⟨[3], [], [5], [(.slot 42)]⟩, ⟨[5], [], [6], [(.slot 43)]⟩, ⟨[], [], [7], [(.slot 44)]⟩]) (es' := [(_, _), (_, _), (_, _), (_, _), (_, _), (43, .v (.int .i64 v29)), (44, .v (.int .i64 0))]) (by kernel_rfl) rfl rfl
      ⟨st_plain rfl (op_move _ _ _ _ rfl rfl),
      st_plain rfl (op_bin _ _ _ _ _ rfl rfl (ibind (f := Value.int .i64) (Option.some.inj hv29))),
      st_plain rfl (op_move _ _ _ _ rfl rfl),
      trivial⟩ ?_
     refine pt_then ?_
     refine ht_loopS h (fun ((s149, s150) : (List Int) × Int) => [(0, .fl .shr 1 (List.map (Value.int .u8) b)), (3, .hid (bldT 48 5 false (List.map (Value.int .u8) s149))), (4, .v (.int .i64 s90)), (5, .v (.int .i64 v3)), (6, .v (.int .u32 s137)), (43, .v (.int .i64 v29)), (44, .v (.int .i64 s150))]) (fun (s152 : (List Int)) => [(0, .fl .shr 1 (List.map (Value.int .u8) b)), (3, .hid (bldT 48 5 false (List.map (Value.int .u8) s152))), (4, .v (.int .i64 s90)), (5, .v (.int .i64 v3))]) ?_ ?_
     ·rintro s152 h
      refine pt_then ?_
      obtain ⟨v52, hv52, h⟩ := bind_some h
      obtain ⟨v53, hv53, h⟩ := bind_some h
      obtain ⟨v54, hv54, h⟩ := bind_some h
      refine ht_seqR hn (El := [_, _, _, _, (56, .v (.int .i64 v3)), (57, .v (.int .i64 v52)), (58, .v (.string v53)), (59, .tup [.v (.int .i64 (v53.size : Int)), .v (.nilIface)]), (3, .hid (bldT 48 5 false (List.map (Value.int .u8) v54)))]) (init := [0, 1, 2, 3]) (fin := [0, 8, 2]) (sps := [⟨[3], [], [4], [(.slot 56)]⟩, ⟨[4], [], [5], [(.slot 57)]⟩, ⟨[5], [], [6], [(.slot 58)]⟩, ⟨[6], [1], [8, 7], [(.slot 59)]⟩]) (es' := [(_, _), (3, .hid (bldT 48 5 false (List.map (Value.int .u8) v54))), (_, _)]) (by kernel_rfl) rfl rfl
       ⟨st_plain rfl (op_move _ _ _ _ rfl rfl),
       st_plain rfl (op_bin _ _ _ _ _ rfl rfl (ibind (f := Value.int .i64) (Option.some.inj hv52))),
       st_plain rfl (op_call _ _ 28 _ _ rfl Tryd.call28 rfl (ok_strings_Repeat (⟨#[61]⟩ : ByteArray) v52 _ hv53) rfl rfl),
       st_plain rfl (op_callPS _ _ _ _ 59 27 [.tmp 3] [.tmp 58] _ _ _ rfl Tryd.call27 rfl rfl rfl (ok_strings_Builder_WriteString s152 v53 _ hv54) (Nat.le_of_ble_eq_true rfl) rfl rfl rfl rfl rfl rfl rfl),
       trivial⟩ ?_
      refine pt_inb ?_
      refine pt_then ?_
      obtain ⟨v55, hv55, h⟩ := bind_some h
      refine ht_seqR hn (El := [_, _, _, (14, .v (.int .i64 s90)), (15, .v (.int .i64 v55)), (4, .v (.int .i64 v55))]) (init := [0, 1, 2]) (fin := [0, 1, 5]) (sps := [⟨[2], [], [3], [(.slot 14)]⟩, ⟨[3], [], [4], [(.slot 15)]⟩, ⟨[4], [2], [5], [(.slot 4)]⟩]) (es' := [(_, _), (_, _), (4, .v (.int .i64 v55))]) (by kernel_rfl) rfl rfl
       ⟨st_plain rfl (op_move _ _ _ _ rfl rfl),
       st_plain rfl (op_bin _ _ _ _ _ rfl rfl (ibind (f := Value.int .i64) (Option.some.inj hv55))),
       st_plain rfl (LOp.drop [_] (op_assign _ _ _ _ rfl rfl)),
       trivial⟩ ?_
      exact pt_next _ (Option.some.inj h).symm rfl
     ·rintro u153 hl154 hr155 ⟨s149, s150⟩ rr158 h ho156
      refine ht_seq ?_
      refine ht_seqR hn (El := [_, _, _, _, _, _, _, (45, .v (.bool ((decide (s150 < v29)))))]) (init := [0, 1, 2, 3, 4, 5, 6]) (fin := [0, 1, 2, 3, 4, 5, 6, 7]) (sps := [⟨[6, 5], [], [7], [(.slot 45)]⟩]) (es' := [(_, _), (_, _), (_, _), (_, _), (_, _), (_, _), (_, _), (45, .v (.bool ((decide (s150 < v29)))))]) (by kernel_rfl) rfl rfl
       ⟨st_plain rfl (op_bin _ _ _ _ _ rfl rfl rfl),
       trivial⟩ ?_
      refine pt_then ?_
      refine ht_seq ?_
      refine ht_cond _ rfl (fun hb159 => ?_) (fun hb159 => ?_)
      ·have h := cond_t hb159 h
       refine ht_skip ?_
       refine pt_then ?_
       refine ht_seq ?_
       refine ht_block ?_
       refine ht_seq ?_
       refine ht_seqR hn (El := [_, _, _, _, _, _, _, _, (46, .v (.int .i64 s150)), (9, .v (.int .i64 s150))]) (init := [0, 1, 2, 3, 4, 5, 6, 7]) (fin := [0, 1, 2, 3, 4, 5, 6, 9]) (sps := [⟨[6], [], [8], [(.slot 46)]⟩, ⟨[8], [], [9], [(.slot 9)]⟩]) (es' := [(_, _), (_, _), (_, _), (_, _), (_, _), (_, _), (_, _), (9, .v (.int .i64 s150))]) (by kernel_rfl) rfl rfl
        ⟨st_plain rfl (op_move _ _ _ _ rfl rfl),
        st_plain rfl (op_assign _ _ _ _ rfl rfl),
        trivial⟩ ?_
       refine pt_then ?_
       obtain ⟨v31, hv31, h⟩ := bind_some h
       obtain ⟨v32, hv32, h⟩ := bind_some h
       obtain ⟨v33, hv33, h⟩ := bind_some h
       obtain ⟨v34, hv34, h⟩ := bind_some h
       obtain ⟨v35, hv35, h⟩ := bind_some h
       obtain ⟨v36, hv36, h⟩ := bind_some h
       refine ht_seqR hn (El := (_ :: _ :: _ :: _ :: _ :: _ :: _ :: _ :: (47, .v (.int .u32 s137)) :: (48, .v (.int .i64 s150)) :: (49, .v (.int .i64 v31)) :: (50, .v (.int .i64 v32)) :: (51, .v (.int .u32 v33)) :: (52, .v (.int .u32 v34)) :: (53, .v (.int .u8 v35)) :: (54, .v (.nilIface)) :: (3, .hid (bldT 48 5 false (List.map (Value.int .u8) v36))) :: [])) (init := [0, 1, 2, 3, 4, 5, 6, 7]) (fin := [0, 16, 2, 3, 4, 5, 6]) (sps := [⟨[4], [], [8], [(.slot 47)]⟩, ⟨[7], [], [9], [(.slot 48)]⟩, ⟨[9], [], [10], [(.slot 49)]⟩, ⟨[10], [], [11], [(.slot 50)]⟩, ⟨[8, 11], [], [12], [(.slot 51)]⟩, ⟨[12], [], [13], [(.slot 52)]⟩, ⟨[13], [], [14], [(.slot 53)]⟩, ⟨[14], [1], [16, 15], [(.slot 54)]⟩]) (es' := [(_, _), (3, .hid (bldT 48 5 false (List.map (Value.int .u8) v36))), (_, _), (_, _), (_, _), (_, _), (_, _)]) (by kernel_rfl) rfl rfl
        ⟨st_plain rfl (op_move _ _ _ _ rfl rfl),
        st_plain rfl (op_move _ _ _ _ rfl rfl),
        st_plain rfl (op_bin _ _ _ _ _ rfl rfl (ibind (f := Value.int .i64) (Option.some.inj hv31))),
        st_plain rfl (op_bin _ _ _ _ _ rfl rfl (ibind (f := Value.int .i64) (Option.some.inj hv32))),
        st_plain rfl (op_bin _ _ _ _ _ rfl rfl (shr_ok hv33)),
        st_plain rfl (op_bin _ _ _ _ _ rfl rfl (ibind (f := Value.int .u32) (Option.some.inj hv34))),
        st_plain rfl (op_chr _ _ _ v34 _ Tryd.underlying9 rfl rfl hv35),
        st_plain rfl (op_callPS _ _ _ _ 54 26 [.tmp 3] [.tmp 53] _ _ _ rfl Tryd.call26 rfl rfl rfl (ok_strings_Builder_WriteByte s149 v35 _ hv36) (Nat.le_of_ble_eq_true rfl) rfl rfl rfl rfl rfl rfl rfl),
        trivial⟩ ?_
       refine pt_inb ?_
       refine pt_then ?_
       obtain ⟨v37, hv37, h⟩ := bind_some h
       refine ht_seqR hn (El := [_, _, _, _, _, _, _, (55, .v (.int .i64 v37)), (44, .v (.int .i64 v37))]) (init := [0, 1, 2, 3, 4, 5, 6]) (fin := [0, 1, 2, 3, 4, 5, 8]) (sps := [⟨[6], [], [7], [(.slot 55)]⟩, ⟨[7], [6], [8], [(.slot 44)]⟩]) (es' := [(_, _), (_, _), (_, _), (_, _), (_, _), (_, _), (44, .v (.int .i64 v37))]) (by kernel_rfl) rfl rfl
        ⟨st_plain rfl (op_bin _ _ _ _ _ rfl rfl (ibind (f := Value.int .i64) (Option.some.inj hv37))),
        st_plain rfl (LOp.drop [_] (op_move _ _ _ _ rfl rfl)),
        trivial⟩ ?_
       exact pt_next _ (Option.some.inj h).symm rfl
      ·have h := cond_f hb159 h
       refine ht_exit ?_
       refine pt_x_then ?_
       refine pt_x_then ?_
       refine pt_x_in ?_
       refine pt_pick [0, 1, 2, 3] (by kernel_rfl) (es' := [(_, _), (_, _), (_, _), (_, _)]) rfl ?_
       exact hl154 _ (ho156 _ (Option.some.inj h).symm).symm
    ·rintro u138 hl139 hr140 ⟨s134, s135⟩ rr143 h ho141
     refine ht_seq ?_
     refine ht_seqR hn (El := [_, _, _, _, _, _, _, _, (29, .v (.bool ((decide (s135 < (v5.length : Int))))))]) (init := [0, 1, 2, 3, 4, 5, 6, 7]) (fin := [0, 1, 2, 3, 4, 5, 6, 7, 8]) (sps := [⟨[7, 6], [], [8], [(.slot 29)]⟩]) (es' := [(_, _), (_, _), (_, _), (_, _), (_, _), (_, _), (_, _), (_, _), (29, .v (.bool ((decide (s135 < (v5.length : Int))))))]) (by kernel_rfl) rfl rfl
      ⟨st_plain rfl (op_bin _ _ _ _ _ rfl rfl rfl),
      trivial⟩ ?_
     refine pt_then ?_
     refine ht_seq ?_
     refine ht_cond _ rfl (fun hb144 => ?_) (fun hb144 => ?_)
     ·have h := cond_t hb144 h
      refine ht_skip ?_
      refine pt_then ?_
      refine ht_seq ?_
      refine ht_block ?_
      refine ht_seq ?_
      obtain ⟨v7, hv7, h⟩ := bind_some h
      obtain ⟨v8, hv8, h⟩ := bind_some h
      refine ht_seqR hn (El := [_, _, _, _, _, _, _, _, _, (30, .v (.int .i64 s135)), (31, .eref (.slot 26) (v7 * 1)), (32, .v (.int .u8 v8)), (7, .v (.int .i64 s135)), (8, .v (.int .u8 v8))]) (init := [0, 1, 2, 3, 4, 5, 6, 7, 8]) (fin := [0, 1, 2, 3, 4, 5, 6, 7, 12, 13]) (sps := [⟨[7], [], [9], [(.slot 30)]⟩, ⟨[5, 7], [], [10], [(.slot 31)]⟩, ⟨[10, 5], [], [11], [(.slot 32)]⟩, ⟨[9], [], [12], [(.slot 7)]⟩, ⟨[11], [], [13], [(.slot 8)]⟩]) (es' := [(_, _), (_, _), (_, _), (_, _), (_, _), (_, _), (_, _), (_, _), (7, .v (.int .i64 s135)), (8, .v (.int .u8 v8))]) (by kernel_rfl) rfl rfl
       ⟨st_plain rfl (op_move _ _ _ _ rfl rfl),
       st_plain rfl (op_ix _ _ _ _ _ _ _ _ Tryd.underlying22 sz5 (by decide) rfl rfl rfl (ix_ok hv7).1 (map_lt (ix_ok hv7).2) rfl),
       st_plain rfl (op_load_e _ _ _ _ _ _ Tryd.underlying5 rfl rfl rfl (map_get hv8)),
       st_plain rfl (op_assign _ _ _ _ rfl rfl),
       st_plain rfl (op_assign _ _ _ _ rfl rfl),
       trivial⟩ ?_
      refine pt_then ?_
      obtain ⟨v9, hv9, h⟩ := bind_some h
      obtain ⟨v10, hv10, h⟩ := bind_some h
      obtain ⟨v11, hv11, h⟩ := bind_some h
      obtain ⟨v12, hv12, h⟩ := bind_some h
      obtain ⟨v13, hv13, h⟩ := bind_some h
      refine ht_seqR hn (El := (_ :: _ :: _ :: _ :: _ :: _ :: _ :: _ :: _ :: _ :: (33, .v (.int .u32 s134)) :: (34, .v (.int .u8 v8)) :: (35, .v (.int .u32 v9)) :: (36, .v (.int .i64 s135)) :: (37, .v (.int .i64 v10)) :: (38, .v (.int .i64 v11)) :: (39, .v (.int .u32 v12)) :: (40, .v (.int .u32 v13)) :: (6, .v (.int .u32 v13)) :: [])) (init := [0, 1, 2, 3, 4, 5, 6, 7, 8, 9]) (fin := [0, 1, 2, 3, 5, 6, 7, 18]) (sps := [⟨[4], [], [10], [(.slot 33)]⟩, ⟨[9], [], [11], [(.slot 34)]⟩, ⟨[11], [], [12], [(.slot 35)]⟩, ⟨[8], [], [13], [(.slot 36)]⟩, ⟨[13], [], [14], [(.slot 37)]⟩, ⟨[14], [], [15], [(.slot 38)]⟩, ⟨[12, 15], [], [16], [(.slot 39)]⟩, ⟨[10, 16], [], [17], [(.slot 40)]⟩, ⟨[17], [4], [18], [(.slot 6)]⟩]) (es' := [(_, _), (_, _), (_, _), (_, _), (_, _), (_, _), (_, _), (6, .v (.int .u32 v13))]) (by kernel_rfl) rfl rfl
       ⟨st_plain rfl (op_move _ _ _ _ rfl rfl),
       st_plain rfl (op_move _ _ _ _ rfl rfl),
       st_plain rfl ((Option.some.inj hv9) ▸ op_conv _ _ _ Tryd.underlying5 Tryd.underlying49 rfl),
       st_plain rfl (op_move _ _ _ _ rfl rfl),
       st_plain rfl (op_bin _ _ _ _ _ rfl rfl (ibind (f := Value.int .i64) (Option.some.inj hv10))),
       st_plain rfl (op_bin _ _ _ _ _ rfl rfl (ibind (f := Value.int .i64) (Option.some.inj hv11))),
       st_plain rfl (op_bin _ _ _ _ _ rfl rfl (shl_ok hv12)),
       st_plain rfl (op_bin _ _ _ _ _ rfl rfl (ibind (f := Value.int .u32) (Option.some.inj hv13))),
       st_plain rfl (LOp.drop [_] (op_assign _ _ _ _ rfl rfl)),
       trivial⟩ ?_
      refine pt_inb ?_
      refine pt_then ?_
      obtain ⟨v14, hv14, h⟩ := bind_some h
      refine ht_seqR hn (El := [_, _, _, _, _, _, _, _, (41, .v (.int .i64 v14)), (28, .v (.int .i64 v14))]) (init := [0, 1, 2, 3, 4, 5, 6, 7]) (fin := [0, 1, 2, 3, 4, 5, 7, 9]) (sps := [⟨[6], [], [8], [(.slot 41)]⟩, ⟨[8], [6], [9], [(.slot 28)]⟩]) (es' := [(_, _), (_, _), (_, _), (_, _), (_, _), (_, _), (_, _), (28, .v (.int .i64 v14))]) (by kernel_rfl) rfl rfl
       ⟨st_plain rfl (op_bin _ _ _ _ _ rfl rfl (ibind (f := Value.int .i64) (Option.some.inj hv14))),
       st_plain rfl (LOp.drop [_] (op_move _ _ _ _ rfl rfl)),
       trivial⟩ ?_
      refine pt_pick [0, 1, 2, 3, 6, 4, 5, 7] (by kernel_rfl) (es' := [(_, _), (_, _), (_, _), (_, _), (_, _), (_, _), (_, _), (_, _)]) rfl ?_
      exact pt_next _ (Option.some.inj h).symm rfl
     ·have h := cond_f hb144 h
      refine ht_exit ?_
      refine pt_x_then ?_
      refine pt_x_then ?_
      refine pt_x_in ?_
      refine pt_pick [0, 1, 2, 3, 4] (by kernel_rfl) (es' := [(_, _), (_, _), (_, _), (_, _), (_, _)]) rfl ?_
      exact hl139 _ (ho141 _ (Option.some.inj h).symm).symm
   ·have h := cond_f hb129 h
    refine ht_exit ?_
    refine pt_x_then ?_
    refine pt_x_then ?_
    refine pt_x_in ?_
    refine pt_pick [1] (by kernel_rfl) (es' := [(_, _)]) rfl ?_
    exact hl124 _ (ho126 _ (Option.some.inj h).symm).symm

set_option maxHeartbeats 1000000 in
theorem ok_wherrylaw10_digit (c : Int) (r : Int) (h : Sh.wherrylaw10_digit c = some r) : FnOK Tryd.prog 21 [.v (.int .u8 c)] (.v (.int .i64 r)) := by
  unfold Sh.wherrylaw10_digit at h
  refine fn_ok Tryd.func21 rfl (Nat.le_of_ble_eq_true rfl) rfl rfl fun g0 hn hio => ?_
  refine ht_seq ?_
  refine ht_seqR hn (El := [_, (2, .v (.int .i64 0))]) (init := [0]) (fin := [0]) (sps := [⟨[], [], [1], [(.slot 2)]⟩]) (es' := [(_, _)]) (by kernel_rfl) rfl rfl
   ⟨st_plain rfl (op_assign _ _ _ _ rfl rfl),
   trivial⟩ ?_
  refine pt_then ?_
  refine ht_seq ?_
  refine ht_block ?_
  refine ht_seq ?_
  refine ht_joinS h (fun (s1 : Bool) => [(0, .v (.int .u8 c)), (3, .v (.bool s1))]) ?_ ?_
  ·rintro s1 h
   refine pt_then ?_
   refine ht_cond _ rfl (fun hb5 => ?_) (fun hb5 => ?_)
   ·have h := cond_t hb5 h
    refine ht_seq ?_
    obtain ⟨v6, hv6, h⟩ := bind_some h
    obtain ⟨v7, hv7, h⟩ := bind_some h
    refine ht_seqR hn (El := [_, _, (10, .v (.int .u8 c)), (11, .v (.int .u8 v6)), (12, .v (.int .i64 v7)), (2, .v (.int .i64 v7))]) (init := [0, 1]) (fin := [5]) (sps := [⟨[0], [], [2], [(.slot 10)]⟩, ⟨[2], [], [3], [(.slot 11)]⟩, ⟨[3], [], [4], [(.slot 12)]⟩, ⟨[4], [], [5], [(.slot 2)]⟩]) (es' := [(2, .v (.int .i64 v7))]) (by kernel_rfl) rfl rfl
     ⟨st_plain rfl (op_move _ _ _ _ rfl rfl),
     st_plain rfl (op_bin _ _ _ _ _ rfl rfl (ibind (f := Value.int .u8) (Option.some.inj hv6))),
     st_plain rfl ((Option.some.inj hv7) ▸ op_conv _ _ _ Tryd.underlying5 Tryd.underlying3 rfl),
     st_plain rfl (op_assign _ _ _ _ rfl rfl),
     trivial⟩ ?_
    refine pt_then ?_
    refine ht_ret ?_
    refine pt_r_in ?_
    refine pt_r_then ?_
    obtain rfl := Option.some.inj h
    exact pt_ret hio rfl (.tmp _ _ .nil) rfl rfl
   ·have h := cond_f hb5 h
    refine ht_seq ?_
    refine ht_joinS h (fun (s8 : Bool) => [(0, .v (.int .u8 c)), (13, .v (.bool s8))]) ?_ ?_
    ·rintro s8 h
     refine pt_then ?_
     refine ht_cond _ rfl (fun hb12 => ?_) (fun hb12 => ?_)
     ·have h := cond_t hb12 h
      refine ht_seq ?_
      obtain ⟨v13, hv13, h⟩ := bind_some h
      obtain ⟨v14, hv14, h⟩ := bind_some h
      obtain ⟨v15, hv15, h⟩ := bind_some h
      refine ht_seqR hn (El := [_, _, (20, .v (.int .u8 c)), (21, .v (.int .u8 v13)), (22, .v (.int .i64 v14)), (23, .v (.int .i64 v15)), (2, .v (.int .i64 v15))]) (init := [0, 1]) (fin := [6]) (sps := [⟨[0], [], [2], [(.slot 20)]⟩, ⟨[2], [], [3], [(.slot 21)]⟩, ⟨[3], [], [4], [(.slot 22)]⟩, ⟨[4], [], [5], [(.slot 23)]⟩, ⟨[5], [], [6], [(.slot 2)]⟩]) (es' := [(2, .v (.int .i64 v15))]) (by kernel_rfl) rfl rfl
       ⟨st_plain rfl (op_move _ _ _ _ rfl rfl),
       st_plain rfl (op_bin _ _ _ _ _ rfl rfl (ibind (f := Value.int .u8) (Option.some.inj hv13))),
       st_plain rfl ((Option.some.inj hv14) ▸ op_conv _ _ _ Tryd.underlying5 Tryd.underlying3 rfl),
       st_plain rfl (op_bin _ _ _ _ _ rfl rfl (ibind (f := Value.int .i64) (Option.some.inj hv15))),
       st_plain rfl (op_assign _ _ _ _ rfl rfl),
       trivial⟩ ?_
      refine pt_then ?_
      refine ht_ret ?_
      refine pt_r_in ?_
      refine pt_r_then ?_
      obtain rfl := Option.some.inj h
      exact pt_ret hio rfl (.tmp _ _ .nil) rfl rfl
     ·have h := cond_f hb12 h
      refine ht_skip ?_
      refine pt_inb ?_
      refine pt_then ?_
      refine ht_seq ?_
      refine ht_seqR hn (El := [_, _, (2, .v (.int .i64 (-100)))]) (init := [0, 1]) (fin := [2]) (sps := [⟨[], [], [2], [(.slot 2)]⟩]) (es' := [(2, .v (.int .i64 (-100)))]) (by kernel_rfl) rfl rfl
       ⟨st_plain rfl (op_assign _ _ _ _ rfl rfl),
       trivial⟩ ?_
      refine pt_then ?_
      refine ht_ret ?_
      obtain rfl := Option.some.inj h
      exact pt_ret hio rfl (.tmp _ _ .nil) rfl rfl
    ·intro u9 h hl10 hr11
     refine cond_some h (fun hg3_2 h => ?_) (fun hg3_2 h => ?_)
     ·refine ht_seqR hn (El := [_, _, (14, .v (.int .u8 c)), (15, .v (.bool ((decide (97 ≤ c))))), (16, .v (.bool true)), (17, .v (.int .u8 c)), (18, .v (.bool ((decide (c ≤ 102))))), (19, .v (.bool ((decide (c ≤ 102))))), (13, .v (.bool ((decide (c ≤ 102)))))]) (init := [0, 1]) (fin := [0, 8]) (sps := [⟨[0], [], [2], [(.slot 14)]⟩, ⟨[2], [], [3], [(.slot 15)]⟩, ⟨[3], [], [4], [(.slot 16)]⟩, ⟨[4, 0], [], [5], [(.slot 17)]⟩, ⟨[4, 5], [], [6], [(.slot 18)]⟩, ⟨[4, 6], [], [7], [(.slot 19)]⟩, ⟨[7], [], [8], [(.slot 13)]⟩]) (es' := [(_, _), (13, .v (.bool ((decide (c ≤ 102)))))]) (by kernel_rfl) rfl rfl
       ⟨st_plain rfl (op_move _ _ _ _ rfl rfl),
       st_plain rfl (op_bin _ _ _ _ _ rfl rfl rfl),
       st_plain rfl (op_move _ _ _ _ (congrArg (fun b => AV.v (Value.bool b)) hg3_2) rfl),
       st_run 2 16 true rfl rfl rfl (List.Mem.head _) (op_move _ _ _ _ rfl rfl),
       st_run 2 16 true rfl rfl rfl (List.Mem.head _) (op_bin _ _ _ _ _ rfl rfl rfl),
       st_plain rfl (op_pick _ _ true _ rfl rfl),
       st_plain rfl (op_assign _ _ _ _ rfl rfl),
       trivial⟩ ?_
      exact hl10 _ (Option.some.inj h).symm
     ·refine ht_seqR hn (El := [_, _, (14, .v (.int .u8 c)), (15, .v (.bool ((decide (97 ≤ c))))), (16, .v (.bool false)), (17, .v undef), (18, .v undef), (19, .v (.bool false)), (13, .v (.bool false))]) (init := [0, 1]) (fin := [0, 8]) (sps := [⟨[0], [], [2], [(.slot 14)]⟩, ⟨[2], [], [3], [(.slot 15)]⟩, ⟨[3], [], [4], [(.slot 16)]⟩, ⟨[4], [], [5], [(.slot 17)]⟩, ⟨[4], [], [6], [(.slot 18)]⟩, ⟨[4], [], [7], [(.slot 19)]⟩, ⟨[7], [], [8], [(.slot 13)]⟩]) (es' := [(_, _), (13, .v (.bool false))]) (by kernel_rfl) rfl rfl
       ⟨st_plain rfl (op_move _ _ _ _ rfl rfl),
       st_plain rfl (op_bin _ _ _ _ _ rfl rfl rfl),
       st_plain rfl (op_move _ _ _ _ (congrArg (fun b => AV.v (Value.bool b)) hg3_2) rfl),
       st_skip 2 16 _ true rfl rfl rfl rfl (List.Mem.head _),
       st_skip 2 16 _ true rfl rfl rfl rfl (List.Mem.head _),
       st_plain rfl (op_pick _ _ false _ rfl rfl),
       st_plain rfl (op_assign _ _ _ _ rfl rfl),
       trivial⟩ ?_
      exact hl10 _ (Option.some.inj h).symm
  ·intro u2 h hl3 hr4
   refine cond_some h (fun hg1_2 h => ?_) (fun hg1_2 h => ?_)
   ·refine ht_seqR hn (El := [_, (4, .v (.int .u8 c)), (5, .v (.bool ((decide (48 ≤ c))))), (6, .v (.bool true)), (7, .v (.int .u8 c)), (8, .v (.bool ((decide (c ≤ 57))))), (9, .v (.bool ((decide (c ≤ 57))))), (3, .v (.bool ((decide (c ≤ 57)))))]) (init := [0]) (fin := [0, 7]) (sps := [⟨[0], [], [1], [(.slot 4)]⟩, ⟨[1], [], [2], [(.slot 5)]⟩, ⟨[2], [], [3], [(.slot 6)]⟩, ⟨[3, 0], [], [4], [(.slot 7)]⟩, ⟨[3, 4], [], [5], [(.slot 8)]⟩, ⟨[3, 5], [], [6], [(.slot 9)]⟩, ⟨[6], [], [7], [(.slot 3)]⟩]) (es' := [(_, _), (3, .v (.bool ((decide (c ≤ 57)))))]) (by kernel_rfl) rfl rfl
     ⟨st_plain rfl (op_move _ _ _ _ rfl rfl),
     st_plain rfl (op_bin _ _ _ _ _ rfl rfl rfl),
     st_plain rfl (op_move _ _ _ _ (congrArg (fun b => AV.v (Value.bool b)) hg1_2) rfl),
     st_run 2 6 true rfl rfl rfl (List.Mem.head _) (op_move _ _ _ _ rfl rfl),
     st_run 2 6 true rfl rfl rfl (List.Mem.head _) (op_bin _ _ _ _ _ rfl rfl rfl),
     st_plain rfl (op_pick _ _ true _ rfl rfl),
     st_plain rfl (op_assign _ _ _ _ rfl rfl),
     trivial⟩ ?_
    exact hl3 _ (Option.some.inj h).symm
   ·refine ht_seqR hn (El := [_, (4, .v (.int .u8 c)), (5, .v (.bool ((decide (48 ≤ c))))), (6, .v (.bool false)), (7, .v undef), (8, .v undef), (9, .v (.bool false)), (3, .v (.bool false))]) (init := [0]) (fin := [0, 7]) (sps := [⟨[0], [], [1], [(.slot 4)]⟩, ⟨[1], [], [2], [(.slot 5)]⟩, ⟨[2], [], [3], [(.slot 6)]⟩, ⟨[3], [], [4], [(.slot 7)]⟩, ⟨[3], [], [5], [(.slot 8)]⟩, ⟨[3], [], [6], [(.slot 9)]⟩, ⟨[6], [], [7], [(.slot 3)]⟩]) (es' := [(_, _), (3, .v (.bool false))]) (by kernel_rfl) rfl rfl
     ⟨st_plain rfl (op_move _ _ _ _ rfl rfl),
     st_plain rfl (op_bin _ _ _ _ _ rfl rfl rfl),
     st_plain rfl (op_move _ _ _ _ (congrArg (fun b => AV.v (Value.bool b)) hg1_2) rfl),
     st_skip 2 6 _ true rfl rfl rfl rfl (List.Mem.head _),
     st_skip 2 6 _ true rfl rfl rfl rfl (List.Mem.head _),
     st_plain rfl (op_pick _ _ false _ rfl rfl),
     st_plain rfl (op_assign _ _ _ _ rfl rfl),
     trivial⟩ ?_
    exact hl3 _ (Option.some.inj h).symm

set_option maxHeartbeats 1000000 in
theorem ok_digest_step (i : Int) (q : Int) (p_r : Int) (t : Int) (r : (Int × Int)) (h : Sh.digest_step i q p_r t = some r) : FnOK Tryd.prog 57 [.v (.int .i64 i), .v (.int .u32 q), .v (.int .u32 p_r), .v (.int .u32 t)] (.tup [.v (.int .u32 r.1), .v (.int .i64 r.2)]) := by
  unfold Sh.digest_step at h
  refine fn_ok Tryd.func57 rfl (Nat.le_of_ble_eq_true rfl) rfl rfl fun g0 hn hio => ?_
  refine ht_seq ?_
  refine ht_seqR hn (El := [_, _, _, _, (8, .v (.int .u32 0)), (9, .v (.int .i64 0))]) (init := [0, 1, 2, 3]) (fin := [0, 1, 2, 3]) (sps := [⟨[], [], [4], [(.slot 8)]⟩, ⟨[], [], [5], [(.slot 9)]⟩]) (es' := [(_, _), (_, _), (_, _), (_, _)]) (by kernel_rfl) rfl rfl
   ⟨st_plain rfl (op_assign _ _ _ _ rfl rfl),
   st_plain rfl (op_assign _ _ _ _ rfl rfl),
   trivial⟩ ?_
  refine pt_then ?_
  refine ht_seq ?_
  refine ht_seq ?_
  obtain ⟨v1, hv1, h⟩ := bind_some h
  refine ht_seqR hn (El := [_, _, _, _, (10, .v (.int .i64 i)), (11, .v (.int .i64 v1))]) (init := [0, 1, 2, 3]) (fin := [0, 1, 2, 3, 5]) (sps := [⟨[0], [], [4], [(.slot 10)]⟩, ⟨[4], [], [5], [(.slot 11)]⟩]) (es' := [(_, _), (_, _), (_, _), (_, _), (11, .v (.int .i64 v1))]) (by kernel_rfl) rfl rfl
   ⟨st_plain rfl (op_move _ _ _ _ rfl rfl),
   st_plain rfl (op_bin _ _ _ _ _ rfl rfl (quo_ok hv1)),
   trivial⟩ ?_
  refine pt_then ?_
  refine ht_block ?_
  refine ht_seq ?_
  refine ht_seqR hn (El := [_, _, _, _, _, (13, .v (.bool (v1 == 0))), (12, .v (.bool (v1 == 0)))]) (init := [0, 1, 2, 3, 4]) (fin := [0, 1, 2, 3, 4, 6]) (sps := [⟨[4], [], [5], [(.slot 13)]⟩, ⟨[5], [], [6], [(.slot 12)]⟩]) (es' := [(_, _), (_, _), (_, _), (_, _), (_, _), (12, .v (.bool (v1 == 0)))]) (by kernel_rfl) rfl rfl
   ⟨st_plain rfl (op_bin _ _ _ _ _ rfl rfl rfl),
   st_plain rfl (op_assign _ _ _ _ rfl rfl),
   trivial⟩ ?_
  refine pt_then ?_
  refine ht_cond _ rfl (fun hb2 => ?_) (fun hb2 => ?_)
  ·have h := cond_t hb2 h
   refine ht_seq ?_
   obtain ⟨v3, hv3, h⟩ := bind_some h
   obtain ⟨v4, hv4, h⟩ := bind_some h
   obtain ⟨v5, hv5, h⟩ := bind_some h
   obtain ⟨v6, hv6, h⟩ := bind_some h
   refine ht_seqR hn (El := (_ :: _ :: _ :: _ :: _ :: _ :: (14, .v (.int .u32 q)) :: (15, .v (.int .u32 p_r)) :: (16, .v (.int .u32 v3)) :: (17, .v (.int .u32 q)) :: (18, .v (.int .u32 v4)) :: (19, .v (.int .u32 t)) :: (20, .v (.int .u32 v5)) :: (21, .v (.int .u32 v6)) :: (22, .v (.int .i64 i)) :: (8, .v (.int .u32 v6)) :: (9, .v (.int .i64 i)) :: [])) (init := [0, 1, 2, 3, 4, 5]) (fin := [15, 16]) (sps := [⟨[1], [], [6], [(.slot 14)]⟩, ⟨[2], [], [7], [(.slot 15)]⟩, ⟨[6, 7], [], [8], [(.slot 16)]⟩, ⟨[1], [], [9], [(.slot 17)]⟩, ⟨[9], [], [10], [(.slot 18)]⟩, ⟨[3], [], [11], [(.slot 19)]⟩, ⟨[10, 11], [], [12], [(.slot 20)]⟩, ⟨[8, 12], [], [13], [(.slot 21)]⟩, ⟨[0], [], [14], [(.slot 22)]⟩, ⟨[13], [], [15], [(.slot 8)]⟩, ⟨[14], [], [16], [(.slot 9)]⟩]) (es' := [(8, .v (.int .u32 v6)), (9, .v (.int .i64 i))]) (by kernel_rfl) rfl rfl
    ⟨st_plain rfl (op_move _ _ _ _ rfl rfl),
    st_plain rfl (op_move _ _ _ _ rfl rfl),
    st_plain rfl (op_bin _ _ _ _ _ rfl rfl (ibind (f := Value.int .u32) (Option.some.inj hv3))),
    st_plain rfl (op_move _ _ _ _ rfl rfl),
    st_plain rfl (op_un _ _ _ _ rfl (ibind (f := Value.int .u32) (Option.some.inj hv4))),
    st_plain rfl (op_move _ _ _ _ rfl rfl),
    st_plain rfl (op_bin _ _ _ _ _ rfl rfl (ibind (f := Value.int .u32) (Option.some.inj hv5))),
    st_plain rfl (op_bin _ _ _ _ _ rfl rfl (ibind (f := Value.int .u32) (Option.some.inj hv6))),
    st_plain rfl (op_move _ _ _ _ rfl rfl),
    st_plain rfl (op_assign _ _ _ _ rfl rfl),
    st_plain rfl (op_assign _ _ _ _ rfl rfl),
    trivial⟩ ?_
   refine pt_then ?_
   refine ht_ret ?_
   refine pt_r_in ?_
   refine pt_r_then ?_
   obtain rfl := Option.some.inj h
   exact pt_ret hio rfl (.tmp _ _ (.tmp _ _ .nil)) rfl rfl
  ·have h := cond_f hb2 h
   refine ht_seq ?_
   refine ht_seqR hn (El := [_, _, _, _, _, _, (24, .v (.bool (v1 == 1))), (23, .v (.bool (v1 == 1)))]) (init := [0, 1, 2, 3, 4, 5]) (fin := [0, 1, 2, 3, 4, 7]) (sps := [⟨[4], [], [6], [(.slot 24)]⟩, ⟨[6], [], [7], [(.slot 23)]⟩]) (es' := [(_, _), (_, _), (_, _), (_, _), (_, _), (23, .v (.bool (v1 == 1)))]) (by kernel_rfl) rfl rfl
    ⟨st_plain rfl (op_bin _ _ _ _ _ rfl rfl rfl),
    st_plain rfl (op_assign _ _ _ _ rfl rfl),
    trivial⟩ ?_
   refine pt_then ?_
   refine ht_cond _ rfl (fun hb7 => ?_) (fun hb7 => ?_)
   ·have h := cond_t hb7 h
    refine ht_seq ?_
    obtain ⟨v8, hv8, h⟩ := bind_some h
    obtain ⟨v9, hv9, h⟩ := bind_some h
    obtain ⟨v10, hv10, h⟩ := bind_some h
    obtain ⟨v11, hv11, h⟩ := bind_some h
    obtain ⟨v12, hv12, h⟩ := bind_some h
    obtain ⟨v13, hv13, h⟩ := bind_some h
    refine ht_seqR hn (El := (_ :: _ :: _ :: _ :: _ :: _ :: (25, .v (.int .u32 q)) :: (26, .v (.int .u32 t)) :: (27, .v (.int .u32 v8)) :: (28, .v (.int .u32 p_r)) :: (29, .v (.int .u32 t)) :: (30, .v (.int .u32 v9)) :: (31, .v (.int .u32 v10)) :: (32, .v (.int .i64 i)) :: (33, .v (.int .i64 v11)) :: (34, .v (.int .i64 v12)) :: (35, .v (.int .i64 v13)) :: (8, .v (.int .u32 v10)) :: (9, .v (.int .i64 v13)) :: [])) (init := [0, 1, 2, 3, 4, 5]) (fin := [17, 18]) (sps := [⟨[1], [], [6], [(.slot 25)]⟩, ⟨[3], [], [7], [(.slot 26)]⟩, ⟨[6, 7], [], [8], [(.slot 27)]⟩, ⟨[2], [], [9], [(.slot 28)]⟩, ⟨[3], [], [10], [(.slot 29)]⟩, ⟨[9, 10], [], [11], [(.slot 30)]⟩, ⟨[8, 11], [], [12], [(.slot 31)]⟩, ⟨[0], [], [13], [(.slot 32)]⟩, ⟨[13], [], [14], [(.slot 33)]⟩, ⟨[14], [], [15], [(.slot 34)]⟩, ⟨[15], [], [16], [(.slot 35)]⟩, ⟨[12], [], [17], [(.slot 8)]⟩, ⟨[16], [], [18], [(.slot 9)]⟩]) (es' := [(8, .v (.int .u32 v10)), (9, .v (.int .i64 v13))]) (by kernel_rfl) rfl rfl
     ⟨st_plain rfl (op_move _ _ _ _ rfl rfl),
     st_plain rfl (op_move _ _ _ _ rfl rfl),
     st_plain rfl (op_bin _ _ _ _ _ rfl rfl (ibind (f := Value.int .u32) (Option.some.inj hv8))),
     st_plain rfl (op_move _ _ _ _ rfl rfl),
     st_plain rfl (op_move _ _ _ _ rfl rfl),
     st_plain rfl (op_bin _ _ _ _ _ rfl rfl (ibind (f := Value.int .u32) (Option.some.inj hv9))),
     st_plain rfl (op_bin _ _ _ _ _ rfl rfl (ibind (f := Value.int .u32) (Option.some.inj hv10))),
     st_plain rfl (op_move _ _ _ _ rfl rfl),
     st_plain rfl (op_bin _ _ _ _ _ rfl rfl (ibind (f := Value.int .i64) (Option.some.inj hv11))),
     st_plain rfl (op_bin _ _ _ _ _ rfl rfl (ibind (f := Value.int .i64) (Option.some.inj hv12))),
     st_plain rfl (op_bin _ _ _ _ _ rfl rfl (rem_ok hv13)),
     st_plain rfl (op_assign _ _ _ _ rfl rfl),
     st_plain rfl (op_assign _ _ _ _ rfl rfl),
     trivial⟩ ?_
    refine pt_then ?_
    refine ht_ret ?_
    refine pt_r_in ?_
    refine pt_r_then ?_
    obtain rfl := Option.some.inj h
    exact pt_ret hio rfl (.tmp _ _ (.tmp _ _ .nil)) rfl rfl
   ·have h := cond_f hb7 h
    refine ht_seq ?_
    refine ht_seqR hn (El := [_, _, _, _, _, _, (37, .v (.bool (v1 == 2))), (36, .v (.bool (v1 == 2)))]) (init := [0, 1, 2, 3, 4, 5]) (fin := [0, 1, 2, 3, 7]) (sps := [⟨[4], [], [6], [(.slot 37)]⟩, ⟨[6], [], [7], [(.slot 36)]⟩]) (es' := [(_, _), (_, _), (_, _), (_, _), (36, .v (.bool (v1 == 2)))]) (by kernel_rfl) rfl rfl
     ⟨st_plain rfl (op_bin _ _ _ _ _ rfl rfl rfl),
     st_plain rfl (op_assign _ _ _ _ rfl rfl),
     trivial⟩ ?_
    refine pt_then ?_
    refine ht_cond _ rfl (fun hb14 => ?_) (fun hb14 => ?_)
    ·have h := cond_t hb14 h
     refine ht_seq ?_
     obtain ⟨v15, hv15, h⟩ := bind_some h
     obtain ⟨v16, hv16, h⟩ := bind_some h
     obtain ⟨v17, hv17, h⟩ := bind_some h
     obtain ⟨v18, hv18, h⟩ := bind_some h
     obtain ⟨v19, hv19, h⟩ := bind_some h
     refine ht_seqR hn (El := (_ :: _ :: _ :: _ :: _ :: (38, .v (.int .u32 q)) :: (39, .v (.int .u32 p_r)) :: (40, .v (.int .u32 v15)) :: (41, .v (.int .u32 t)) :: (42, .v (.int .u32 v16)) :: (43, .v (.int .i64 i)) :: (44, .v (.int .i64 v17)) :: (45, .v (.int .i64 v18)) :: (46, .v (.int .i64 v19)) :: (8, .v (.int .u32 v16)) :: (9, .v (.int .i64 v19)) :: [])) (init := [0, 1, 2, 3, 4]) (fin := [14, 15]) (sps := [⟨[1], [], [5], [(.slot 38)]⟩, ⟨[2], [], [6], [(.slot 39)]⟩, ⟨[5, 6], [], [7], [(.slot 40)]⟩, ⟨[3], [], [8], [(.slot 41)]⟩, ⟨[7, 8], [], [9], [(.slot 42)]⟩, ⟨[0], [], [10], [(.slot 43)]⟩, ⟨[10], [], [11], [(.slot 44)]⟩, ⟨[11], [], [12], [(.slot 45)]⟩, ⟨[12], [], [13], [(.slot 46)]⟩, ⟨[9], [], [14], [(.slot 8)]⟩, ⟨[13], [], [15], [(.slot 9)]⟩]) (es' := [(8, .v (.int .u32 v16)), (9, .v (.int .i64 v19))]) (by kernel_rfl) rfl rfl
      ⟨st_plain rfl (op_move _ _ _ _ rfl rfl),
      st_plain rfl (op_move _ _ _ _ rfl rfl),
      st_plain rfl (op_bin _ _ _ _ _ rfl rfl (ibind (f := Value.int .u32) (Option.some.inj hv15))),
      st_plain rfl (op_move _ _ _ _ rfl rfl),
      st_plain rfl (op_bin _ _ _ _ _ rfl rfl (ibind (f := Value.int .u32) (Option.some.inj hv16))),
      st_plain rfl (op_move _ _ _ _ rfl rfl),
      st_plain rfl (op_bin _ _ _ _ _ rfl rfl (ibind (f := Value.int .i64) (Option.some.inj hv17))),
      st_plain rfl (op_bin _ _ _ _ _ rfl rfl (ibind (f := Value.int .i64) (Option.some.inj hv18))),
      st_plain rfl (op_bin _ _ _ _ _ rfl rfl (rem_ok hv19)),
      st_plain rfl (op_assign _ _ _ _ rfl rfl),
      st_plain rfl (op_assign _ _ _ _ rfl rfl),
      trivial⟩ ?_
     refine pt_then ?_
     refine ht_ret ?_
     refine pt_r_in ?_
     refine pt_r_then ?_
     obtain rfl := Option.some.inj h
     exact pt_ret hio rfl (.tmp _ _ (.tmp _ _ .nil)) rfl rfl
    ·have h := cond_f hb14 h
     refine ht_skip ?_
     refine pt_inb ?_
     refine pt_then ?_
     refine ht_seq ?_
     obtain ⟨v20, hv20, h⟩ := bind_some h
     obtain ⟨v21, hv21, h⟩ := bind_some h
     obtain ⟨v22, hv22, h⟩ := bind_some h
     obtain ⟨v23, hv23, h⟩ := bind_some h
     obtain ⟨v24, hv24, h⟩ := bind_some h
     refine ht_seqR hn (El := (_ :: _ :: _ :: _ :: _ :: (47, .v (.int .u32 p_r)) :: (48, .v (.int .u32 q)) :: (49, .v (.int .u32 t)) :: (50, .v (.int .u32 v20)) :: (51, .v (.int .u32 v21)) :: (52, .v (.int .u32 v22)) :: (53, .v (.int .i64 i)) :: (54, .v (.int .i64 v23)) :: (55, .v (.int .i64 v24)) :: (8, .v (.int .u32 v22)) :: (9, .v (.int .i64 v24)) :: [])) (init := [0, 1, 2, 3, 4]) (fin := [14, 15]) (sps := [⟨[2], [], [5], [(.slot 47)]⟩, ⟨[1], [], [6], [(.slot 48)]⟩, ⟨[3], [], [7], [(.slot 49)]⟩, ⟨[7], [], [8], [(.slot 50)]⟩, ⟨[6, 8], [], [9], [(.slot 51)]⟩, ⟨[5, 9], [], [10], [(.slot 52)]⟩, ⟨[0], [], [11], [(.slot 53)]⟩, ⟨[11], [], [12], [(.slot 54)]⟩, ⟨[12], [], [13], [(.slot 55)]⟩, ⟨[10], [], [14], [(.slot 8)]⟩, ⟨[13], [], [15], [(.slot 9)]⟩]) (es' := [(8, .v (.int .u32 v22)), (9, .v (.int .i64 v24))]) (by kernel_rfl) rfl rfl
      ⟨st_plain rfl (op_move _ _ _ _ rfl rfl),
      st_plain rfl (op_move _ _ _ _ rfl rfl),
      st_plain rfl (op_move _ _ _ _ rfl rfl),
      st_plain rfl (op_un _ _ _ _ rfl (ibind (f := Value.int .u32) (Option.some.inj hv20))),
      st_plain rfl (op_bin _ _ _ _ _ rfl rfl (ibind (f := Value.int .u32) (Option.some.inj hv21))),
      st_plain rfl (op_bin _ _ _ _ _ rfl rfl (ibind (f := Value.int .u32) (Option.some.inj hv22))),
      st_plain rfl (op_move _ _ _ _ rfl rfl),
      st_plain rfl (op_bin _ _ _ _ _ rfl rfl (ibind (f := Value.int .i64) (Option.some.inj hv23))),
      st_plain rfl (op_bin _ _ _ _ _ rfl rfl (rem_ok hv24)),
      st_plain rfl (op_assign _ _ _ _ rfl rfl),
      st_plain rfl (op_assign _ _ _ _ rfl rfl),
      trivial⟩ ?_
     refine pt_then ?_
     refine ht_ret ?_
     obtain rfl := Option.some.inj h
     exact pt_ret hio rfl (.tmp _ _ (.tmp _ _ .nil)) rfl rfl

set_option maxHeartbeats 1000000 in
theorem ok_digest_state_block (mx : Int) (s : (List Int)) (b : (List Int)) (r : (List Int)) (h : Sh.digest_state_block s b = some r) : FnG Tryd.prog (GL mx) 43 [.v (.agg (List.map (Value.int .u32) s).toArray), .fl .shr 1 (List.map (Value.int .u8) b)] (.v (.agg (List.map (Value.int .u32) r).toArray)) := by
  unfold Sh.digest_state_block at h
  refine fn_okG Tryd.func43 rfl (Nat.le_of_ble_eq_true rfl) rfl rfl fun g0 hn hio => ?_
  refine ht_seq ?_
  refine ht_seqR hn (El := [_, _, _, (2, .arr 74 (List.map (Value.int .u32) s)), (4, .arr 74 (List.map (Value.int .u32) ((List.replicate 4 (0 : Int)))))]) (init := [0, 1, 2]) (fin := [1, 2, 3, 4]) (sps := [⟨[0], [], [3], [(.slot 2)]⟩, ⟨[], [], [4], [(.slot 4)]⟩]) (es' := [(_, _), (_, _), (2, .arr 74 (List.map (Value.int .u32) s)), (4, .arr 74 (List.map (Value.int .u32) ((List.replicate 4 (0 : Int)))))]) (by kernel_rfl) rfl rfl
   ⟨st_plain rfl (op_box_arr _ _ _ rfl),
   st_plain rfl (op_alloc_arr _ za74),
   trivial⟩ ?_
  refine pt_then ?_
  refine ht_seq ?_
  refine ht_seqR hn (El := [_, _, _, _, (5, .arr 92 (List.map (Value.int .u32) ((List.replicate 16 (0 : Int)))))]) (init := [0, 1, 2, 3]) (fin := [0, 1, 2, 3, 4]) (sps := [⟨[], [], [4], [(.slot 5)]⟩]) (es' := [(_, _), (_, _), (_, _), (_, _), (5, .arr 92 (List.map (Value.int .u32) ((List.replicate 16 (0 : Int)))))]) (by kernel_rfl) rfl rfl
   ⟨st_plain rfl (op_alloc_arr _ za92),
   trivial⟩ ?_
  refine pt_then ?_
  refine ht_seq ?_
  refine ht_seq ?_
  refine ht_seqR hn (El := [_, _, _, _, _, (17, .fl .shr 1 (List.map (Value.int .u8) b)), (18, .v (.int .i64 (b.length : Int))), (19, .v (.int .i64 0))]) (init := [0, 1, 2, 3, 4]) (fin := [1, 2, 3, 4, 5, 6, 7]) (sps := [⟨[0], [], [5], [(.slot 17)]⟩, ⟨[5], [], [6], [(.slot 18)]⟩, ⟨[], [], [7], [(.slot 19)]⟩]) (es' := [(_, _), (_, _), (_, _), (_, _), (17, .fl .shr 1 (List.map (Value.int .u8) b)), (18, .v (.int .i64 (b.length : Int))), (19, .v (.int .i64 0))]) (by kernel_rfl) rfl rfl
   ⟨st_plain rfl (op_move _ _ _ _ rfl rfl),
   st_plain rfl (op_len_fl _ _ _ Tryd.underlying22 rfl (by decide) (map_len _)),
   st_plain rfl (op_move _ _ _ _ rfl rfl),
   trivial⟩ ?_
  refine pt_then ?_
  refine ht_loopS h (fun ((s18, s19) : (List Int) × Int) => [(105, .glob (GL mx)), (2, .arr 74 (List.map (Value.int .u32) s)), (4, .arr 74 (List.map (Value.int .u32) ((List.replicate 4 (0 : Int))))), (5, .arr 92 (List.map (Value.int .u32) s18)), (17, .fl .shr 1 (List.map (Value.int .u8) b)), (18, .v (.int .i64 (b.length : Int))), (19, .v (.int .i64 s19))]) (fun (s21 : (List Int)) => [(105, .glob (GL mx)), (2, .arr 74 (List.map (Value.int .u32) s)), (4, .arr 74 (List.map (Value.int .u32) ((List.replicate 4 (0 : Int))))), (5, .arr 92 (List.map (Value.int .u32) s21))]) ?_ ?_
  ·rintro s21 h
   refine pt_then ?_
   refine ht_seq ?_
   obtain ⟨v29, hv29, h⟩ := bind_some h
   obtain ⟨v30, hv30, h⟩ := bind_some h
   obtain ⟨v31, hv31, h⟩ := bind_some h
   obtain ⟨v32, hv32, h⟩ := bind_some h
   obtain ⟨v33, hv33, h⟩ := bind_some h
   obtain ⟨v34, hv34, h⟩ := bind_some h
   obtain ⟨v35, hv35, h⟩ := bind_some h
   obtain ⟨v36, hv36, h⟩ := bind_some h
   refine ht_anyR (by kernel_rfl) hn (El := (_ :: _ :: _ :: _ :: (37, .ptr 2 v29) :: (38, .v (.int .u32 v30)) :: (39, .ptr 2 v31) :: (40, .v (.int .u32 v32)) :: (41, .ptr 2 v33) :: (42, .v (.int .u32 v34)) :: (43, .ptr 2 v35) :: (44, .v (.int .u32 v36)) :: (8, .v (.int .u32 v30)) :: (9, .v (.int .u32 v32)) :: (10, .v (.int .u32 v34)) :: (11, .v (.int .u32 v36)) :: [])) (init := [0, 1, 2, 3]) (fin := [0, 1, 2, 3, 12, 13, 14, 15]) (sps := [⟨[1], [], [4], [(.slot 37)]⟩, ⟨[4, 1], [], [5], [(.slot 38)]⟩, ⟨[1], [], [6], [(.slot 39)]⟩, ⟨[6, 1], [], [7], [(.slot 40)]⟩, ⟨[1], [], [8], [(.slot 41)]⟩, ⟨[8, 1], [], [9], [(.slot 42)]⟩, ⟨[1], [], [10], [(.slot 43)]⟩, ⟨[10, 1], [], [11], [(.slot 44)]⟩, ⟨[5], [], [12], [(.slot 8)]⟩, ⟨[7], [], [13], [(.slot 9)]⟩, ⟨[9], [], [14], [(.slot 10)]⟩, ⟨[11], [], [15], [(.slot 11)]⟩]) (es' := [(_, _), (_, _), (_, _), (_, _), (8, .v (.int .u32 v30)), (9, .v (.int .u32 v32)), (10, .v (.int .u32 v34)), (11, .v (.int .u32 v36))]) (by kernel_rfl) rfl rfl
    ⟨st_plain rfl (op_ix_arr _ _ _ _ 4 2 _ Tryd.underlying74 sz49 rfl rfl (ix_ok hv29).1 (ix_ok hv29).2 (by decide)),
    st_plain rfl (op_load_arr _ _ _ _ _ _ Tryd.underlying49 rfl rfl rfl (map_get1 hv30)),
    st_plain rfl (op_ix_arr _ _ _ _ 4 2 _ Tryd.underlying74 sz49 rfl rfl (ix_ok hv31).1 (ix_ok hv31).2 (by decide)),
    st_plain rfl (op_load_arr _ _ _ _ _ _ Tryd.underlying49 rfl rfl rfl (map_get1 hv32)),
    st_plain rfl (op_ix_arr _ _ _ _ 4 2 _ Tryd.underlying74 sz49 rfl rfl (ix_ok hv33).1 (ix_ok hv33).2 (by decide)),
    st_plain rfl (op_load_arr _ _ _ _ _ _ Tryd.underlying49 rfl rfl rfl (map_get1 hv34)),
    st_plain rfl (op_ix_arr _ _ _ _ 4 2 _ Tryd.underlying74 sz49 rfl rfl (ix_ok hv35).1 (ix_ok hv35).2 (by decide)),
    st_plain rfl (op_load_arr _ _ _ _ _ _ Tryd.underlying49 rfl rfl rfl (map_get1 hv36)),
    st_plain rfl (op_assign _ _ _ _ rfl rfl),
    st_plain rfl (op_assign _ _ _ _ rfl rfl),
    st_plain rfl (op_assign _ _ _ _ rfl rfl),
    st_plain rfl (op_assign _ _ _ _ rfl rfl),
    trivial⟩ ?_
   refine pt_then ?_
   refine ht_seq ?_
   refine ht_seq ?_
   refine ht_seqR hn (El := [_, _, _, _, _, _, _, _, (45, .v (.agg (List.map (Value.int .u32) digest_sines).toArray)), (46, .v (.int .i64 0))]) (init := [0, 1, 2, 3, 4, 5, 6, 7]) (fin := [0, 1, 2, 3, 4, 5, 6, 7, 8, 9]) (sps := [⟨[0], [], [8], [(.slot 45)]⟩, ⟨[], [], [9], [(.slot 46)]⟩]) (es' := [(_, _), (_, _), (_, _), (_, _), (_, _), (_, _), (_, _), (_, _), (45, .v (.agg (List.map (Value.int .u32) digest_sines).toArray)), (46, .v (.int .i64 0))]) (by kernel_rfl) rfl rfl
    ⟨st_plain rfl (op_loadA_glob _ _ 105 0 (List.map (Value.int .u32) digest_sines) Tryd.underlying93 rfl sz93 rfl rfl (gl_mem0 mx)),
    st_plain rfl (op_move _ _ _ _ rfl rfl),
    trivial⟩ ?_
   refine pt_then ?_
   refine ht_loopS h (fun ((s63, s64, s65, s66, s67) : Int × Int × Int × Int × Int) => [(105, .glob (GL mx)), (2, .arr 74 (List.map (Value.int .u32) s)), (4, .arr 74 (List.map (Value.int .u32) ((List.replicate 4 (0 : Int))))), (5, .arr 92 (List.map (Value.int .u32) s21)), (8, .v (.int .u32 s63)), (9, .v (.int .u32 s64)), (10, .v (.int .u32 s65)), (11, .v (.int .u32 s66)), (45, .v (.agg (List.map (Value.int .u32) digest_sines).toArray)), (46, .v (.int .i64 s67))]) (fun ((s69, s70, s71, s72) : Int × Int × Int × Int) => [(105, .glob (GL mx)), (2, .arr 74 (List.map (Value.int .u32) s)), (4, .arr 74 (List.map (Value.int .u32) ((List.replicate 4 (0 : Int))))), (8, .v (.int .u32 s69)), (9, .v (.int .u32 s70)), (10, .v (.int .u32 s71)), (11, .v (.int .u32 s72))]) ?_ ?_
   ·rintro ⟨s69, s70, s71, s72⟩ h
    refine pt_then ?_
    refine ht_seq ?_
    obtain ⟨v80, hv80, h⟩ := bind_some h
    obtain ⟨v81, hv81, h⟩ := bind_some h
    obtain ⟨v82, hv82, h⟩ := bind_some h
    obtain ⟨v83, hv83, h⟩ := bind_some h
    obtain ⟨v84, hv84, h⟩ := bind_some h
    obtain ⟨v85, hv85, h⟩ := bind_some h
    obtain ⟨v86, hv86, h⟩ := bind_some h
    obtain ⟨v87, hv87, h⟩ := bind_some h
    obtain ⟨v88, hv88, h⟩ := bind_some h
    obtain ⟨v89, hv89, h⟩ := bind_some h
    obtain ⟨v90, hv90, h⟩ := bind_some h
    obtain ⟨v91, hv91, h⟩ := bind_some h
    obtain ⟨v92, hv92, h⟩ := bind_some h
    obtain ⟨v93, hv93, h⟩ := bind_some h
    refine ht_seqR hn (El := (_ :: _ :: _ :: _ :: _ :: _ :: _ :: (88, .ptr 2 v80) :: (89, .v (.int .u32 v81)) :: (90, .v (.int .u32 s69)) :: (91, .v (.int .u32 v82)) :: (92, .ptr 2 v83) :: (93, .v (.int .u32 v84)) :: (94, .v (.int .u32 s70)) :: (95, .v (.int .u32 v85)) :: (96, .ptr 2 v86) :: (97, .v (.int .u32 v87)) :: (98, .v (.int .u32 s71)) :: (99, .v (.int .u32 v88)) :: (100, .ptr 2 v89) :: (101, .v (.int .u32 v90)) :: (102, .v (.int .u32 s72)) :: (103, .v (.int .u32 v91)) :: (104, .v (.agg (List.map (Value.int .u32) ([v82, v85, v88, v91] : List Int)).toArray)) :: (4, .arr 74 (List.map (Value.int .u32) ([v82, v85, v88, v91] : List Int))) :: [])) (init := [0, 1, 2, 3, 4, 5, 6]) (fin := [0, 24]) (sps := (⟨[1], [], [7], [(.slot 88)]⟩ :: ⟨[7, 1], [], [8], [(.slot 89)]⟩ :: ⟨[3], [], [9], [(.slot 90)]⟩ :: ⟨[8, 9], [], [10], [(.slot 91)]⟩ :: ⟨[1], [], [11], [(.slot 92)]⟩ :: ⟨[11, 1], [], [12], [(.slot 93)]⟩ :: ⟨[4], [], [13], [(.slot 94)]⟩ :: ⟨[12, 13], [], [14], [(.slot 95)]⟩ :: ⟨[1], [], [15], [(.slot 96)]⟩ :: ⟨[15, 1], [], [16], [(.slot 97)]⟩ :: ⟨[5], [], [17], [(.slot 98)]⟩ :: ⟨[16, 17], [], [18], [(.slot 99)]⟩ :: ⟨[1], [], [19], [(.slot 100)]⟩ :: ⟨[19, 1], [], [20], [(.slot 101)]⟩ :: ⟨[6], [], [21], [(.slot 102)]⟩ :: ⟨[20, 21], [], [22], [(.slot 103)]⟩ :: ⟨[10, 14, 18, 22], [], [23], [(.slot 104)]⟩ :: ⟨[23], [2], [24], []⟩ :: [])) (es' := [(_, _), (4, .arr 74 (List.map (Value.int .u32) ([v82, v85, v88, v91] : List Int)))]) (by kernel_rfl) rfl rfl
     ⟨st_plain rfl (op_ix_arr _ _ _ _ 4 2 _ Tryd.underlying74 sz49 rfl rfl (ix_ok hv80).1 (ix_ok hv80).2 (by decide)),
     st_plain rfl (op_load_arr _ _ _ _ _ _ Tryd.underlying49 rfl rfl rfl (map_get1 hv81)),
     st_plain rfl (op_move _ _ _ _ rfl rfl),
     st_plain rfl (op_bin _ _ _ _ _ rfl rfl (ibind (f := Value.int .u32) (Option.some.inj hv82))),
     st_plain rfl (op_ix_arr _ _ _ _ 4 2 _ Tryd.underlying74 sz49 rfl rfl (ix_ok hv83).1 (ix_ok hv83).2 (by decide)),
     st_plain rfl (op_load_arr _ _ _ _ _ _ Tryd.underlying49 rfl rfl rfl (map_get1 hv84)),
     st_plain rfl (op_move _ _ _ _ rfl rfl),
     st_plain rfl (op_bin _ _ _ _ _ rfl rfl (ibind (f := Value.int .u32) (Option.some.inj hv85))),
     st_plain rfl (op_ix_arr _ _ _ _ 4 2 _ Tryd.underlying74 sz49 rfl rfl (ix_ok hv86).1 (ix_ok hv86).2 (by decide)),
     st_plain rfl (op_load_arr _ _ _ _ _ _ Tryd.underlying49 rfl rfl rfl (map_get1 hv87)),
     st_plain rfl (op_move _ _ _ _ rfl rfl),
     st_plain rfl (op_bin _ _ _ _ _ rfl rfl (ibind (f := Value.int .u32) (Option.some.inj hv88))),
     st_plain rfl (op_ix_arr _ _ _ _ 4 2 _ Tryd.underlying74 sz49 rfl rfl (ix_ok hv89).1 (ix_ok hv89).2 (by decide)),
     st_plain rfl (op_load_arr _ _ _ _ _ _ Tryd.underlying49 rfl rfl rfl (map_get1 hv90)),
     st_plain rfl (op_move _ _ _ _ rfl rfl),
     st_plain rfl (op_bin _ _ _ _ _ rfl rfl (ibind (f := Value.int .u32) (Option.some.inj hv91))),
     st_plain rfl (op_build_arr _ _ (.agg #[.int .u32 0, .int .u32 0, .int .u32 0, .int .u32 0]) (List.map (Value.int .u32) ([v82, v85, v88, v91] : List Int)) [(0, .int .u32 v82), (1, .int .u32 v85), (2, .int .u32 v88), (3, .int .u32 v91)] Tryd.underlying74 sz49 zr74 (fun _ V w o a hv hes => by have e0 := rd_v hv hes (x := .tmp 91) rfl; have e1 := rd_v hv hes (x := .tmp 95) rfl; have e2 := rd_v hv hes (x := .tmp 99) rfl; have e3 := rd_v hv hes (x := .tmp 103) rfl; simp only [List.map_toArray, List.map_cons, List.map_nil, e0, e1, e2, e3]; try rfl) (litfill (by simp [Instr.fill, Value.cells]; rfl) (by simp))),
     st_plain rfl (op_storeA_arr _ _ _ _ (sz74.trans (congrArg some (ln_len hv93))) rfl rfl (ln_ones (fun _ => rfl) _) ((ln_len (f := Value.int .u32) hv92).symm.trans (ln_len (f := Value.int .u32) hv93))),
     trivial⟩ ?_
    refine pt_then ?_
    refine ht_ret ?_
    obtain ⟨v94, hv94, h⟩ := bind_some h
    refine pt_pick [1] (by kernel_rfl) (es' := [(_, _)]) rfl ?_
    obtain rfl := Option.some.inj h
    exact pt_ret hio rfl (.cellR _ _ _ _ Tryd.underlying74 rfl (sz74.trans (congrArg some (ln_len hv94))) .nil) rfl rfl
   ·rintro u73 hl74 hr75 ⟨s63, s64, s65, s66, s67⟩ rr78 h ho76
    refine ht_seq ?_
    refine ht_seqR hn (El := [_, _, _, _, _, _, _, _, _, _, (47, .v (.bool ((decide (s67 < 64)))))]) (init := [0, 1, 2, 3, 4, 5, 6, 7, 8, 9]) (fin := [0, 1, 2, 3, 4, 5, 6, 7, 8, 9, 10]) (sps := [⟨[9], [], [10], [(.slot 47)]⟩]) (es' := [(_, _), (_, _), (_, _), (_, _), (_, _), (_, _), (_, _), (_, _), (_, _), (_, _), (47, .v (.bool ((decide (s67 < 64)))))]) (by kernel_rfl) rfl rfl
     ⟨st_plain rfl (op_bin _ _ _ _ _ rfl rfl rfl),
     trivial⟩ ?_
    refine pt_then ?_
    refine ht_seq ?_
    refine ht_cond _ rfl (fun hb79 => ?_) (fun hb79 => ?_)
    ·have h := cond_t hb79 h
     refine ht_skip ?_
     refine pt_then ?_
     refine ht_seq ?_
     refine ht_block ?_
     refine ht_seq ?_
     obtain ⟨v38, hv38, h⟩ := bind_some h
     obtain ⟨v39, hv39, h⟩ := bind_some h
     refine ht_seqR hn (El := (_ :: _ :: _ :: _ :: _ :: _ :: _ :: _ :: _ :: _ :: _ :: (48, .v (.int .i64 s67)) :: (49, .v (.int .u32 v39)) :: (12, .v (.int .i64 s67)) :: (13, .v (.int .u32 v39)) :: [])) (init := [0, 1, 2, 3, 4, 5, 6, 7, 8, 9, 10]) (fin := [0, 1, 2, 3, 4, 5, 6, 7, 8, 9, 13, 14]) (sps := [⟨[9], [], [11], [(.slot 48)]⟩, ⟨[8, 9], [], [12], [(.slot 49)]⟩, ⟨[11], [], [13], [(.slot 12)]⟩, ⟨[12], [], [14], [(.slot 13)]⟩]) (es' := [(_, _), (_, _), (_, _), (_, _), (_, _), (_, _), (_, _), (_, _), (_, _), (_, _), (12, .v (.int .i64 s67)), (13, .v (.int .u32 v39))]) (by kernel_rfl) rfl rfl
      ⟨st_plain rfl (op_move _ _ _ _ rfl rfl),
      st_plain rfl (op_index_arr _ _ _ _ 64 v38 Tryd.underlying93 sz49 rfl (congrArg (fun j => AV.v (Value.int .i64 j)) (ix_ok hv38).1) (ix_ok hv38).2 (map_get1 hv39) ⟨_, Tryd.underlying49, rfl⟩),
      st_plain rfl (op_assign _ _ _ _ rfl rfl),
      st_plain rfl (op_assign _ _ _ _ rfl rfl),
      trivial⟩ ?_
     refine pt_then ?_
     refine ht_seq ?_
     obtain ⟨v40, hv40, h⟩ := bind_some h
     refine ht_seqR hn (El := (_ :: _ :: _ :: _ :: _ :: _ :: _ :: _ :: _ :: _ :: _ :: _ :: (51, .v (.int .i64 s67)) :: (52, .v (.int .u32 s64)) :: (53, .v (.int .u32 s65)) :: (54, .v (.int .u32 s66)) :: (55, .tup [.v (.int .u32 v40.1), .v (.int .i64 v40.2)]) :: (50, .tup [.v (.int .u32 v40.1), .v (.int .i64 v40.2)]) :: (56, .v (.int .u32 v40.1)) :: (57, .v (.int .i64 v40.2)) :: (14, .v (.int .u32 v40.1)) :: (15, .v (.int .i64 v40.2)) :: [])) (init := [0, 1, 2, 3, 4, 5, 6, 7, 8, 9, 10, 11]) (fin := [0, 1, 2, 3, 4, 5, 6, 7, 8, 9, 10, 11, 20, 21]) (sps := [⟨[10], [], [12], [(.slot 51)]⟩, ⟨[5], [], [13], [(.slot 52)]⟩, ⟨[6], [], [14], [(.slot 53)]⟩, ⟨[7], [], [15], [(.slot 54)]⟩, ⟨[12, 13, 14, 15], [], [16], [(.slot 55)]⟩, ⟨[], [16], [17], [(.slot 50)]⟩, ⟨[17], [], [18], [(.slot 56)]⟩, ⟨[17], [], [19], [(.slot 57)]⟩, ⟨[18], [], [20], [(.slot 14)]⟩, ⟨[19], [], [21], [(.slot 15)]⟩]) (es' := [(_, _), (_, _), (_, _), (_, _), (_, _), (_, _), (_, _), (_, _), (_, _), (_, _), (_, _), (_, _), (14, .v (.int .u32 v40.1)), (15, .v (.int .i64 v40.2))]) (by kernel_rfl) rfl rfl
      ⟨st_plain rfl (op_move _ _ _ _ rfl rfl),
      st_plain rfl (op_move _ _ _ _ rfl rfl),
      st_plain rfl (op_move _ _ _ _ rfl rfl),
      st_plain rfl (op_move _ _ _ _ rfl rfl),
      st_plain rfl (op_call _ _ 57 _ _ rfl Tryd.call57 rfl (ok_digest_step s67 s64 s65 s66 _ hv40) rfl rfl),
      st_plain rfl (op_move_take _ _ _ _ rfl),
      st_plain rfl (op_extract _ _ _ _ _ rfl rfl (Nat.le_of_ble_eq_true rfl) rfl rfl),
      st_plain rfl (op_extract _ _ _ _ _ rfl rfl (Nat.le_of_ble_eq_true rfl) rfl rfl),
      st_plain rfl (op_assign _ _ _ _ rfl rfl),
      st_plain rfl (op_assign _ _ _ _ rfl rfl),
      trivial⟩ ?_
     refine pt_then ?_
     refine ht_seq ?_
     obtain ⟨v41, hv41, h⟩ := bind_some h
     obtain ⟨v42, hv42, h⟩ := bind_some h
     obtain ⟨v43, hv43, h⟩ := bind_some h
     obtain ⟨v44, hv44, h⟩ := bind_some h
     obtain ⟨v45, hv45, h⟩ := bind_some h
     refine ht_seqR hn (El := (_ :: _ :: _ :: _ :: _ :: _ :: _ :: _ :: _ :: _ :: _ :: _ :: _ :: _ :: (58, .v (.int .u32 v40.1)) :: (59, .v (.int .u32 s63)) :: (60, .v (.int .u32 v39)) :: (61, .v (.int .u32 v41)) :: (62, .v (.int .i64 v40.2)) :: (63, .ptr 5 v42) :: (64, .v (.int .u32 v43)) :: (65, .v (.int .u32 v44)) :: (66, .v (.int .u32 v45)) :: (14, .v (.int .u32 v45)) :: [])) (init := [0, 1, 2, 3, 4, 5, 6, 7, 8, 9, 10, 11, 12, 13]) (fin := [0, 1, 2, 3, 5, 6, 7, 8, 9, 10, 23]) (sps := [⟨[12], [], [14], [(.slot 58)]⟩, ⟨[4], [], [15], [(.slot 59)]⟩, ⟨[11], [], [16], [(.slot 60)]⟩, ⟨[15, 16], [], [17], [(.slot 61)]⟩, ⟨[13], [], [18], [(.slot 62)]⟩, ⟨[3, 18], [], [19], [(.slot 63)]⟩, ⟨[19, 3], [], [20], [(.slot 64)]⟩, ⟨[17, 20], [], [21], [(.slot 65)]⟩, ⟨[14, 21], [], [22], [(.slot 66)]⟩, ⟨[22], [12], [23], [(.slot 14)]⟩]) (es' := [(_, _), (_, _), (_, _), (_, _), (_, _), (_, _), (_, _), (_, _), (_, _), (_, _), (14, .v (.int .u32 v45))]) (by kernel_rfl) rfl rfl
      ⟨st_plain rfl (op_move _ _ _ _ rfl rfl),
      st_plain rfl (op_move _ _ _ _ rfl rfl),
      st_plain rfl (op_move _ _ _ _ rfl rfl),
      st_plain rfl (op_bin _ _ _ _ _ rfl rfl (ibind (f := Value.int .u32) (Option.some.inj hv41))),
      st_plain rfl (op_move _ _ _ _ rfl rfl),
      st_plain rfl (op_ix_arr _ _ _ _ 16 5 _ Tryd.underlying92 sz49 rfl rfl (ix_ok hv42).1 (ix_ok hv42).2 (by decide)),
      st_plain rfl (op_load_arr _ _ _ _ _ _ Tryd.underlying49 rfl rfl rfl (map_get1 hv43)),
      st_plain rfl (op_bin _ _ _ _ _ rfl rfl (ibind (f := Value.int .u32) (Option.some.inj hv44))),
      st_plain rfl (op_bin _ _ _ _ _ rfl rfl (ibind (f := Value.int .u32) (Option.some.inj hv45))),
      st_plain rfl (LOp.drop [_] (op_assign _ _ _ _ rfl rfl)),
      trivial⟩ ?_
     refine pt_then ?_
     refine ht_seq ?_
     obtain ⟨v46, hv46, h⟩ := bind_some h
     obtain ⟨v47, hv47, h⟩ := bind_some h
     obtain ⟨v48, hv48, h⟩ := bind_some h
     obtain ⟨v49, hv49, h⟩ := bind_some h
     obtain ⟨v50, hv50, h⟩ := bind_some h
     refine ht_seqR hn (El := (_ :: _ :: _ :: _ :: _ :: _ :: _ :: _ :: _ :: _ :: _ :: (67, .v (.int .i64 s67)) :: (68, .v (.int .i64 v46)) :: (69, .v (.int .i64 s67)) :: (70, .v (.int .i64 v47)) :: (71, .v (.pointer (some ⟨1, (0 + v48 * 4), none⟩))) :: (72, .v (.pointer (some ⟨1, ((0 + v48 * 4) + v49 * 1), none⟩))) :: (73, .v (.int .i64 v50)) :: (16, .v (.int .i64 v50)) :: [])) (init := [0, 1, 2, 3, 4, 5, 6, 7, 8, 9, 10]) (fin := [0, 1, 2, 3, 4, 5, 6, 7, 8, 10, 18]) (sps := [⟨[9], [], [11], [(.slot 67)]⟩, ⟨[11], [], [12], [(.slot 68)]⟩, ⟨[9], [], [13], [(.slot 69)]⟩, ⟨[13], [], [14], [(.slot 70)]⟩, ⟨[12], [], [15], [(.slot 71)]⟩, ⟨[15, 14], [], [16], [(.slot 72)]⟩, ⟨[16, 0], [], [17], [(.slot 73)]⟩, ⟨[17], [], [18], [(.slot 16)]⟩]) (es' := [(_, _), (_, _), (_, _), (_, _), (_, _), (_, _), (_, _), (_, _), (_, _), (_, _), (16, .v (.int .i64 v50))]) (by kernel_rfl) rfl rfl
      ⟨st_plain rfl (op_move _ _ _ _ rfl rfl),
      st_plain rfl (op_bin _ _ _ _ _ rfl rfl (quo_ok hv46)),
      st_plain rfl (op_move _ _ _ _ rfl rfl),
      st_plain rfl (op_bin _ _ _ _ _ rfl rfl (rem_ok hv47)),
      st_plain rfl (op_ix_globz _ _ _ _ 4 1 0 _ 4 _ Tryd.underlying97 sz96 rfl rfl (ix_ok hv48).1 (ix_ok hv48).2),
      st_plain rfl (op_ix_globz _ _ _ _ 4 1 (0 + v48 * 4) _ 1 _ Tryd.underlying96 sz3 rfl rfl (ix_ok hv49).1 (ix_ok hv49).2),
      st_plain rfl (op_load_glob _ _ 105 1 _ _ _ Tryd.underlying3 rfl rfl rfl (gl_mem1 mx) (map_get1 hv50)),
      st_plain rfl (op_assign _ _ _ _ rfl rfl),
      trivial⟩ ?_
     refine pt_then ?_
     obtain ⟨v51, hv51, h⟩ := bind_some h
     obtain ⟨v52, hv52, h⟩ := bind_some h
     obtain ⟨v53, hv53, h⟩ := bind_some h
     obtain ⟨v54, hv54, h⟩ := bind_some h
     obtain ⟨v55, hv55, h⟩ := bind_some h
     refine ht_anyR (by kernel_rfl) hn (El := (_ :: _ :: _ :: _ :: _ :: _ :: _ :: _ :: _ :: _ :: _ :: (74, .v (.int .u32 s66)) :: (75, .v (.int .u32 s64)) :: (76, .v (.int .u32 v45)) :: (77, .v (.int .i64 v50)) :: (78, .v (.int .u32 v51)) :: (79, .v (.int .u32 v45)) :: (80, .v (.int .i64 v50)) :: (81, .v (.int .i64 v52)) :: (82, .v (.int .u32 v53)) :: (83, .v (.int .u32 v54)) :: (84, .v (.int .u32 v55)) :: (85, .v (.int .u32 s64)) :: (86, .v (.int .u32 s65)) :: (8, .v (.int .u32 s66)) :: (9, .v (.int .u32 v55)) :: (10, .v (.int .u32 s64)) :: (11, .v (.int .u32 s65)) :: [])) (init := [0, 1, 2, 3, 4, 5, 6, 7, 8, 9, 10]) (fin := [0, 1, 2, 3, 7, 8, 24, 25, 26, 27]) (sps := (⟨[6], [], [11], [(.slot 74)]⟩ :: ⟨[4], [], [12], [(.slot 75)]⟩ :: ⟨[9], [], [13], [(.slot 76)]⟩ :: ⟨[10], [], [14], [(.slot 77)]⟩ :: ⟨[13, 14], [], [15], [(.slot 78)]⟩ :: ⟨[9], [], [16], [(.slot 79)]⟩ :: ⟨[10], [], [17], [(.slot 80)]⟩ :: ⟨[17], [], [18], [(.slot 81)]⟩ :: ⟨[16, 18], [], [19], [(.slot 82)]⟩ :: ⟨[15, 19], [], [20], [(.slot 83)]⟩ :: ⟨[12, 20], [], [21], [(.slot 84)]⟩ :: ⟨[4], [], [22], [(.slot 85)]⟩ :: ⟨[5], [], [23], [(.slot 86)]⟩ :: ⟨[11], [], [24], [(.slot 8)]⟩ :: ⟨[21], [4], [25], [(.slot 9)]⟩ :: ⟨[22], [5], [26], [(.slot 10)]⟩ :: ⟨[23], [6], [27], [(.slot 11)]⟩ :: [])) (es' := [(_, _), (_, _), (_, _), (_, _), (_, _), (_, _), (8, .v (.int .u32 s66)), (9, .v (.int .u32 v55)), (10, .v (.int .u32 s64)), (11, .v (.int .u32 s65))]) (by kernel_rfl) rfl rfl
      ⟨st_plain rfl (op_move _ _ _ _ rfl rfl),
      st_plain rfl (op_move _ _ _ _ rfl rfl),
      st_plain rfl (op_move _ _ _ _ rfl rfl),
      st_plain rfl (op_move _ _ _ _ rfl rfl),
      st_plain rfl (op_bin _ _ _ _ _ rfl rfl (shl_ok hv51)),
      st_plain rfl (op_move _ _ _ _ rfl rfl),
      st_plain rfl (op_move _ _ _ _ rfl rfl),
      st_plain rfl (op_bin _ _ _ _ _ rfl rfl (ibind (f := Value.int .i64) (Option.some.inj hv52))),
      st_plain rfl (op_bin _ _ _ _ _ rfl rfl (shr_ok hv53)),
      st_plain rfl (op_bin _ _ _ _ _ rfl rfl (ibind (f := Value.int .u32) (Option.some.inj hv54))),
      st_plain rfl (op_bin _ _ _ _ _ rfl rfl (ibind (f := Value.int .u32) (Option.some.inj hv55))),
      st_plain rfl (op_move _ _ _ _ rfl rfl),
      st_plain rfl (op_move _ _ _ _ rfl rfl),
      st_plain rfl (op_assign _ _ _ _ rfl rfl),
      st_plain rfl (LOp.drop [_] (op_assign _ _ _ _ rfl rfl)),
      st_plain rfl (LOp.drop [_] (op_assign _ _ _ _ rfl rfl)),
      st_plain rfl (LOp.drop [_] (op_assign _ _ _ _ rfl rfl)),
      trivial⟩ ?_
     refine pt_inb ?_
     refine pt_then ?_
     obtain ⟨v56, hv56, h⟩ := bind_some h
     refine ht_seqR hn (El := [_, _, _, _, _, _, _, _, _, _, (87, .v (.int .i64 v56)), (46, .v (.int .i64 v56))]) (init := [0, 1, 2, 3, 4, 5, 6, 7, 8, 9]) (fin := [0, 1, 2, 3, 4, 6, 7, 8, 9, 11]) (sps := [⟨[5], [], [10], [(.slot 87)]⟩, ⟨[10], [5], [11], [(.slot 46)]⟩]) (es' := [(_, _), (_, _), (_, _), (_, _), (_, _), (_, _), (_, _), (_, _), (_, _), (46, .v (.int .i64 v56))]) (by kernel_rfl) rfl rfl
      ⟨st_plain rfl (op_bin _ _ _ _ _ rfl rfl (ibind (f := Value.int .i64) (Option.some.inj hv56))),
      st_plain rfl (LOp.drop [_] (op_move _ _ _ _ rfl rfl)),
      trivial⟩ ?_
     refine pt_pick [0, 1, 2, 3, 5, 6, 7, 8, 4, 9] (by kernel_rfl) (es' := [(_, _), (_, _), (_, _), (_, _), (_, _), (_, _), (_, _), (_, _), (_, _), (_, _)]) rfl ?_
     exact pt_next _ (Option.some.inj h).symm rfl
    ·have h := cond_f hb79 h
     refine ht_exit ?_
     refine pt_x_then ?_
     refine pt_x_then ?_
     refine pt_x_in ?_
     refine pt_pick [0, 1, 2, 4, 5, 6, 7] (by kernel_rfl) (es' := [(_, _), (_, _), (_, _), (_, _), (_, _), (_, _), (_, _)]) rfl ?_
     exact hl74 _ (ho76 _ (Option.some.inj h).symm).symm
  ·rintro u22 hl23 hr24 ⟨s18, s19⟩ rr27 h ho25
   refine ht_seq ?_
   refine ht_seqR hn (El := [_, _, _, _, _, _, _, (20, .v (.bool ((decide (s19 < (b.length : Int))))))]) (init := [0, 1, 2, 3, 4, 5, 6]) (fin := [0, 1, 2, 3, 4, 5, 6, 7]) (sps := [⟨[6, 5], [], [7], [(.slot 20)]⟩]) (es' := [(_, _), (_, _), (_, _), (_, _), (_, _), (_, _), (_, _), (20, .v (.bool ((decide (s19 < (b.length : Int))))))]) (by kernel_rfl) rfl rfl
    ⟨st_plain rfl (op_bin _ _ _ _ _ rfl rfl rfl),
    trivial⟩ ?_
   refine pt_then ?_
   refine ht_seq ?_
   refine ht_cond _ rfl (fun hb28 => ?_) (fun hb28 => ?_)
   ·have h := cond_t hb28 h
    refine ht_skip ?_
    refine pt_then ?_
    refine ht_seq ?_
    refine ht_block ?_
    refine ht_seq ?_
    obtain ⟨v2, hv2, h⟩ := bind_some h
    obtain ⟨v3, hv3, h⟩ := bind_some h
    refine ht_seqR hn (El := [_, _, _, _, _, _, _, _, (21, .v (.int .i64 s19)), (22, .eref (.slot 17) (v2 * 1)), (23, .v (.int .u8 v3)), (6, .v (.int .i64 s19)), (7, .v (.int .u8 v3))]) (init := [0, 1, 2, 3, 4, 5, 6, 7]) (fin := [0, 1, 2, 3, 4, 5, 6, 11, 12]) (sps := [⟨[6], [], [8], [(.slot 21)]⟩, ⟨[4, 6], [], [9], [(.slot 22)]⟩, ⟨[9, 4], [], [10], [(.slot 23)]⟩, ⟨[8], [], [11], [(.slot 6)]⟩, ⟨[10], [], [12], [(.slot 7)]⟩]) (es' := [(_, _), (_, _), (_, _), (_, _), (_, _), (_, _), (_, _), (6, .v (.int .i64 s19)), (7, .v (.int .u8 v3))]) (by kernel_rfl) rfl rfl
     ⟨st_plain rfl (op_move _ _ _ _ rfl rfl),
     st_plain rfl (op_ix _ _ _ _ _ _ _ _ Tryd.underlying22 sz5 (by decide) rfl rfl rfl (ix_ok hv2).1 (map_lt (ix_ok hv2).2) rfl),
     st_plain rfl (op_load_e _ _ _ _ _ _ Tryd.underlying5 rfl rfl rfl (map_get hv3)),
     st_plain rfl (op_assign _ _ _ _ rfl rfl),
     st_plain rfl (op_assign _ _ _ _ rfl rfl),
     trivial⟩ ?_
    refine pt_then ?_
    obtain ⟨v4, hv4, h⟩ := bind_some h
    obtain ⟨v5, hv5, h⟩ := bind_some h
    obtain ⟨v6, hv6, h⟩ := bind_some h
    obtain ⟨v7, hv7, h⟩ := bind_some h
    obtain ⟨v8, hv8, h⟩ := bind_some h
    obtain ⟨v9, hv9, h⟩ := bind_some h
    obtain ⟨v10, hv10, h⟩ := bind_some h
    obtain ⟨v11, hv11, h⟩ := bind_some h
    obtain ⟨v12, hv12, h⟩ := bind_some h
    obtain ⟨v13, hv13, h⟩ := bind_some h
    refine ht_anyR (by kernel_rfl) hn (El := (_ :: _ :: _ :: _ :: _ :: _ :: _ :: _ :: _ :: (24, .v (.int .i64 s19)) :: (25, .v (.int .i64 v4)) :: (26, .ptr 5 v5) :: (27, .v (.int .u32 v6)) :: (28, .v (.int .u8 v3)) :: (29, .v (.int .u32 v7)) :: (30, .v (.int .i64 s19)) :: (31, .v (.int .i64 v8)) :: (32, .v (.int .i64 v9)) :: (33, .v (.int .u32 v10)) :: (34, .v (.int .u32 v11)) :: (35, .ptr 5 v12) :: (5, .arr 92 (List.map (Value.int .u32) v13)) :: [])) (init := [0, 1, 2, 3, 4, 5, 6, 7, 8]) (fin := [0, 1, 2, 21, 4, 5, 6]) (sps := [⟨[7], [], [9], [(.slot 24)]⟩, ⟨[9], [], [10], [(.slot 25)]⟩, ⟨[3, 10], [], [11], [(.slot 26)]⟩, ⟨[11, 3], [], [12], [(.slot 27)]⟩, ⟨[8], [], [13], [(.slot 28)]⟩, ⟨[13], [], [14], [(.slot 29)]⟩, ⟨[7], [], [15], [(.slot 30)]⟩, ⟨[15], [], [16], [(.slot 31)]⟩, ⟨[16], [], [17], [(.slot 32)]⟩, ⟨[14, 17], [], [18], [(.slot 33)]⟩, ⟨[12, 18], [], [19], [(.slot 34)]⟩, ⟨[3, 10], [], [20], [(.slot 35)]⟩, ⟨[20, 19], [3], [21], []⟩]) (es' := [(_, _), (_, _), (_, _), (5, .arr 92 (List.map (Value.int .u32) v13)), (_, _), (_, _), (_, _)]) (by kernel_rfl) rfl rfl
     ⟨st_plain rfl (op_move _ _ _ _ rfl rfl),
     st_plain rfl (op_bin _ _ _ _ _ rfl rfl (quo_ok hv4)),
     st_plain rfl (op_ix_arr _ _ _ _ 16 5 _ Tryd.underlying92 sz49 rfl rfl (ix_ok hv5).1 (ix_ok hv5).2 (by decide)),
     st_plain rfl (op_load_arr _ _ _ _ _ _ Tryd.underlying49 rfl rfl rfl (map_get1 hv6)),
     st_plain rfl (op_move _ _ _ _ rfl rfl),
     st_plain rfl ((Option.some.inj hv7) ▸ op_conv _ _ _ Tryd.underlying5 Tryd.underlying49 rfl),
     st_plain rfl (op_move _ _ _ _ rfl rfl),
     st_plain rfl (op_bin _ _ _ _ _ rfl rfl (rem_ok hv8)),
     st_plain rfl (op_bin _ _ _ _ _ rfl rfl (ibind (f := Value.int .i64) (Option.some.inj hv9))),
     st_plain rfl (op_bin _ _ _ _ _ rfl rfl (shl_ok hv10)),
     st_plain rfl (op_bin _ _ _ _ _ rfl rfl (ibind (f := Value.int .u32) (Option.some.inj hv11))),
     st_plain rfl (op_ix_arr _ _ _ _ 16 5 _ Tryd.underlying92 sz49 rfl rfl (ix_ok hv12).1 (ix_ok hv12).2 (by decide)),
     st_plain rfl (op_store_arr _ _ _ _ _ _ sz49 rfl rfl rfl rfl (set_lt hv13) (set_eq (f := Value.int .u32) hv13)),
     trivial⟩ ?_
    refine pt_inb ?_
    refine pt_then ?_
    obtain ⟨v14, hv14, h⟩ := bind_some h
    refine ht_seqR hn (El := [_, _, _, _, _, _, _, (36, .v (.int .i64 v14)), (19, .v (.int .i64 v14))]) (init := [0, 1, 2, 3, 4, 5, 6]) (fin := [0, 1, 2, 3, 4, 5, 8]) (sps := [⟨[6], [], [7], [(.slot 36)]⟩, ⟨[7], [6], [8], [(.slot 19)]⟩]) (es' := [(_, _), (_, _), (_, _), (_, _), (_, _), (_, _), (19, .v (.int .i64 v14))]) (by kernel_rfl) rfl rfl
     ⟨st_plain rfl (op_bin _ _ _ _ _ rfl rfl (ibind (f := Value.int .i64) (Option.some.inj hv14))),
     st_plain rfl (LOp.drop [_] (op_move _ _ _ _ rfl rfl)),
     trivial⟩ ?_
    exact pt_next _ (Option.some.inj h).symm rfl
   ·have h := cond_f hb28 h
    refine ht_exit ?_
    refine pt_x_then ?_
    refine pt_x_then ?_
    refine pt_x_in ?_
    refine pt_pick [0, 1, 2, 3] (by kernel_rfl) (es' := [(_, _), (_, _), (_, _), (_, _)]) rfl ?_
    exact hl23 _ (ho25 _ (Option.some.inj h).symm).symm

set_option maxHeartbeats 1000000 in
theorem ok_digest_padded (rest : (List Int)) (n : Int) (r : (List Int)) (h : Sh.digest_padded rest n = some r) : FnOK Tryd.prog 44 [.fl .shr 1 (List.map (Value.int .u8) rest), .v (.int .i64 n)] (.fl (.own 5) 1 (List.map (Value.int .u8) r)) := by
  unfold Sh.digest_padded at h
  refine fn_ok Tryd.func44 rfl (Nat.le_of_ble_eq_true rfl) rfl rfl fun g0 hn hio => ?_
  refine ht_seq ?_
  refine ht_seqR hn (El := [_, _, (4, .v (.slice none 0 0))]) (init := [0, 1]) (fin := [0, 1]) (sps := [⟨[], [], [2], [(.slot 4)]⟩]) (es' := [(_, _), (_, _)]) (by kernel_rfl) rfl rfl
   ⟨st_plain rfl (op_assign _ _ _ _ rfl rfl),
   trivial⟩ ?_
  refine pt_then ?_
  refine ht_seq ?_
  refine ht_seqR hn (El := [_, _, (5, .v (.int .i64 64))]) (init := [0, 1]) (fin := [0, 1, 2]) (sps := [⟨[], [], [2], [(.slot 5)]⟩]) (es' := [(_, _), (_, _), (5, .v (.int .i64 64))]) (by kernel_rfl) rfl rfl
   ⟨st_plain rfl (op_assign _ _ _ _ rfl rfl),
   trivial⟩ ?_
  refine pt_then ?_
  refine ht_seq ?_
  refine ht_joinS h (fun (s4 : Int) => [(0, .fl .shr 1 (List.map (Value.int .u8) rest)), (1, .v (.int .i64 n)), (5, .v (.int .i64 s4))]) ?_ ?_
  ·rintro s4 h
   refine pt_then ?_
   refine ht_seq ?_
   obtain ⟨v9, hv9, h⟩ := bind_some h
   refine ht_seqR hn (El := [_, _, _, (14, .v (.int .i64 s4)), (15, .fl (.own 5) 1 (List.map (Value.int .u8) v9)), (6, .fl (.own 5) 1 (List.map (Value.int .u8) v9))]) (init := [0, 1, 2]) (fin := [0, 1, 2, 5]) (sps := [⟨[2], [], [3], [(.slot 14)]⟩, ⟨[3], [], [4], [(.slot 15)]⟩, ⟨[], [4], [5], [(.slot 6)]⟩]) (es' := [(_, _), (_, _), (_, _), (6, .fl (.own 5) 1 (List.map (Value.int .u8) v9))]) (by kernel_rfl) rfl rfl
    ⟨st_plain rfl (op_move _ _ _ _ rfl rfl),
    st_plain rfl (op_mk (f := Value.int .u8) _ _ _ _ el22 (by decide) zr5 rfl rfl rfl hv9),
    st_plain rfl (op_assign_take _ _ _ _ rfl),
    trivial⟩ ?_
   refine pt_then ?_
   refine ht_seq ?_
   obtain ⟨v10, hv10, h⟩ := bind_some h
   refine ht_seqR hn (El := [_, _, _, _, (16, .same (.slot 6)), (17, .fl .shr 1 (List.map (Value.int .u8) rest)), (18, .v (.int .i64 (copyN v9 rest))), (6, .fl (.own 5) 1 (List.map (Value.int .u8) v10))]) (init := [0, 1, 2, 3]) (fin := [0, 1, 2, 7]) (sps := [⟨[3], [], [4], [(.slot 16)]⟩, ⟨[0], [], [5], [(.slot 17)]⟩, ⟨[4, 5], [3], [7, 6], [(.slot 18)]⟩]) (es' := [(_, _), (_, _), (_, _), (6, .fl (.own 5) 1 (List.map (Value.int .u8) v10))]) (by kernel_rfl) rfl rfl
    ⟨st_plain rfl (op_move _ _ _ _ rfl rfl),
    st_plain rfl (op_move _ _ _ _ rfl rfl),
    st_plain rfl ((Option.some.inj hv10) ▸ op_cp _ _ _ _ _ _ _ Tryd.underlying22 sz5 rfl rfl (by decide)),
    trivial⟩ ?_
   refine pt_then ?_
   refine ht_seq ?_
   obtain ⟨v11, hv11, h⟩ := bind_some h
   obtain ⟨v12, hv12, h⟩ := bind_some h
   refine ht_seqR hn (El := [_, _, _, _, (19, .same (.slot 6)), (20, .fl .shr 1 (List.map (Value.int .u8) rest)), (21, .v (.int .i64 (rest.length : Int))), (22, .eref (.slot 6) (v11 * 1)), (6, .fl (.own 5) 1 (List.map (Value.int .u8) v12))]) (init := [0, 1, 2, 3]) (fin := [1, 2, 8]) (sps := [⟨[3], [], [4], [(.slot 19)]⟩, ⟨[0], [], [5], [(.slot 20)]⟩, ⟨[5], [], [6], [(.slot 21)]⟩, ⟨[4, 3, 6], [], [7], [(.slot 22)]⟩, ⟨[7], [3], [8], []⟩]) (es' := [(_, _), (_, _), (6, .fl (.own 5) 1 (List.map (Value.int .u8) v12))]) (by kernel_rfl) rfl rfl
    ⟨st_plain rfl (op_move _ _ _ _ rfl rfl),
    st_plain rfl (op_move _ _ _ _ rfl rfl),
    st_plain rfl (op_len_fl _ _ _ Tryd.underlying22 rfl (by decide) (map_len _)),
    st_plain rfl (op_ix _ _ _ _ _ _ _ _ Tryd.underlying22 sz5 (by decide) rfl rfl rfl (ix_ok hv11).1 (map_lt (ix_ok hv11).2) rfl),
    st_plain rfl (op_store_e _ _ _ _ _ _ _ _ sz5 rfl rfl rfl (by decide) (map_lt (ix_ok hv11).2) ((map_set (f := Value.int .u8) _ (ix_ok hv11).2).trans (congrArg (List.map _) (Option.some.inj hv12)))),
    trivial⟩ ?_
   refine pt_then ?_
   refine ht_seq ?_
   obtain ⟨v13, hv13, h⟩ := bind_some h
   obtain ⟨v14, hv14, h⟩ := bind_some h
   refine ht_seqR hn (El := [_, _, _, (23, .v (.int .i64 n)), (24, .v (.int .u64 v13)), (25, .v (.int .u64 v14)), (7, .v (.int .u64 v14))]) (init := [0, 1, 2]) (fin := [1, 2, 6]) (sps := [⟨[0], [], [3], [(.slot 23)]⟩, ⟨[3], [], [4], [(.slot 24)]⟩, ⟨[4], [], [5], [(.slot 25)]⟩, ⟨[5], [], [6], [(.slot 7)]⟩]) (es' := [(_, _), (_, _), (7, .v (.int .u64 v14))]) (by kernel_rfl) rfl rfl
    ⟨st_plain rfl (op_move _ _ _ _ rfl rfl),
    st_plain rfl ((Option.some.inj hv13) ▸ op_conv _ _ _ Tryd.underlying3 Tryd.underlying81 rfl),
    st_plain rfl (op_bin _ _ _ _ _ rfl rfl (shl_ok hv14)),
    st_plain rfl (op_assign _ _ _ _ rfl rfl),
    trivial⟩ ?_
   refine pt_then ?_
   refine ht_seq ?_
   refine ht_seq ?_
   refine ht_seqR hn (El := [_, _, _, (26, .v (.int .i64 0))]) (init := [0, 1, 2]) (fin := [0, 1, 2, 3]) (sps := [⟨[], [], [3], [(.slot 26)]⟩]) (es' := [(_, _), (_, _), (_, _), (26, .v (.int .i64 0))]) (by kernel_rfl) rfl rfl
    ⟨st_plain rfl (op_move _ _ _ _ rfl rfl),
    trivial⟩ ?_
   refine pt_then ?_
   refine ht_loopS h (fun ((s27, s28) : (List Int) × Int) => [(5, .v (.int .i64 s4)), (6, .fl (.own 5) 1 (List.map (Value.int .u8) s27)), (7, .v (.int .u64 v14)), (26, .v (.int .i64 s28))]) (fun (s30 : (List Int)) => [(6, .fl (.own 5) 1 (List.map (Value.int .u8) s30))]) ?_ ?_
   ·rintro s30 h
    refine pt_then ?_
    refine ht_seq ?_
    refine ht_seqR hn (El := [_, (41, .fl (.own 5) 1 (List.map (Value.int .u8) s30)), (4, .fl (.own 5) 1 (List.map (Value.int .u8) s30))]) (init := [0]) (fin := [2]) (sps := [⟨[], [0], [1], [(.slot 41)]⟩, ⟨[], [1], [2], [(.slot 4)]⟩]) (es' := [(4, .fl (.own 5) 1 (List.map (Value.int .u8) s30))]) (by kernel_rfl) rfl rfl
     ⟨st_plain rfl (op_move_take _ _ _ _ rfl),
     st_plain rfl (op_assign_take _ _ _ _ rfl),
     trivial⟩ ?_
    refine pt_then ?_
    refine ht_ret ?_
    obtain rfl := Option.some.inj h
    exact pt_ret hio rfl (.tmp _ _ .nil) rfl rfl
   ·rintro u31 hl32 hr33 ⟨s27, s28⟩ rr36 h ho34
    refine ht_seq ?_
    refine ht_seqR hn (El := [_, _, _, _, (27, .v (.bool ((decide (s28 < 8)))))]) (init := [0, 1, 2, 3]) (fin := [0, 1, 2, 3, 4]) (sps := [⟨[3], [], [4], [(.slot 27)]⟩]) (es' := [(_, _), (_, _), (_, _), (_, _), (27, .v (.bool ((decide (s28 < 8)))))]) (by kernel_rfl) rfl rfl
     ⟨st_plain rfl (op_bin _ _ _ _ _ rfl rfl rfl),
     trivial⟩ ?_
    refine pt_then ?_
    refine ht_seq ?_
    refine ht_cond _ rfl (fun hb37 => ?_) (fun hb37 => ?_)
    ·have h := cond_t hb37 h
     refine ht_skip ?_
     refine pt_then ?_
     refine ht_seq ?_
     refine ht_block ?_
     refine ht_seq ?_
     refine ht_seqR hn (El := [_, _, _, _, _, (28, .v (.int .i64 s28)), (8, .v (.int .i64 s28))]) (init := [0, 1, 2, 3, 4]) (fin := [0, 1, 2, 3, 6]) (sps := [⟨[3], [], [5], [(.slot 28)]⟩, ⟨[5], [], [6], [(.slot 8)]⟩]) (es' := [(_, _), (_, _), (_, _), (_, _), (8, .v (.int .i64 s28))]) (by kernel_rfl) rfl rfl
      ⟨st_plain rfl (op_move _ _ _ _ rfl rfl),
      st_plain rfl (op_assign _ _ _ _ rfl rfl),
      trivial⟩ ?_
     refine pt_then ?_
     obtain ⟨v16, hv16, h⟩ := bind_some h
     obtain ⟨v17, hv17, h⟩ := bind_some h
     obtain ⟨v18, hv18, h⟩ := bind_some h
     obtain ⟨v19, hv19, h⟩ := bind_some h
     obtain ⟨v20, hv20, h⟩ := bind_some h
     obtain ⟨v21, hv21, h⟩ := bind_some h
     obtain ⟨v22, hv22, h⟩ := bind_some h
     refine ht_seqR hn (El := (_ :: _ :: _ :: _ :: _ :: (29, .same (.slot 6)) :: (30, .v (.int .i64 s4)) :: (31, .v (.int .i64 v16)) :: (32, .v (.int .i64 s28)) :: (33, .v (.int .i64 v17)) :: (34, .v (.int .u64 v14)) :: (35, .v (.int .i64 s28)) :: (36, .v (.int .i64 v18)) :: (37, .v (.int .u64 v19)) :: (38, .v (.int .u8 v20)) :: (39, .eref (.slot 6) (v21 * 1)) :: (6, .fl (.own 5) 1 (List.map (Value.int .u8) v22)) :: [])) (init := [0, 1, 2, 3, 4]) (fin := [0, 16, 2, 3]) (sps := [⟨[1], [], [5], [(.slot 29)]⟩, ⟨[0], [], [6], [(.slot 30)]⟩, ⟨[6], [], [7], [(.slot 31)]⟩, ⟨[4], [], [8], [(.slot 32)]⟩, ⟨[7, 8], [], [9], [(.slot 33)]⟩, ⟨[2], [], [10], [(.slot 34)]⟩, ⟨[4], [], [11], [(.slot 35)]⟩, ⟨[11], [], [12], [(.slot 36)]⟩, ⟨[10, 12], [], [13], [(.slot 37)]⟩, ⟨[13], [], [14], [(.slot 38)]⟩, ⟨[5, 1, 9], [], [15], [(.slot 39)]⟩, ⟨[15, 14], [1], [16], []⟩]) (es' := [(_, _), (6, .fl (.own 5) 1 (List.map (Value.int .u8) v22)), (_, _), (_, _)]) (by kernel_rfl) rfl rfl
      ⟨st_plain rfl (op_move _ _ _ _ rfl rfl),
      st_plain rfl (op_move _ _ _ _ rfl rfl),
      st_plain rfl (op_bin _ _ _ _ _ rfl rfl (ibind (f := Value.int .i64) (Option.some.inj hv16))),
      st_plain rfl (op_move _ _ _ _ rfl rfl),
      st_plain rfl (op_bin _ _ _ _ _ rfl rfl (ibind (f := Value.int .i64) (Option.some.inj hv17))),
      st_plain rfl (op_move _ _ _ _ rfl rfl),
      st_plain rfl (op_move _ _ _ _ rfl rfl),
      st_plain rfl (op_bin _ _ _ _ _ rfl rfl (ibind (f := Value.int .i64) (Option.some.inj hv18))),
      st_plain rfl (op_bin _ _ _ _ _ rfl rfl (shr_ok hv19)),
      st_plain rfl ((Option.some.inj hv20) ▸ op_conv _ _ _ Tryd.underlying81 Tryd.underlying5 rfl),
      st_plain rfl (op_ix _ _ _ _ _ _ _ _ Tryd.underlying22 sz5 (by decide) rfl rfl rfl (ix_ok hv21).1 (map_lt (ix_ok hv21).2) rfl),
      st_plain rfl (op_store_e _ _ _ _ _ _ _ _ sz5 rfl rfl rfl (by decide) (map_lt (ix_ok hv21).2) ((map_set (f := Value.int .u8) _ (ix_ok hv21).2).trans (congrArg (List.map _) (Option.some.inj hv22)))),
      trivial⟩ ?_
     refine pt_inb ?_
     refine pt_then ?_
     obtain ⟨v23, hv23, h⟩ := bind_some h
     refine ht_seqR hn (El := [_, _, _, _, (40, .v (.int .i64 v23)), (26, .v (.int .i64 v23))]) (init := [0, 1, 2, 3]) (fin := [0, 1, 2, 5]) (sps := [⟨[3], [], [4], [(.slot 40)]⟩, ⟨[4], [3], [5], [(.slot 26)]⟩]) (es' := [(_, _), (_, _), (_, _), (26, .v (.int .i64 v23))]) (by kernel_rfl) rfl rfl
      ⟨st_plain rfl (op_bin _ _ _ _ _ rfl rfl (ibind (f := Value.int .i64) (Option.some.inj hv23))),
      st_plain rfl (LOp.drop [_] (op_move _ _ _ _ rfl rfl)),
      trivial⟩ ?_
     exact pt_next _ (Option.some.inj h).symm rfl
    ·have h := cond_f hb37 h
     refine ht_exit ?_
     refine pt_x_then ?_
     refine pt_x_then ?_
     refine pt_x_in ?_
     refine pt_pick [1] (by kernel_rfl) (es' := [(_, _)]) rfl ?_
     exact hl32 _ (ho34 _ (Option.some.inj h).symm).symm
  ·intro u5 h hl6 hr7
   refine ht_seq ?_
   obtain ⟨v1, hv1, h⟩ := bind_some h
   obtain ⟨v2, hv2, h⟩ := bind_some h
   refine ht_seqR hn (El := [_, _, _, (9, .fl .shr 1 (List.map (Value.int .u8) rest)), (10, .v (.int .i64 (rest.length : Int))), (11, .v (.int .i64 v1)), (12, .v (.int .i64 v2)), (13, .v (.bool ((decide (64 < v2)))))]) (init := [0, 1, 2]) (fin := [0, 1, 2, 7]) (sps := [⟨[0], [], [3], [(.slot 9)]⟩, ⟨[3], [], [4], [(.slot 10)]⟩, ⟨[4], [], [5], [(.slot 11)]⟩, ⟨[5], [], [6], [(.slot 12)]⟩, ⟨[6], [], [7], [(.slot 13)]⟩]) (es' := [(_, _), (_, _), (_, _), (13, .v (.bool ((decide (64 < v2)))))]) (by kernel_rfl) rfl rfl
    ⟨st_plain rfl (op_move _ _ _ _ rfl rfl),
    st_plain rfl (op_len_fl _ _ _ Tryd.underlying22 rfl (by decide) (map_len _)),
    st_plain rfl (op_bin _ _ _ _ _ rfl rfl (ibind (f := Value.int .i64) (Option.some.inj hv1))),
    st_plain rfl (op_bin _ _ _ _ _ rfl rfl (ibind (f := Value.int .i64) (Option.some.inj hv2))),
    st_plain rfl (op_bin _ _ _ _ _ rfl rfl rfl),
    trivial⟩ ?_
   refine pt_then ?_
   refine ht_cond _ rfl (fun hb8 => ?_) (fun hb8 => ?_)
   ·have h := cond_t hb8 h
    refine ht_seqR hn (El := [_, _, _, _, (5, .v (.int .i64 128))]) (init := [0, 1, 2, 3]) (fin := [0, 1, 4]) (sps := [⟨[], [2], [4], [(.slot 5)]⟩]) (es' := [(_, _), (_, _), (5, .v (.int .i64 128))]) (by kernel_rfl) rfl rfl
     ⟨st_plain rfl (LOp.drop [_] (op_assign _ _ _ _ rfl rfl)),
     trivial⟩ ?_
    exact hl6 _ (Option.some.inj h).symm
   ·have h := cond_f hb8 h
    refine ht_skip ?_
    refine pt_pick [0, 1, 2] (by kernel_rfl) (es' := [(_, _), (_, _), (_, _)]) rfl ?_
    exact hl6 _ (Option.some.inj h).symm

set_option maxHeartbeats 1000000 in
theorem ok_digest_Sum (mx : Int) (b : (List Int)) (r : (List Int)) (h : Sh.digest_Sum b = some r) : FnG Tryd.prog (GL mx) 31 [.fl .shr 1 (List.map (Value.int .u8) b)] (.v (.agg (List.map (Value.int .u8) r).toArray)) := by
  unfold Sh.digest_Sum at h
  refine fn_okG Tryd.func31 rfl (Nat.le_of_ble_eq_true rfl) rfl rfl fun g0 hn hio => ?_
  refine ht_seq ?_
  refine ht_seqR hn (El := [_, _, (2, .arr 37 (List.map (Value.int .u8) ((List.replicate 16 (0 : Int)))))]) (init := [0, 1]) (fin := [0, 1, 2]) (sps := [⟨[], [], [2], [(.slot 2)]⟩]) (es' := [(_, _), (_, _), (2, .arr 37 (List.map (Value.int .u8) ((List.replicate 16 (0 : Int)))))]) (by kernel_rfl) rfl rfl
   ⟨st_plain rfl (op_alloc_arr _ za37),
   trivial⟩ ?_
  refine pt_then ?_
  refine ht_seq ?_
  obtain ⟨v1, hv1, h⟩ := bind_some h
  obtain ⟨v2, hv2, h⟩ := bind_some h
  refine ht_seqR hn (El := [_, _, _, (10, .v (.agg (List.map (Value.int .u32) ([1732584193, 4023233417, 2562383102, 271733878] : List Int)).toArray)), (3, .arr 74 (List.map (Value.int .u32) ((List.replicate 4 (0 : Int))))), (3, .arr 74 (List.map (Value.int .u32) ([1732584193, 4023233417, 2562383102, 271733878] : List Int)))]) (init := [0, 1, 2]) (fin := [0, 1, 2, 5]) (sps := [⟨[], [], [3], [(.slot 10)]⟩, ⟨[], [], [4], [(.slot 3)]⟩, ⟨[3], [4], [5], []⟩]) (es' := [(_, _), (_, _), (_, _), (3, .arr 74 (List.map (Value.int .u32) ([1732584193, 4023233417, 2562383102, 271733878] : List Int)))]) (by kernel_rfl) rfl rfl
   ⟨st_plain rfl (op_build_arr _ _ (.agg #[.int .u32 0, .int .u32 0, .int .u32 0, .int .u32 0]) (List.map (Value.int .u32) ([1732584193, 4023233417, 2562383102, 271733878] : List Int)) [(0, .int .u32 1732584193), (1, .int .u32 4023233417), (2, .int .u32 2562383102), (3, .int .u32 271733878)] Tryd.underlying74 sz49 zr74 (fun _ V w o a hv hes => by simp only [List.map_toArray, List.map_cons, List.map_nil]; try rfl) (litfill (by simp [Instr.fill, Value.cells]; rfl) (by simp))),
   st_plain rfl (op_alloc_arr _ za74),
   st_plain rfl (op_storeA_arr _ _ _ _ (sz74.trans (congrArg some (ln_len hv2))) rfl rfl (ln_ones (fun _ => rfl) _) ((ln_len (f := Value.int .u32) hv1).symm.trans (ln_len (f := Value.int .u32) hv2))),
   trivial⟩ ?_
  refine pt_then ?_
  refine ht_seq ?_
  obtain ⟨v3, hv3, h⟩ := bind_some h
  obtain ⟨v4, hv4, h⟩ := bind_some h
  refine ht_seqR hn (El := [_, _, _, _, (11, .fl .shr 1 (List.map (Value.int .u8) b)), (12, .v (.int .i64 (b.length : Int))), (13, .v (.int .i64 v3)), (14, .v (.int .i64 v4)), (4, .v (.int .i64 v4))]) (init := [0, 1, 2, 3]) (fin := [0, 1, 2, 3, 8]) (sps := [⟨[0], [], [4], [(.slot 11)]⟩, ⟨[4], [], [5], [(.slot 12)]⟩, ⟨[5], [], [6], [(.slot 13)]⟩, ⟨[6], [], [7], [(.slot 14)]⟩, ⟨[7], [], [8], [(.slot 4)]⟩]) (es' := [(_, _), (_, _), (_, _), (_, _), (4, .v (.int .i64 v4))]) (by kernel_rfl) rfl rfl
   ⟨st_plain rfl (op_move _ _ _ _ rfl rfl),
   st_plain rfl (op_len_fl _ _ _ Tryd.underlying22 rfl (by decide) (map_len _)),
   st_plain rfl (op_bin _ _ _ _ _ rfl rfl (quo_ok hv3)),
   st_plain rfl (op_bin _ _ _ _ _ rfl rfl (ibind (f := Value.int .i64) (Option.some.inj hv4))),
   st_plain rfl (op_assign _ _ _ _ rfl rfl),
   trivial⟩ ?_
  refine pt_then ?_
  refine ht_seq ?_
  refine ht_seq ?_
  refine ht_seqR hn (El := [_, _, _, _, _, (5, .v (.int .i64 0))]) (init := [0, 1, 2, 3, 4]) (fin := [0, 1, 2, 3, 4, 5]) (sps := [⟨[], [], [5], [(.slot 5)]⟩]) (es' := [(_, _), (_, _), (_, _), (_, _), (_, _), (5, .v (.int .i64 0))]) (by kernel_rfl) rfl rfl
   ⟨st_plain rfl (op_assign _ _ _ _ rfl rfl),
   trivial⟩ ?_
  refine pt_then ?_
  refine ht_loopS h (fun ((s16, s17) : (List Int) × Int) => [(0, .fl .shr 1 (List.map (Value.int .u8) b)), (62, .glob (GL mx)), (2, .arr 37 (List.map (Value.int .u8) ((List.replicate 16 (0 : Int))))), (3, .arr 74 (List.map (Value.int .u32) s16)), (4, .v (.int .i64 v4)), (5, .v (.int .i64 s17))]) (fun (s19 : (List Int)) => [(0, .fl .shr 1 (List.map (Value.int .u8) b)), (62, .glob (GL mx)), (2, .arr 37 (List.map (Value.int .u8) ((List.replicate 16 (0 : Int))))), (3, .arr 74 (List.map (Value.int .u32) s19)), (4, .v (.int .i64 v4))]) ?_ ?_
  ·rintro s19 h
   refine pt_then ?_
   refine ht_seq ?_
   obtain ⟨v27, hv27, h⟩ := bind_some h
   obtain ⟨v28, hv28, h⟩ := bind_some h
   refine ht_seqR hn (El := [_, _, _, _, _, (27, .fl .shr 1 (List.map (Value.int .u8) b)), (28, .v (.int .i64 v4)), (29, .fl .shr 1 (List.map (Value.int .u8) v27)), (30, .fl .shr 1 (List.map (Value.int .u8) b)), (31, .v (.int .i64 (b.length : Int))), (32, .fl (.own 5) 1 (List.map (Value.int .u8) v28)), (6, .fl (.own 5) 1 (List.map (Value.int .u8) v28))]) (init := [0, 1, 2, 3, 4]) (fin := [1, 2, 3, 11]) (sps := [⟨[0], [], [5], [(.slot 27)]⟩, ⟨[4], [], [6], [(.slot 28)]⟩, ⟨[5, 6], [], [7], [(.slot 29)]⟩, ⟨[0], [], [8], [(.slot 30)]⟩, ⟨[8], [], [9], [(.slot 31)]⟩, ⟨[7, 9], [], [10], [(.slot 32)]⟩, ⟨[], [10], [11], [(.slot 6)]⟩]) (es' := [(_, _), (_, _), (_, _), (6, .fl (.own 5) 1 (List.map (Value.int .u8) v28))]) (by kernel_rfl) rfl rfl
    ⟨st_plain rfl (op_move _ _ _ _ rfl rfl),
    st_plain rfl (op_move _ _ _ _ rfl rfl),
    st_plain rfl (op_sl _ _ _ v4 (b.length : Int) _ Tryd.underlying22 sz5 rfl rfl ⟨_, rfl⟩ rfl hv27),
    st_plain rfl (op_move _ _ _ _ rfl rfl),
    st_plain rfl (op_len_fl _ _ _ Tryd.underlying22 rfl (by decide) (map_len _)),
    st_plain rfl (op_call _ _ 44 _ _ rfl Tryd.call44 rfl (ok_digest_padded v27 (b.length : Int) _ hv28) rfl rfl),
    st_plain rfl (op_assign_take _ _ _ _ rfl),
    trivial⟩ ?_
   refine pt_then ?_
   refine ht_seq ?_
   refine ht_seq ?_
   refine ht_seqR hn (El := [_, _, _, _, (7, .v (.int .i64 0))]) (init := [0, 1, 2, 3]) (fin := [0, 1, 2, 3, 4]) (sps := [⟨[], [], [4], [(.slot 7)]⟩]) (es' := [(_, _), (_, _), (_, _), (_, _), (7, .v (.int .i64 0))]) (by kernel_rfl) rfl rfl
    ⟨st_plain rfl (op_assign _ _ _ _ rfl rfl),
    trivial⟩ ?_
   refine pt_then ?_
   refine ht_frz 3 hio (es' := [(62, .glob (GL mx)), (2, .arr 37 (List.map (Value.int .u8) ((List.replicate 16 (0 : Int))))), (3, .arr 74 (List.map (Value.int .u32) s19)), (6, .fl .ro 1 (List.map (Value.int .u8) v28)), (7, .v (.int .i64 0))]) rfl ?_
   refine ht_loopS h (fun ((s41, s42, s43) : (List Int) × (List Int) × Int) => [(62, .glob (GL mx)), (2, .arr 37 (List.map (Value.int .u8) ((List.replicate 16 (0 : Int))))), (3, .arr 74 (List.map (Value.int .u32) s41)), (6, .fl .ro 1 (List.map (Value.int .u8) s42)), (7, .v (.int .i64 s43))]) (fun (s45 : (List Int)) => [(62, .glob (GL mx)), (2, .arr 37 (List.map (Value.int .u8) ((List.replicate 16 (0 : Int))))), (3, .arr 74 (List.map (Value.int .u32) s45))]) ?_ ?_
   ·rintro s45 h
    refine pt_then ?_
    refine ht_seq ?_
    refine ht_seqR hn (El := [_, _, _, (8, .arr 37 (List.map (Value.int .u8) ((List.replicate 16 (0 : Int)))))]) (init := [0, 1, 2]) (fin := [0, 1, 2, 3]) (sps := [⟨[], [], [3], [(.slot 8)]⟩]) (es' := [(_, _), (_, _), (_, _), (8, .arr 37 (List.map (Value.int .u8) ((List.replicate 16 (0 : Int)))))]) (by kernel_rfl) rfl rfl
     ⟨st_plain rfl (op_alloc_arr _ za37),
     trivial⟩ ?_
    refine pt_then ?_
    refine ht_seq ?_
    refine ht_seq ?_
    refine ht_seqR hn (El := [_, _, _, _, (46, .v (.int .i64 0))]) (init := [0, 1, 2, 3]) (fin := [0, 1, 2, 3, 4]) (sps := [⟨[], [], [4], [(.slot 46)]⟩]) (es' := [(_, _), (_, _), (_, _), (_, _), (46, .v (.int .i64 0))]) (by kernel_rfl) rfl rfl
     ⟨st_plain rfl (op_move _ _ _ _ rfl rfl),
     trivial⟩ ?_
    refine pt_then ?_
    refine ht_loopS h (fun ((s67, s68) : (List Int) × Int) => [(62, .glob (GL mx)), (2, .arr 37 (List.map (Value.int .u8) ((List.replicate 16 (0 : Int))))), (3, .arr 74 (List.map (Value.int .u32) s45)), (8, .arr 37 (List.map (Value.int .u8) s67)), (46, .v (.int .i64 s68))]) (fun (s70 : (List Int)) => [(62, .glob (GL mx)), (2, .arr 37 (List.map (Value.int .u8) ((List.replicate 16 (0 : Int))))), (8, .arr 37 (List.map (Value.int .u8) s70))]) ?_ ?_
    ·rintro s70 h
     refine pt_then ?_
     refine ht_seq ?_
     obtain ⟨v78, hv78, h⟩ := bind_some h
     obtain ⟨v79, hv79, h⟩ := bind_some h
     obtain ⟨v80, hv80, h⟩ := bind_some h
     refine ht_seqR hn (El := [_, _, _, (61, .v (.agg (List.map (Value.int .u8) s70).toArray)), (2, .arr 37 (List.map (Value.int .u8) s70))]) (init := [0, 1, 2]) (fin := [0, 4]) (sps := [⟨[2], [], [3], [(.slot 61)]⟩, ⟨[3], [1], [4], []⟩]) (es' := [(_, _), (2, .arr 37 (List.map (Value.int .u8) s70))]) (by kernel_rfl) rfl rfl
      ⟨st_plain rfl (op_loadA_arr _ _ _ _ Tryd.underlying37 rfl (sz37.trans (congrArg some (ln_len hv78))) rfl rfl),
      st_plain rfl (op_storeA_arr _ _ _ _ (sz37.trans (congrArg some (ln_len hv80))) rfl rfl (ln_ones (fun _ => rfl) _) ((ln_len (f := Value.int .u8) hv79).symm.trans (ln_len (f := Value.int .u8) hv80))),
      trivial⟩ ?_
     refine pt_then ?_
     refine ht_ret ?_
     obtain ⟨v81, hv81, h⟩ := bind_some h
     refine pt_pick [1] (by kernel_rfl) (es' := [(_, _)]) rfl ?_
     obtain rfl := Option.some.inj h
     exact pt_ret hio rfl (.cellR _ _ _ _ Tryd.underlying37 rfl (sz37.trans (congrArg some (ln_len hv81))) .nil) rfl rfl
    ·rintro u71 hl72 hr73 ⟨s67, s68⟩ rr76 h ho74
     refine ht_seq ?_
     refine ht_seqR hn (El := [_, _, _, _, _, (47, .v (.bool ((decide (s68 < 16)))))]) (init := [0, 1, 2, 3, 4]) (fin := [0, 1, 2, 3, 4, 5]) (sps := [⟨[4], [], [5], [(.slot 47)]⟩]) (es' := [(_, _), (_, _), (_, _), (_, _), (_, _), (47, .v (.bool ((decide (s68 < 16)))))]) (by kernel_rfl) rfl rfl
      ⟨st_plain rfl (op_bin _ _ _ _ _ rfl rfl rfl),
      trivial⟩ ?_
     refine pt_then ?_
     refine ht_seq ?_
     refine ht_cond _ rfl (fun hb77 => ?_) (fun hb77 => ?_)
     ·have h := cond_t hb77 h
      refine ht_skip ?_
      refine pt_then ?_
      refine ht_seq ?_
      refine ht_block ?_
      refine ht_seq ?_
      refine ht_seqR hn (El := [_, _, _, _, _, _, (48, .v (.int .i64 s68)), (9, .v (.int .i64 s68))]) (init := [0, 1, 2, 3, 4, 5]) (fin := [0, 1, 2, 3, 4, 7]) (sps := [⟨[4], [], [6], [(.slot 48)]⟩, ⟨[6], [], [7], [(.slot 9)]⟩]) (es' := [(_, _), (_, _), (_, _), (_, _), (_, _), (9, .v (.int .i64 s68))]) (by kernel_rfl) rfl rfl
       ⟨st_plain rfl (op_move _ _ _ _ rfl rfl),
       st_plain rfl (op_assign _ _ _ _ rfl rfl),
       trivial⟩ ?_
      refine pt_then ?_
      obtain ⟨v54, hv54, h⟩ := bind_some h
      obtain ⟨v55, hv55, h⟩ := bind_some h
      obtain ⟨v56, hv56, h⟩ := bind_some h
      obtain ⟨v57, hv57, h⟩ := bind_some h
      obtain ⟨v58, hv58, h⟩ := bind_some h
      obtain ⟨v59, hv59, h⟩ := bind_some h
      obtain ⟨v60, hv60, h⟩ := bind_some h
      obtain ⟨v61, hv61, h⟩ := bind_some h
      obtain ⟨v62, hv62, h⟩ := bind_some h
      refine ht_seqR hn (El := (_ :: _ :: _ :: _ :: _ :: _ :: (49, .v (.int .i64 s68)) :: (50, .v (.int .i64 s68)) :: (51, .v (.int .i64 v54)) :: (52, .ptr 3 v55) :: (53, .v (.int .u32 v56)) :: (54, .v (.int .i64 s68)) :: (55, .v (.int .i64 v57)) :: (56, .v (.int .i64 v58)) :: (57, .v (.int .u32 v59)) :: (58, .v (.int .u8 v60)) :: (59, .ptr 8 v61) :: (8, .arr 37 (List.map (Value.int .u8) v62)) :: [])) (init := [0, 1, 2, 3, 4, 5]) (fin := [0, 1, 2, 17, 4]) (sps := [⟨[5], [], [6], [(.slot 49)]⟩, ⟨[5], [], [7], [(.slot 50)]⟩, ⟨[7], [], [8], [(.slot 51)]⟩, ⟨[2, 8], [], [9], [(.slot 52)]⟩, ⟨[9, 2], [], [10], [(.slot 53)]⟩, ⟨[5], [], [11], [(.slot 54)]⟩, ⟨[11], [], [12], [(.slot 55)]⟩, ⟨[12], [], [13], [(.slot 56)]⟩, ⟨[10, 13], [], [14], [(.slot 57)]⟩, ⟨[14], [], [15], [(.slot 58)]⟩, ⟨[3, 6], [], [16], [(.slot 59)]⟩, ⟨[16, 15], [3], [17], []⟩]) (es' := [(_, _), (_, _), (_, _), (8, .arr 37 (List.map (Value.int .u8) v62)), (_, _)]) (by kernel_rfl) rfl rfl
       ⟨st_plain rfl (op_move _ _ _ _ rfl rfl),
       st_plain rfl (op_move _ _ _ _ rfl rfl),
       st_plain rfl (op_bin _ _ _ _ _ rfl rfl (quo_ok hv54)),
       st_plain rfl (op_ix_arr _ _ _ _ 4 3 _ Tryd.underlying74 sz49 rfl rfl (ix_ok hv55).1 (ix_ok hv55).2 (by decide)),
       st_plain rfl (op_load_arr _ _ _ _ _ _ Tryd.underlying49 rfl rfl rfl (map_get1 hv56)),
       st_plain rfl (op_move _ _ _ _ rfl rfl),
       st_plain rfl (op_bin _ _ _ _ _ rfl rfl (rem_ok hv57)),
       st_plain rfl (op_bin _ _ _ _ _ rfl rfl (ibind (f := Value.int .i64) (Option.some.inj hv58))),
       st_plain rfl (op_bin _ _ _ _ _ rfl rfl (shr_ok hv59)),
       st_plain rfl ((Option.some.inj hv60) ▸ op_conv _ _ _ Tryd.underlying49 Tryd.underlying5 rfl),
       st_plain rfl (op_ix_arr _ _ _ _ 16 8 _ Tryd.underlying37 sz5 rfl rfl (ix_ok hv61).1 (ix_ok hv61).2 (by decide)),
       st_plain rfl (op_store_arr _ _ _ _ _ _ sz5 rfl rfl rfl rfl (set_lt hv62) (set_eq (f := Value.int .u8) hv62)),
       trivial⟩ ?_
      refine pt_inb ?_
      refine pt_then ?_
      obtain ⟨v63, hv63, h⟩ := bind_some h
      refine ht_seqR hn (El := [_, _, _, _, _, (60, .v (.int .i64 v63)), (46, .v (.int .i64 v63))]) (init := [0, 1, 2, 3, 4]) (fin := [0, 1, 2, 3, 6]) (sps := [⟨[4], [], [5], [(.slot 60)]⟩, ⟨[5], [4], [6], [(.slot 46)]⟩]) (es' := [(_, _), (_, _), (_, _), (_, _), (46, .v (.int .i64 v63))]) (by kernel_rfl) rfl rfl
       ⟨st_plain rfl (op_bin _ _ _ _ _ rfl rfl (ibind (f := Value.int .i64) (Option.some.inj hv63))),
       st_plain rfl (LOp.drop [_] (op_move _ _ _ _ rfl rfl)),
       trivial⟩ ?_
      exact pt_next _ (Option.some.inj h).symm rfl
     ·have h := cond_f hb77 h
      refine ht_exit ?_
      refine pt_x_then ?_
      refine pt_x_then ?_
      refine pt_x_in ?_
      refine pt_pick [0, 1, 3] (by kernel_rfl) (es' := [(_, _), (_, _), (_, _)]) rfl ?_
      exact hl72 _ (ho74 _ (Option.some.inj h).symm).symm
   ·rintro u46 hl47 hr48 ⟨s41, s42, s43⟩ rr51 h ho49
    refine ht_seq ?_
    refine ht_seq ?_
    refine ht_seqR hn (El := [_, _, _, _, _, (33, .v (.int .i64 s43)), (34, .fl .ro 1 (List.map (Value.int .u8) s42)), (35, .v (.int .i64 (s42.length : Int))), (36, .v (.bool ((decide (s43 < (s42.length : Int))))))]) (init := [0, 1, 2, 3, 4]) (fin := [0, 1, 2, 3, 4, 8]) (sps := [⟨[4], [], [5], [(.slot 33)]⟩, ⟨[3], [], [6], [(.slot 34)]⟩, ⟨[6], [], [7], [(.slot 35)]⟩, ⟨[5, 7], [], [8], [(.slot 36)]⟩]) (es' := [(_, _), (_, _), (_, _), (_, _), (_, _), (36, .v (.bool ((decide (s43 < (s42.length : Int))))))]) (by kernel_rfl) rfl rfl
     ⟨st_plain rfl (op_move _ _ _ _ rfl rfl),
     st_plain rfl (op_move _ _ _ _ rfl rfl),
     st_plain rfl (op_len_fl _ _ _ Tryd.underlying22 rfl (by decide) (map_len _)),
     st_plain rfl (op_bin _ _ _ _ _ rfl rfl rfl),
     trivial⟩ ?_
    refine pt_then ?_
    refine ht_cond _ rfl (fun hb52 => ?_) (fun hb52 => ?_)
    ·have h := cond_t hb52 h
     refine ht_skip ?_
     refine pt_then ?_
     refine ht_seq ?_
     refine ht_block ?_
     obtain ⟨v30, hv30, h⟩ := bind_some h
     obtain ⟨v31, hv31, h⟩ := bind_some h
     obtain ⟨v32, hv32, h⟩ := bind_some h
     obtain ⟨v33, hv33, h⟩ := bind_some h
     obtain ⟨v34, hv34, h⟩ := bind_some h
     obtain ⟨v35, hv35, h⟩ := bind_some h
     refine ht_anyR (by kernel_rfl) hn (El := [_, _, _, _, _, _, (39, .v (.agg (List.map (Value.int .u32) s41).toArray)), (40, .fl .ro 1 (List.map (Value.int .u8) s42)), (41, .v (.int .i64 s43)), (42, .v (.int .i64 s43)), (43, .v (.int .i64 v31)), (44, .fl .ro 1 (List.map (Value.int .u8) v32)), (45, .v (.agg (List.map (Value.int .u32) v33).toArray)), (3, .arr 74 (List.map (Value.int .u32) v33))]) (init := [0, 1, 2, 3, 4, 5]) (fin := [0, 1, 13, 3, 4]) (sps := [⟨[2], [], [6], [(.slot 39)]⟩, ⟨[3], [], [7], [(.slot 40)]⟩, ⟨[4], [], [8], [(.slot 41)]⟩, ⟨[4], [], [9], [(.slot 42)]⟩, ⟨[9], [], [10], [(.slot 43)]⟩, ⟨[7, 8, 10], [], [11], [(.slot 44)]⟩, ⟨[6, 11, 0], [], [12], [(.slot 45)]⟩, ⟨[12], [2], [13], []⟩]) (es' := [(_, _), (_, _), (3, .arr 74 (List.map (Value.int .u32) v33)), (_, _), (_, _)]) (by kernel_rfl) rfl rfl
      ⟨st_plain rfl (op_loadA_arr _ _ _ _ Tryd.underlying74 rfl (sz74.trans (congrArg some (ln_len hv30))) rfl rfl),
      st_plain rfl (op_move _ _ _ _ rfl rfl),
      st_plain rfl (op_move _ _ _ _ rfl rfl),
      st_plain rfl (op_move _ _ _ _ rfl rfl),
      st_plain rfl (op_bin _ _ _ _ _ rfl rfl (ibind (f := Value.int .i64) (Option.some.inj hv31))),
      st_plain rfl (op_sl _ _ _ s43 v31 _ Tryd.underlying22 sz5 rfl rfl ⟨_, rfl⟩ ⟨_, rfl⟩ hv32),
      st_plain rfl (op_callG _ _ 62 43 _ _ rfl Tryd.call43 rfl rfl (fun _ h => h) (ok_digest_state_block mx s41 v32 _ hv33) rfl rfl),
      st_plain rfl (op_storeA_arr _ _ _ _ (sz74.trans (congrArg some (ln_len hv35))) rfl rfl (ln_ones (fun _ => rfl) _) ((ln_len (f := Value.int .u32) hv34).symm.trans (ln_len (f := Value.int .u32) hv35))),
      trivial⟩ ?_
     refine pt_inb ?_
     refine pt_then ?_
     obtain ⟨v36, hv36, h⟩ := bind_some h
     refine ht_seqR hn (El := [_, _, _, _, _, (37, .v (.int .i64 s43)), (38, .v (.int .i64 v36)), (7, .v (.int .i64 v36))]) (init := [0, 1, 2, 3, 4]) (fin := [0, 1, 2, 3, 7]) (sps := [⟨[4], [], [5], [(.slot 37)]⟩, ⟨[5], [], [6], [(.slot 38)]⟩, ⟨[6], [4], [7], [(.slot 7)]⟩]) (es' := [(_, _), (_, _), (_, _), (_, _), (7, .v (.int .i64 v36))]) (by kernel_rfl) rfl rfl
      ⟨st_plain rfl (op_move _ _ _ _ rfl rfl),
      st_plain rfl (op_bin _ _ _ _ _ rfl rfl (ibind (f := Value.int .i64) (Option.some.inj hv36))),
      st_plain rfl (LOp.drop [_] (op_assign _ _ _ _ rfl rfl)),
      trivial⟩ ?_
     exact pt_next _ (Option.some.inj h).symm rfl
    ·have h := cond_f hb52 h
     refine ht_exit ?_
     refine pt_x_then ?_
     refine pt_x_then ?_
     refine pt_x_in ?_
     refine pt_pick [0, 1, 2] (by kernel_rfl) (es' := [(_, _), (_, _), (_, _)]) rfl ?_
     exact hl47 _ (ho49 _ (Option.some.inj h).symm).symm
  ·rintro u20 hl21 hr22 ⟨s16, s17⟩ rr25 h ho23
   refine ht_seq ?_
   refine ht_seq ?_
   refine ht_seqR hn (El := [_, _, _, _, _, _, (15, .v (.int .i64 s17)), (16, .v (.int .i64 v4)), (17, .v (.bool ((decide (s17 < v4)))))]) (init := [0, 1, 2, 3, 4, 5]) (fin := [0, 1, 2, 3, 4, 5, 8]) (sps := [⟨[5], [], [6], [(.slot 15)]⟩, ⟨[4], [], [7], [(.slot 16)]⟩, ⟨[6, 7], [], [8], [(.slot 17)]⟩]) (es' := [(_, _), (_, _), (_, _), (_, _), (_, _), (_, _), (17, .v (.bool ((decide (s17 < v4)))))]) (by kernel_rfl) rfl rfl
    ⟨st_plain rfl (op_move _ _ _ _ rfl rfl),
    st_plain rfl (op_move _ _ _ _ rfl rfl),
    st_plain rfl (op_bin _ _ _ _ _ rfl rfl rfl),
    trivial⟩ ?_
   refine pt_then ?_
   refine ht_cond _ rfl (fun hb26 => ?_) (fun hb26 => ?_)
   ·have h := cond_t hb26 h
    refine ht_skip ?_
    refine pt_then ?_
    refine ht_seq ?_
    refine ht_block ?_
    obtain ⟨v6, hv6, h⟩ := bind_some h
    obtain ⟨v7, hv7, h⟩ := bind_some h
    obtain ⟨v8, hv8, h⟩ := bind_some h
    obtain ⟨v9, hv9, h⟩ := bind_some h
    obtain ⟨v10, hv10, h⟩ := bind_some h
    obtain ⟨v11, hv11, h⟩ := bind_some h
    refine ht_anyR (by kernel_rfl) hn (El := (_ :: _ :: _ :: _ :: _ :: _ :: _ :: (20, .v (.agg (List.map (Value.int .u32) s16).toArray)) :: (21, .fl .shr 1 (List.map (Value.int .u8) b)) :: (22, .v (.int .i64 s17)) :: (23, .v (.int .i64 s17)) :: (24, .v (.int .i64 v7)) :: (25, .fl .shr 1 (List.map (Value.int .u8) v8)) :: (26, .v (.agg (List.map (Value.int .u32) v9).toArray)) :: (3, .arr 74 (List.map (Value.int .u32) v9)) :: [])) (init := [0, 1, 2, 3, 4, 5, 6]) (fin := [0, 1, 2, 14, 4, 5]) (sps := [⟨[3], [], [7], [(.slot 20)]⟩, ⟨[0], [], [8], [(.slot 21)]⟩, ⟨[5], [], [9], [(.slot 22)]⟩, ⟨[5], [], [10], [(.slot 23)]⟩, ⟨[10], [], [11], [(.slot 24)]⟩, ⟨[8, 9, 11], [], [12], [(.slot 25)]⟩, ⟨[7, 12, 1], [], [13], [(.slot 26)]⟩, ⟨[13], [3], [14], []⟩]) (es' := [(_, _), (_, _), (_, _), (3, .arr 74 (List.map (Value.int .u32) v9)), (_, _), (_, _)]) (by kernel_rfl) rfl rfl
     ⟨st_plain rfl (op_loadA_arr _ _ _ _ Tryd.underlying74 rfl (sz74.trans (congrArg some (ln_len hv6))) rfl rfl),
     st_plain rfl (op_move _ _ _ _ rfl rfl),
     st_plain rfl (op_move _ _ _ _ rfl rfl),
     st_plain rfl (op_move _ _ _ _ rfl rfl),
     st_plain rfl (op_bin _ _ _ _ _ rfl rfl (ibind (f := Value.int .i64) (Option.some.inj hv7))),
     st_plain rfl (op_sl _ _ _ s17 v7 _ Tryd.underlying22 sz5 rfl rfl ⟨_, rfl⟩ ⟨_, rfl⟩ hv8),
     st_plain rfl (op_callG _ _ 62 43 _ _ rfl Tryd.call43 rfl rfl (fun _ h => h) (ok_digest_state_block mx s16 v8 _ hv9) rfl rfl),
     st_plain rfl (op_storeA_arr _ _ _ _ (sz74.trans (congrArg some (ln_len hv11))) rfl rfl (ln_ones (fun _ => rfl) _) ((ln_len (f := Value.int .u32) hv10).symm.trans (ln_len (f := Value.int .u32) hv11))),
     trivial⟩ ?_
    refine pt_inb ?_
    refine pt_then ?_
    obtain ⟨v12, hv12, h⟩ := bind_some h
    refine ht_seqR hn (El := [_, _, _, _, _, _, (18, .v (.int .i64 s17)), (19, .v (.int .i64 v12)), (5, .v (.int .i64 v12))]) (init := [0, 1, 2, 3, 4, 5]) (fin := [0, 1, 2, 3, 4, 8]) (sps := [⟨[5], [], [6], [(.slot 18)]⟩, ⟨[6], [], [7], [(.slot 19)]⟩, ⟨[7], [5], [8], [(.slot 5)]⟩]) (es' := [(_, _), (_, _), (_, _), (_, _), (_, _), (5, .v (.int .i64 v12))]) (by kernel_rfl) rfl rfl
     ⟨st_plain rfl (op_move _ _ _ _ rfl rfl),
     st_plain rfl (op_bin _ _ _ _ _ rfl rfl (ibind (f := Value.int .i64) (Option.some.inj hv12))),
     st_plain rfl (LOp.drop [_] (op_assign _ _ _ _ rfl rfl)),
     trivial⟩ ?_
    exact pt_next _ (Option.some.inj h).symm rfl
   ·have h := cond_f hb26 h
    refine ht_exit ?_
    refine pt_x_then ?_
    refine pt_x_then ?_
    refine pt_x_in ?_
    refine pt_pick [0, 1, 2, 3, 4] (by kernel_rfl) (es' := [(_, _), (_, _), (_, _), (_, _), (_, _)]) rfl ?_
    exact hl21 _ (ho23 _ (Option.some.inj h).symm).symm

set_option maxHeartbeats 1000000 in
theorem ok_digest_Keyed (mx : Int) (key : (List Int)) (text : (List Int)) (r : (List Int)) (h : Sh.digest_Keyed key text = some r) : FnG Tryd.prog (GL mx) 20 [.fl .shr 1 (List.map (Value.int .u8) key), .fl .shr 1 (List.map (Value.int .u8) text)] (.v (.agg (List.map (Value.int .u8) r).toArray)) := by
  unfold Sh.digest_Keyed at h
  refine fn_okG Tryd.func20 rfl (Nat.le_of_ble_eq_true rfl) rfl rfl fun g0 hn hio => ?_
  refine ht_seq ?_
  refine ht_seqR hn (El := [_, _, _, (4, .arr 37 (List.map (Value.int .u8) ((List.replicate 16 (0 : Int)))))]) (init := [0, 1, 2]) (fin := [0, 1, 2, 3]) (sps := [⟨[], [], [3], [(.slot 4)]⟩]) (es' := [(_, _), (_, _), (_, _), (4, .arr 37 (List.map (Value.int .u8) ((List.replicate 16 (0 : Int)))))]) (by kernel_rfl) rfl rfl
   ⟨st_plain rfl (op_alloc_arr _ za37),
   trivial⟩ ?_
  refine pt_then ?_
  refine ht_seq ?_
  refine ht_seqR hn (El := [_, _, _, _, (5, .arr 57 (List.map (Value.int .u8) ((List.replicate 64 (0 : Int)))))]) (init := [0, 1, 2, 3]) (fin := [0, 1, 2, 3, 4]) (sps := [⟨[], [], [4], [(.slot 5)]⟩]) (es' := [(_, _), (_, _), (_, _), (_, _), (5, .arr 57 (List.map (Value.int .u8) ((List.replicate 64 (0 : Int)))))]) (by kernel_rfl) rfl rfl
   ⟨st_plain rfl (op_alloc_arr _ za57),
   trivial⟩ ?_
  refine pt_then ?_
  refine ht_seq ?_
  refine ht_joinS h (fun (s8 : (List Int)) => [(1, .fl .shr 1 (List.map (Value.int .u8) text)), (51, .glob (GL mx)), (4, .arr 37 (List.map (Value.int .u8) ((List.replicate 16 (0 : Int))))), (5, .arr 57 (List.map (Value.int .u8) s8))]) ?_ ?_
  ·rintro s8 h
   refine pt_then ?_
   refine ht_seq ?_
   obtain ⟨v13, hv13, h⟩ := bind_some h
   obtain ⟨v14, hv14, h⟩ := bind_some h
   refine ht_seqR hn (El := [_, _, _, _, (23, .fl .shr 1 (List.map (Value.int .u8) text)), (24, .v (.int .i64 (text.length : Int))), (25, .v (.int .i64 v13)), (26, .fl (.own 5) 1 (List.map (Value.int .u8) ([] : List Int))), (7, .fl (.own 5) 1 (List.map (Value.int .u8) ([] : List Int)))]) (init := [0, 1, 2, 3]) (fin := [0, 1, 2, 3, 8]) (sps := [⟨[0], [], [4], [(.slot 23)]⟩, ⟨[4], [], [5], [(.slot 24)]⟩, ⟨[5], [], [6], [(.slot 25)]⟩, ⟨[6], [], [7], [(.slot 26)]⟩, ⟨[], [7], [8], [(.slot 7)]⟩]) (es' := [(_, _), (_, _), (_, _), (_, _), (7, .fl (.own 5) 1 (List.map (Value.int .u8) ([] : List Int)))]) (by kernel_rfl) rfl rfl
    ⟨st_plain rfl (op_move _ _ _ _ rfl rfl),
    st_plain rfl (op_len_fl _ _ _ Tryd.underlying22 rfl (by decide) (map_len _)),
    st_plain rfl (op_bin _ _ _ _ _ rfl rfl (ibind (f := Value.int .i64) (Option.some.inj hv13))),
    st_plain rfl (op_mk0 _ _ _ _ el22 (by decide) rfl rfl hv14),
    st_plain rfl (op_assign_take _ _ _ _ rfl),
    trivial⟩ ?_
   refine pt_then ?_
   refine ht_seq ?_
   obtain ⟨v15, hv15, h⟩ := bind_some h
   refine ht_seqR hn (El := [_, _, _, _, _, (27, .fl (.own 5) 1 (List.map (Value.int .u8) ([] : List Int))), (8, .fl (.own 5) 1 (List.map (Value.int .u8) ([] : List Int)))]) (init := [0, 1, 2, 3, 4]) (fin := [0, 1, 2, 3, 4, 6]) (sps := [⟨[], [], [5], [(.slot 27)]⟩, ⟨[], [5], [6], [(.slot 8)]⟩]) (es' := [(_, _), (_, _), (_, _), (_, _), (_, _), (8, .fl (.own 5) 1 (List.map (Value.int .u8) ([] : List Int)))]) (by kernel_rfl) rfl rfl
    ⟨st_plain rfl (op_mk0 _ _ _ _ el22 (by decide) rfl rfl hv15),
    st_plain rfl (op_assign_take _ _ _ _ rfl),
    trivial⟩ ?_
   refine pt_then ?_
   refine ht_seq ?_
   refine ht_seq ?_
   obtain ⟨v16, hv16, h⟩ := bind_some h
   refine ht_seqR hn (El := [_, _, _, _, _, _, (28, .v (.agg (List.map (Value.int .u8) s8).toArray)), (29, .v (.int .i64 0))]) (init := [0, 1, 2, 3, 4, 5]) (fin := [0, 1, 2, 4, 5, 6, 7]) (sps := [⟨[3], [], [6], [(.slot 28)]⟩, ⟨[], [], [7], [(.slot 29)]⟩]) (es' := [(_, _), (_, _), (_, _), (_, _), (_, _), (28, .v (.agg (List.map (Value.int .u8) s8).toArray)), (29, .v (.int .i64 0))]) (by kernel_rfl) rfl rfl
    ⟨st_plain rfl (op_loadA_arr _ _ _ _ Tryd.underlying57 rfl (sz57.trans (congrArg some (ln_len hv16))) rfl rfl),
    st_plain rfl (op_move _ _ _ _ rfl rfl),
    trivial⟩ ?_
   refine pt_then ?_
   refine ht_loopS h (fun ((s29, s30, s31) : (List Int) × (List Int) × Int) => [(1, .fl .shr 1 (List.map (Value.int .u8) text)), (51, .glob (GL mx)), (4, .arr 37 (List.map (Value.int .u8) ((List.replicate 16 (0 : Int))))), (7, .fl (.own 5) 1 (List.map (Value.int .u8) s29)), (8, .fl (.own 5) 1 (List.map (Value.int .u8) s30)), (28, .v (.agg (List.map (Value.int .u8) s8).toArray)), (29, .v (.int .i64 s31))]) (fun ((s33, s34) : (List Int) × (List Int)) => [(1, .fl .shr 1 (List.map (Value.int .u8) text)), (51, .glob (GL mx)), (4, .arr 37 (List.map (Value.int .u8) ((List.replicate 16 (0 : Int))))), (7, .fl (.own 5) 1 (List.map (Value.int .u8) s33)), (8, .fl (.own 5) 1 (List.map (Value.int .u8) s34))]) ?_ ?_
   ·rintro ⟨s33, s34⟩ h
    refine pt_then ?_
    refine ht_seq ?_
    obtain ⟨v42, hv42, h⟩ := bind_some h
    obtain ⟨v43, hv43, h⟩ := bind_some h
    obtain ⟨v44, hv44, h⟩ := bind_some h
    obtain ⟨v45, hv45, h⟩ := bind_some h
    refine ht_seqR hn (El := [_, _, _, _, _, (43, .fl (.own 5) 1 (List.map (Value.int .u8) s33)), (44, .fl .shr 1 (List.map (Value.int .u8) text)), (45, .fl (.own 5) 1 (List.map (Value.int .u8) v42)), (43, .any), (46, .v (.agg (List.map (Value.int .u8) v43).toArray)), (11, .arr 37 (List.map (Value.int .u8) ((List.replicate 16 (0 : Int))))), (11, .arr 37 (List.map (Value.int .u8) v43))]) (init := [0, 1, 2, 3, 4]) (fin := [1, 2, 4, 11]) (sps := [⟨[], [3], [5], [(.slot 43)]⟩, ⟨[0], [], [6], [(.slot 44)]⟩, ⟨[6], [5], [8, 7], [(.slot 45)]⟩, ⟨[7, 1], [], [9], [(.slot 46)]⟩, ⟨[], [], [10], [(.slot 11)]⟩, ⟨[9], [10], [11], []⟩]) (es' := [(_, _), (_, _), (_, _), (11, .arr 37 (List.map (Value.int .u8) v43))]) (by kernel_rfl) rfl rfl
     ⟨st_plain rfl (op_move_take _ _ _ _ rfl),
     st_plain rfl (op_move _ _ _ _ rfl rfl),
     st_plain rfl (op_app _ _ _ _ _ el22 rfl rfl (map_len _) (map_len _) hv42 ((List.map_append).symm.trans (congrArg (List.map _) (app_eq hv42)))),
     st_plain rfl (op_callG _ _ 51 31 _ _ rfl Tryd.call31 rfl rfl (fun _ h => h) (ok_digest_Sum mx v42 _ hv43) rfl rfl),
     st_plain rfl (op_alloc_arr _ za37),
     st_plain rfl (op_storeA_arr _ _ _ _ (sz37.trans (congrArg some (ln_len hv45))) rfl rfl (ln_ones (fun _ => rfl) _) ((ln_len (f := Value.int .u8) hv44).symm.trans (ln_len (f := Value.int .u8) hv45))),
     trivial⟩ ?_
    refine pt_then ?_
    refine ht_seq ?_
    obtain ⟨v46, hv46, h⟩ := bind_some h
    obtain ⟨v47, hv47, h⟩ := bind_some h
    obtain ⟨v48, hv48, h⟩ := bind_some h
    obtain ⟨v49, hv49, h⟩ := bind_some h
    obtain ⟨v50, hv50, h⟩ := bind_some h
    refine ht_seqR hn (El := [_, _, _, _, (47, .fl (.own 5) 1 (List.map (Value.int .u8) s34)), (48, .fl .ro 1 (List.map (Value.int .u8) v43)), (11, .any), (49, .fl (.own 5) 1 (List.map (Value.int .u8) v47)), (47, .any), (50, .v (.agg (List.map (Value.int .u8) v48).toArray)), (4, .arr 37 (List.map (Value.int .u8) v48))]) (init := [0, 1, 2, 3]) (fin := [0, 10]) (sps := [⟨[], [2], [4], [(.slot 47)]⟩, ⟨[], [3], [6, 5], [(.slot 48)]⟩, ⟨[5], [4], [8, 7], [(.slot 49)]⟩, ⟨[7, 0], [], [9], [(.slot 50)]⟩, ⟨[9], [1], [10], []⟩]) (es' := [(_, _), (4, .arr 37 (List.map (Value.int .u8) v48))]) (by kernel_rfl) rfl rfl
     ⟨st_plain rfl (op_move_take _ _ _ _ rfl),
     st_plain rfl (op_slice_frz _ _ 11 16 _ Tryd.underlying37 sz5 rfl (ln_len hv46).symm (ln_ones (fun _ => rfl) _)),
     st_plain rfl (op_app _ _ _ _ _ el22 rfl rfl (map_len _) (map_len _) hv47 ((List.map_append).symm.trans (congrArg (List.map _) (app_eq hv47)))),
     st_plain rfl (op_callG _ _ 51 31 _ _ rfl Tryd.call31 rfl rfl (fun _ h => h) (ok_digest_Sum mx v47 _ hv48) rfl rfl),
     st_plain rfl (op_storeA_arr _ _ _ _ (sz37.trans (congrArg some (ln_len hv50))) rfl rfl (ln_ones (fun _ => rfl) _) ((ln_len (f := Value.int .u8) hv49).symm.trans (ln_len (f := Value.int .u8) hv50))),
     trivial⟩ ?_
    refine pt_then ?_
    refine ht_ret ?_
    obtain ⟨v51, hv51, h⟩ := bind_some h
    refine pt_pick [1] (by kernel_rfl) (es' := [(_, _)]) rfl ?_
    obtain rfl := Option.some.inj h
    exact pt_ret hio rfl (.cellR _ _ _ _ Tryd.underlying37 rfl (sz37.trans (congrArg some (ln_len hv51))) .nil) rfl rfl
   ·rintro u35 hl36 hr37 ⟨s29, s30, s31⟩ rr40 h ho38
    refine ht_seq ?_
    refine ht_seqR hn (El := [_, _, _, _, _, _, _, (30, .v (.bool ((decide (s31 < 64)))))]) (init := [0, 1, 2, 3, 4, 5, 6]) (fin := [0, 1, 2, 3, 4, 5, 6, 7]) (sps := [⟨[6], [], [7], [(.slot 30)]⟩]) (es' := [(_, _), (_, _), (_, _), (_, _), (_, _), (_, _), (_, _), (30, .v (.bool ((decide (s31 < 64)))))]) (by kernel_rfl) rfl rfl
     ⟨st_plain rfl (op_bin _ _ _ _ _ rfl rfl rfl),
     trivial⟩ ?_
    refine pt_then ?_
    refine ht_seq ?_
    refine ht_cond _ rfl (fun hb41 => ?_) (fun hb41 => ?_)
    ·have h := cond_t hb41 h
     refine ht_skip ?_
     refine pt_then ?_
     refine ht_seq ?_
     refine ht_block ?_
     refine ht_seq ?_
     obtain ⟨v18, hv18, h⟩ := bind_some h
     obtain ⟨v19, hv19, h⟩ := bind_some h
     refine ht_seqR hn (El := [_, _, _, _, _, _, _, _, (31, .v (.int .u8 v19)), (10, .v (.int .u8 v19))]) (init := [0, 1, 2, 3, 4, 5, 6, 7]) (fin := [0, 1, 2, 3, 4, 5, 6, 9]) (sps := [⟨[5, 6], [], [8], [(.slot 31)]⟩, ⟨[8], [], [9], [(.slot 10)]⟩]) (es' := [(_, _), (_, _), (_, _), (_, _), (_, _), (_, _), (_, _), (10, .v (.int .u8 v19))]) (by kernel_rfl) rfl rfl
      ⟨st_plain rfl (op_index_arr _ _ _ _ 64 v18 Tryd.underlying57 sz5 rfl (congrArg (fun j => AV.v (Value.int .i64 j)) (ix_ok hv18).1) (ix_ok hv18).2 (map_get1 hv19) ⟨_, Tryd.underlying5, rfl⟩),
      st_plain rfl (op_assign _ _ _ _ rfl rfl),
      trivial⟩ ?_
     refine pt_then ?_
     refine ht_seq ?_
     obtain ⟨v20, hv20, h⟩ := bind_some h
     obtain ⟨v21, hv21, h⟩ := bind_some h
     refine ht_seqR hn (El := (_ :: _ :: _ :: _ :: _ :: _ :: _ :: _ :: (32, .fl (.own 5) 1 (List.map (Value.int .u8) s29)) :: (33, .v (.int .u8 v19)) :: (34, .v (.int .u8 v20)) :: (35, .fl (.own 5) 1 (List.map (Value.int .u8) [v20])) :: (36, .fl (.own 5) 1 (List.map (Value.int .u8) v21)) :: (32, .any) :: (7, .fl (.own 5) 1 (List.map (Value.int .u8) v21)) :: [])) (init := [0, 1, 2, 3, 4, 5, 6, 7]) (fin := [0, 1, 2, 4, 5, 6, 7, 14]) (sps := [⟨[], [3], [8], [(.slot 32)]⟩, ⟨[7], [], [9], [(.slot 33)]⟩, ⟨[9], [], [10], [(.slot 34)]⟩, ⟨[10], [], [11], [(.slot 35)]⟩, ⟨[11], [8], [13, 12], [(.slot 36)]⟩, ⟨[], [12], [14], [(.slot 7)]⟩]) (es' := [(_, _), (_, _), (_, _), (_, _), (_, _), (_, _), (_, _), (7, .fl (.own 5) 1 (List.map (Value.int .u8) v21))]) (by kernel_rfl) rfl rfl
      ⟨st_plain rfl (op_move_take _ _ _ _ rfl),
      st_plain rfl (op_move _ _ _ _ rfl rfl),
      st_plain rfl (op_bin _ _ _ _ _ rfl rfl (ibind (f := Value.int .u8) (Option.some.inj hv20))),
      st_plain rfl (op_buildSlice _ _ 1 (.int .u8 0) (List.map (Value.int .u8) [v20]) [(0, .int .u8 v20)] Tryd.underlying22 sz5 zr5 (fun _ V w o a hv hes => by have e0 := rd_v hv hes (x := .tmp 34) rfl; simp only [List.map_toArray, List.map_cons, List.map_nil, e0]; try rfl) (litfill (by simp [Instr.fill, Value.cells]; rfl) (by simp [List.range, List.range.loop] <;> rfl)) (by simp [Value.oneCell']) rfl (by decide) (by decide) (by decide)),
      st_plain rfl (op_app _ _ _ _ _ el22 rfl rfl (map_len _) (map_len _) hv21 ((List.map_append).symm.trans (congrArg (List.map _) (app_eq hv21)))),
      st_plain rfl (op_assign_take _ _ _ _ rfl),
      trivial⟩ ?_
     refine pt_then ?_
     obtain ⟨v22, hv22, h⟩ := bind_some h
     obtain ⟨v23, hv23, h⟩ := bind_some h
     refine ht_seqR hn (El := (_ :: _ :: _ :: _ :: _ :: _ :: _ :: _ :: (37, .fl (.own 5) 1 (List.map (Value.int .u8) s30)) :: (38, .v (.int .u8 v19)) :: (39, .v (.int .u8 v22)) :: (40, .fl (.own 5) 1 (List.map (Value.int .u8) [v22])) :: (41, .fl (.own 5) 1 (List.map (Value.int .u8) v23)) :: (37, .any) :: (8, .fl (.own 5) 1 (List.map (Value.int .u8) v23)) :: [])) (init := [0, 1, 2, 3, 4, 5, 6, 7]) (fin := [0, 1, 2, 4, 5, 7, 14]) (sps := [⟨[], [3], [8], [(.slot 37)]⟩, ⟨[6], [], [9], [(.slot 38)]⟩, ⟨[9], [], [10], [(.slot 39)]⟩, ⟨[10], [], [11], [(.slot 40)]⟩, ⟨[11], [8], [13, 12], [(.slot 41)]⟩, ⟨[], [12], [14], [(.slot 8)]⟩]) (es' := [(_, _), (_, _), (_, _), (_, _), (_, _), (_, _), (8, .fl (.own 5) 1 (List.map (Value.int .u8) v23))]) (by kernel_rfl) rfl rfl
      ⟨st_plain rfl (op_move_take _ _ _ _ rfl),
      st_plain rfl (op_move _ _ _ _ rfl rfl),
      st_plain rfl (op_bin _ _ _ _ _ rfl rfl (ibind (f := Value.int .u8) (Option.some.inj hv22))),
      st_plain rfl (op_buildSlice _ _ 1 (.int .u8 0) (List.map (Value.int .u8) [v22]) [(0, .int .u8 v22)] Tryd.underlying22 sz5 zr5 (fun _ V w o a hv hes => by have e0 := rd_v hv hes (x := .tmp 39) rfl; simp only [List.map_toArray, List.map_cons, List.map_nil, e0]; try rfl) (litfill (by simp [Instr.fill, Value.cells]; rfl) (by simp [List.range, List.range.loop] <;> rfl)) (by simp [Value.oneCell']) rfl (by decide) (by decide) (by decide)),
      st_plain rfl (op_app _ _ _ _ _ el22 rfl rfl (map_len _) (map_len _) hv23 ((List.map_append).symm.trans (congrArg (List.map _) (app_eq hv23)))),
      st_plain rfl (op_assign_take _ _ _ _ rfl),
      trivial⟩ ?_
     refine pt_inb ?_
     refine pt_then ?_
     obtain ⟨v24, hv24, h⟩ := bind_some h
     refine ht_seqR hn (El := [_, _, _, _, _, _, _, (42, .v (.int .i64 v24)), (29, .v (.int .i64 v24))]) (init := [0, 1, 2, 3, 4, 5, 6]) (fin := [0, 1, 2, 3, 5, 6, 8]) (sps := [⟨[4], [], [7], [(.slot 42)]⟩, ⟨[7], [4], [8], [(.slot 29)]⟩]) (es' := [(_, _), (_, _), (_, _), (_, _), (_, _), (_, _), (29, .v (.int .i64 v24))]) (by kernel_rfl) rfl rfl
      ⟨st_plain rfl (op_bin _ _ _ _ _ rfl rfl (ibind (f := Value.int .i64) (Option.some.inj hv24))),
      st_plain rfl (LOp.drop [_] (op_move _ _ _ _ rfl rfl)),
      trivial⟩ ?_
     refine pt_pick [0, 1, 2, 4, 5, 3, 6] (by kernel_rfl) (es' := [(_, _), (_, _), (_, _), (_, _), (_, _), (_, _), (_, _)]) rfl ?_
     exact pt_next _ (Option.some.inj h).symm rfl
    ·have h := cond_f hb41 h
     refine ht_exit ?_
     refine pt_x_then ?_
     refine pt_x_then ?_
     refine pt_x_in ?_
     refine pt_pick [0, 1, 2, 3, 4] (by kernel_rfl) (es' := [(_, _), (_, _), (_, _), (_, _), (_, _)]) rfl ?_
     exact hl36 _ (ho38 _ (Option.some.inj h).symm).symm
  ·intro u9 h hl10 hr11
   refine ht_seq ?_
   refine ht_seqR hn (El := [_, _, _, _, _, (12, .fl .shr 1 (List.map (Value.int .u8) key)), (13, .v (.int .i64 (key.length : Int))), (14, .v (.bool ((decide (64 < (key.length : Int))))))]) (init := [0, 1, 2, 3, 4]) (fin := [0, 1, 2, 3, 4, 7]) (sps := [⟨[0], [], [5], [(.slot 12)]⟩, ⟨[5], [], [6], [(.slot 13)]⟩, ⟨[6], [], [7], [(.slot 14)]⟩]) (es' := [(_, _), (_, _), (_, _), (_, _), (_, _), (14, .v (.bool ((decide (64 < (key.length : Int))))))]) (by kernel_rfl) rfl rfl
    ⟨st_plain rfl (op_move _ _ _ _ rfl rfl),
    st_plain rfl (op_len_fl _ _ _ Tryd.underlying22 rfl (by decide) (map_len _)),
    st_plain rfl (op_bin _ _ _ _ _ rfl rfl rfl),
    trivial⟩ ?_
   refine pt_then ?_
   refine ht_cond _ rfl (fun hb12 => ?_) (fun hb12 => ?_)
   ·have h := cond_t hb12 h
    refine ht_seq ?_
    obtain ⟨v2, hv2, h⟩ := bind_some h
    obtain ⟨v3, hv3, h⟩ := bind_some h
    obtain ⟨v4, hv4, h⟩ := bind_some h
    refine ht_seqR hn (El := [_, _, _, _, _, _, (15, .fl .shr 1 (List.map (Value.int .u8) key)), (16, .v (.agg (List.map (Value.int .u8) v2).toArray)), (6, .arr 37 (List.map (Value.int .u8) ((List.replicate 16 (0 : Int))))), (6, .arr 37 (List.map (Value.int .u8) v2))]) (init := [0, 1, 2, 3, 4, 5]) (fin := [1, 2, 3, 4, 9]) (sps := [⟨[0], [], [6], [(.slot 15)]⟩, ⟨[6, 2], [], [7], [(.slot 16)]⟩, ⟨[], [], [8], [(.slot 6)]⟩, ⟨[7], [8], [9], []⟩]) (es' := [(_, _), (_, _), (_, _), (_, _), (6, .arr 37 (List.map (Value.int .u8) v2))]) (by kernel_rfl) rfl rfl
     ⟨st_plain rfl (op_move _ _ _ _ rfl rfl),
     st_plain rfl (op_callG _ _ 51 31 _ _ rfl Tryd.call31 rfl rfl (fun _ h => h) (ok_digest_Sum mx key _ hv2) rfl rfl),
     st_plain rfl (op_alloc_arr _ za37),
     st_plain rfl (op_storeA_arr _ _ _ _ (sz37.trans (congrArg some (ln_len hv4))) rfl rfl (ln_ones (fun _ => rfl) _) ((ln_len (f := Value.int .u8) hv3).symm.trans (ln_len (f := Value.int .u8) hv4))),
     trivial⟩ ?_
    refine pt_then ?_
    obtain ⟨v5, hv5, h⟩ := bind_some h
    obtain ⟨v6, hv6, h⟩ := bind_some h
    refine ht_anyR (by kernel_rfl) hn (El := [_, _, _, _, _, (17, .asl 5 64), (18, .fl .ro 1 (List.map (Value.int .u8) v2)), (6, .any), (19, .v (.int .i64 (copyN ((List.replicate 64 (0 : Int))) v2))), (5, .arr 57 (List.map (Value.int .u8) (copyL ((List.replicate 64 (0 : Int))) v2)))]) (init := [0, 1, 2, 3, 4]) (fin := [0, 1, 2, 9]) (sps := [⟨[3], [], [5], [(.slot 17)]⟩, ⟨[], [4], [7, 6], [(.slot 18)]⟩, ⟨[5, 6], [3], [9, 8], [(.slot 19)]⟩]) (es' := [(_, _), (_, _), (_, _), (5, .arr 57 (List.map (Value.int .u8) (copyL ((List.replicate 64 (0 : Int))) v2)))]) (by kernel_rfl) rfl rfl
     ⟨st_plain rfl (op_slice_asl _ _ 5 64 _ Tryd.underlying57 sz5 rfl (by decide)),
     st_plain rfl (op_slice_frz _ _ 6 16 _ Tryd.underlying37 sz5 rfl (ln_len hv5).symm (ln_ones (fun _ => rfl) _)),
     st_plain rfl (op_cp_arr _ _ _ _ _ _ _ _ Tryd.underlying22 sz5 rfl (ln_n hv6) rfl (by decide)),
     trivial⟩ ?_
    exact hl10 _ (Option.some.inj h).symm
   ·have h := cond_f hb12 h
    obtain ⟨v7, hv7, h⟩ := bind_some h
    refine ht_seqR hn (El := [_, _, _, _, _, _, (20, .asl 5 64), (21, .fl .shr 1 (List.map (Value.int .u8) key)), (22, .v (.int .i64 (copyN ((List.replicate 64 (0 : Int))) key))), (5, .arr 57 (List.map (Value.int .u8) (copyL ((List.replicate 64 (0 : Int))) key)))]) (init := [0, 1, 2, 3, 4, 5]) (fin := [1, 2, 3, 9]) (sps := [⟨[4], [], [6], [(.slot 20)]⟩, ⟨[0], [], [7], [(.slot 21)]⟩, ⟨[6, 7], [4], [9, 8], [(.slot 22)]⟩]) (es' := [(_, _), (_, _), (_, _), (5, .arr 57 (List.map (Value.int .u8) (copyL ((List.replicate 64 (0 : Int))) key)))]) (by kernel_rfl) rfl rfl
     ⟨st_plain rfl (op_slice_asl _ _ 5 64 _ Tryd.underlying57 sz5 rfl (by decide)),
     st_plain rfl (op_move _ _ _ _ rfl rfl),
     st_plain rfl (op_cp_arr _ _ _ _ _ _ _ _ Tryd.underlying22 sz5 rfl (ln_n hv7) rfl (by decide)),
     trivial⟩ ?_
    exact hl10 _ (Option.some.inj h).symm

set_option maxHeartbeats 1000000 in
theorem ok_cram_Answer (mx : Int) (user : ByteArray) (secret : ByteArray) (challenge : ByteArray) (r : ByteArray) (h : Sh.cram_Answer user secret challenge = some r) : FnG Tryd.prog (GL mx) 17 [.v (.string user), .v (.string secret), .v (.string challenge)] (.v (.string r)) := by
  unfold Sh.cram_Answer at h
  refine fn_okG Tryd.func17 rfl (Nat.le_of_ble_eq_true rfl) rfl rfl fun g0 hn hio => ?_
  refine ht_seq ?_
  refine ht_seqR hn (El := [_, _, _, _, (6, .v (.string (⟨#[]⟩ : ByteArray)))]) (init := [0, 1, 2, 3]) (fin := [0, 1, 2, 3]) (sps := [⟨[], [], [4], [(.slot 6)]⟩]) (es' := [(_, _), (_, _), (_, _), (_, _)]) (by kernel_rfl) rfl rfl
   ⟨st_plain rfl (op_assign _ _ _ _ rfl rfl),
   trivial⟩ ?_
  refine pt_then ?_
  refine ht_seq ?_
  obtain ⟨v1, hv1, h⟩ := bind_some h
  obtain ⟨v2, hv2, h⟩ := bind_some h
  obtain ⟨v3, hv3, h⟩ := bind_some h
  obtain ⟨v4, hv4, h⟩ := bind_some h
  obtain ⟨v5, hv5, h⟩ := bind_some h
  refine ht_seqR hn (El := [_, _, _, _, (8, .v (.string secret)), (9, .fl .ro 1 (List.map (Value.int .u8) v1)), (10, .v (.string challenge)), (11, .fl .ro 1 (List.map (Value.int .u8) v2)), (12, .v (.agg (List.map (Value.int .u8) v3).toArray)), (7, .arr 37 (List.map (Value.int .u8) ((List.replicate 16 (0 : Int))))), (7, .arr 37 (List.map (Value.int .u8) v3))]) (init := [0, 1, 2, 3]) (fin := [0, 3, 10]) (sps := [⟨[1], [], [4], [(.slot 8)]⟩, ⟨[4], [], [5], [(.slot 9)]⟩, ⟨[2], [], [6], [(.slot 10)]⟩, ⟨[6], [], [7], [(.slot 11)]⟩, ⟨[5, 7, 3], [], [8], [(.slot 12)]⟩, ⟨[], [], [9], [(.slot 7)]⟩, ⟨[8], [9], [10], []⟩]) (es' := [(_, _), (_, _), (7, .arr 37 (List.map (Value.int .u8) v3))]) (by kernel_rfl) rfl rfl
   ⟨st_plain rfl (op_move _ _ _ _ rfl rfl),
   st_plain rfl ((Option.some.inj hv1) ▸ op_str_bytes _ _ _ secret Tryd.underlying9 Tryd.underlying22 Tryd.underlying5 rfl),
   st_plain rfl (op_move _ _ _ _ rfl rfl),
   st_plain rfl ((Option.some.inj hv2) ▸ op_str_bytes _ _ _ challenge Tryd.underlying9 Tryd.underlying22 Tryd.underlying5 rfl),
   st_plain rfl (op_callG _ _ 20 20 _ _ rfl Tryd.call20 rfl rfl (fun _ h => h) (ok_digest_Keyed mx v1 v2 _ hv3) rfl rfl),
   st_plain rfl (op_alloc_arr _ za37),
   st_plain rfl (op_storeA_arr _ _ _ _ (sz37.trans (congrArg some (ln_len hv5))) rfl rfl (ln_ones (fun _ => rfl) _) ((ln_len (f := Value.int .u8) hv4).symm.trans (ln_len (f := Value.int .u8) hv5))),
   trivial⟩ ?_
  refine pt_then ?_
  refine ht_seq ?_
  obtain ⟨v6, hv6, h⟩ := bind_some h
  obtain ⟨v7, hv7, h⟩ := bind_some h
  obtain ⟨v8, hv8, h⟩ := bind_some h
  obtain ⟨v9, hv9, h⟩ := bind_some h
  obtain ⟨v10, hv10, h⟩ := bind_some h
  obtain ⟨v11, hv11, h⟩ := bind_some h
  refine ht_seqR hn (El := [_, _, _, (13, .v (.string user)), (14, .v (.string v6)), (15, .fl .ro 1 (List.map (Value.int .u8) v3)), (7, .any), (16, .v (.string v8)), (17, .v (.string v9)), (18, .fl .ro 1 (List.map (Value.int .u8) v10)), (19, .v (.string v11)), (6, .v (.string v11))]) (init := [0, 1, 2]) (fin := [1, 11]) (sps := [⟨[0], [], [3], [(.slot 13)]⟩, ⟨[3], [], [4], [(.slot 14)]⟩, ⟨[], [2], [6, 5], [(.slot 15)]⟩, ⟨[5], [], [7], [(.slot 16)]⟩, ⟨[4, 7], [], [8], [(.slot 17)]⟩, ⟨[8], [], [9], [(.slot 18)]⟩, ⟨[9], [], [10], [(.slot 19)]⟩, ⟨[10], [], [11], [(.slot 6)]⟩]) (es' := [(_, _), (6, .v (.string v11))]) (by kernel_rfl) rfl rfl
   ⟨st_plain rfl (op_move _ _ _ _ rfl rfl),
   st_plain rfl (op_bin _ _ _ _ _ rfl rfl (cat_ok hv6)),
   st_plain rfl (op_slice_frz _ _ 7 16 _ Tryd.underlying37 sz5 rfl (ln_len hv7).symm (ln_ones (fun _ => rfl) _)),
   st_plain rfl (op_call _ _ 14 _ _ rfl Tryd.call14 rfl (ok_cram_Hex v3 _ hv8) rfl rfl),
   st_plain rfl (op_bin _ _ _ _ _ rfl rfl (cat_ok hv9)),
   st_plain rfl ((Option.some.inj hv10) ▸ op_str_bytes _ _ _ v9 Tryd.underlying9 Tryd.underlying22 Tryd.underlying5 rfl),
   st_plain rfl (op_call _ _ 12 _ _ rfl Tryd.call12 rfl (ok_cram_Encode v10 _ hv11) rfl rfl),
   st_plain rfl (op_assign _ _ _ _ rfl rfl),
   trivial⟩ ?_
  refine pt_then ?_
  refine ht_ret ?_
  refine pt_pick [1] (by kernel_rfl) (es' := [(_, _)]) rfl ?_
  obtain rfl := Option.some.inj h
  exact pt_ret hio rfl (.tmp _ _ .nil) rfl rfl

set_option maxHeartbeats 1000000 in
theorem ok_wherrylaw10_wakes (mx : Int) (r : Bool) (h : Sh.wherrylaw10_wakes  = some r) : FnG Tryd.prog (GL mx) 19 [] (.v (.bool r)) := by
  unfold Sh.wherrylaw10_wakes at h
  refine fn_okG Tryd.func19 rfl (Nat.le_of_ble_eq_true rfl) rfl rfl fun g0 hn hio => ?_
  refine ht_seq ?_
  refine ht_seqR hn (El := [_, (0, .v (.bool false))]) (init := [0]) (fin := [0]) (sps := [⟨[], [], [1], [(.slot 0)]⟩]) (es' := [(_, _)]) (by kernel_rfl) rfl rfl
   ⟨st_plain rfl (op_assign _ _ _ _ rfl rfl),
   trivial⟩ ?_
  refine pt_then ?_
  refine ht_seq ?_
  refine ht_joinS h (fun (s4 : Bool) => [(14, .glob (GL mx)), (0, .v (.bool s4))]) ?_ ?_
  ·rintro s4 h
   refine pt_then ?_
   refine ht_ret ?_
   refine pt_pick [1] (by kernel_rfl) (es' := [(_, _)]) rfl ?_
   obtain rfl := Option.some.inj h
   exact pt_ret hio rfl (.tmp _ _ .nil) rfl rfl
  ·intro u5 h hl6 hr7
   obtain ⟨v1, hv1, h⟩ := bind_some h
   refine cond_some h (fun hg1_2 h => ?_) (fun hg1_2 h => ?_)
   ·obtain ⟨v2, hv2, h⟩ := bind_some h
    refine cond_some h (fun hg1_8 h => ?_) (fun hg1_8 h => ?_)
    ·obtain ⟨v3, hv3, h⟩ := bind_some h
     refine ht_seqR hn (El := (_ :: (1, .v (.string v1)) :: (2, .v (.bool ((v1.toList == (⟨#[100, 71, 108, 116, 73, 71, 73, 53, 77, 84, 78, 104, 78, 106, 65, 121, 89, 122, 100, 108, 90, 71, 69, 51, 89, 84, 81, 53, 78, 87, 73, 48, 90, 84, 90, 108, 78, 122, 77, 122, 78, 71, 81, 122, 79, 68, 107, 119]⟩ : ByteArray).toList)))) :: (3, .v (.bool true)) :: (4, .fl (.own 5) 1 (List.map (Value.int .u8) [97])) :: (5, .fl .ro 1 (List.map (Value.int .u8) [97])) :: (6, .v (.string v2)) :: (7, .v (.bool ((v2.toList == (⟨#[89, 81, 61, 61]⟩ : ByteArray).toList)))) :: (8, .v (.bool ((v2.toList == (⟨#[89, 81, 61, 61]⟩ : ByteArray).toList)))) :: (9, .v (.bool true)) :: (10, .fl (.own 5) 1 (List.map (Value.int .u8) [171])) :: (11, .v (.string v3)) :: (12, .v (.bool ((v3.toList == (⟨#[97, 98]⟩ : ByteArray).toList)))) :: (13, .v (.bool ((v3.toList == (⟨#[97, 98]⟩ : ByteArray).toList)))) :: (0, .v (.bool ((v3.toList == (⟨#[97, 98]⟩ : ByteArray).toList)))) :: [])) (init := [0]) (fin := [0, 14]) (sps := [⟨[0], [], [1], [(.slot 1)]⟩, ⟨[1], [], [2], [(.slot 2)]⟩, ⟨[2], [], [3], [(.slot 3)]⟩, ⟨[3], [], [4], [(.slot 4)]⟩, ⟨[3], [4], [5], [(.slot 5)]⟩, ⟨[3, 5], [], [6], [(.slot 6)]⟩, ⟨[3, 6], [], [7], [(.slot 7)]⟩, ⟨[3, 7], [], [8], [(.slot 8)]⟩, ⟨[8], [], [9], [(.slot 9)]⟩, ⟨[9], [], [10], [(.slot 10)]⟩, ⟨[9, 10], [], [11], [(.slot 11)]⟩, ⟨[9, 11], [], [12], [(.slot 12)]⟩, ⟨[9, 12], [], [13], [(.slot 13)]⟩, ⟨[13], [], [14], [(.slot 0)]⟩]) (es' := [(_, _), (0, .v (.bool ((v3.toList == (⟨#[97, 98]⟩ : ByteArray).toList))))]) (by kernel_rfl) rfl rfl
      ⟨st_plain rfl (op_callG _ _ 14 17 _ _ rfl Tryd.call17 rfl rfl (fun _ h => h) (ok_cram_Answer mx (⟨#[116, 105, 109]⟩ : ByteArray) (⟨#[116, 97, 110, 115, 116, 97, 97, 102, 116, 97, 110, 115, 116, 97, 97, 102]⟩ : ByteArray) (⟨#[60, 49, 56, 57, 54, 46, 54, 57, 55, 49, 55, 48, 57, 53, 50, 64, 112, 111, 115, 116, 111, 102, 102, 105, 99, 101, 46, 114, 101, 115, 116, 111, 110, 46, 109, 99, 105, 46, 110, 101, 116, 62]⟩ : ByteArray) _ hv1) rfl rfl),
      st_plain rfl (op_bin _ _ _ _ _ rfl rfl rfl),
      st_plain rfl (op_move _ _ _ _ (congrArg (fun b => AV.v (Value.bool b)) hg1_2) rfl),
      st_run 2 3 true rfl rfl rfl (List.Mem.head _) (op_buildSlice _ _ 1 (.int .u8 0) (List.map (Value.int .u8) [97]) [(0, .int .u8 97)] Tryd.underlying22 sz5 zr5 (fun _ V w o a hv hes => by simp only [List.map_toArray, List.map_cons, List.map_nil]; try rfl) (litfill (by simp [Instr.fill, Value.cells]; rfl) (by simp [List.range, List.range.loop] <;> rfl)) (by simp [Value.oneCell']) rfl (by decide) (by decide) (by decide)),
      st_run 2 3 true rfl rfl rfl (List.Mem.head _) (op_conv_mark _ _ _ Tryd.underlying22 Tryd.underlying5 (by intro h; cases h)),
      st_run 2 3 true rfl rfl rfl (List.Mem.head _) (op_call _ _ 12 _ _ rfl Tryd.call12 rfl (ok_cram_Encode [97] _ hv2) rfl rfl),
      st_run 2 3 true rfl rfl rfl (List.Mem.head _) (op_bin _ _ _ _ _ rfl rfl rfl),
      st_plain rfl (op_pick _ _ true _ rfl rfl),
      st_plain rfl (op_move _ _ _ _ (congrArg (fun b => AV.v (Value.bool b)) hg1_8) rfl),
      st_run 8 9 true rfl rfl rfl (List.Mem.head _) (op_buildSlice _ _ 1 (.int .u8 0) (List.map (Value.int .u8) [171]) [(0, .int .u8 171)] Tryd.underlying22 sz5 zr5 (fun _ V w o a hv hes => by simp only [List.map_toArray, List.map_cons, List.map_nil]; try rfl) (litfill (by simp [Instr.fill, Value.cells]; rfl) (by simp [List.range, List.range.loop] <;> rfl)) (by simp [Value.oneCell']) rfl (by decide) (by decide) (by decide)),
      st_run 8 9 true rfl rfl rfl (List.Mem.head _) (op_call _ _ 14 _ _ rfl Tryd.call14 rfl (ok_cram_Hex [171] _ hv3) rfl rfl),
      st_run 8 9 true rfl rfl rfl (List.Mem.head _) (op_bin _ _ _ _ _ rfl rfl rfl),
      st_plain rfl (op_pick _ _ true _ rfl rfl),
      st_plain rfl (op_assign _ _ _ _ rfl rfl),
      trivial⟩ ?_
     exact hl6 _ (Option.some.inj h).symm
    ·refine ht_seqR hn (El := (_ :: (1, .v (.string v1)) :: (2, .v (.bool ((v1.toList == (⟨#[100, 71, 108, 116, 73, 71, 73, 53, 77, 84, 78, 104, 78, 106, 65, 121, 89, 122, 100, 108, 90, 71, 69, 51, 89, 84, 81, 53, 78, 87, 73, 48, 90, 84, 90, 108, 78, 122, 77, 122, 78, 71, 81, 122, 79, 68, 107, 119]⟩ : ByteArray).toList)))) :: (3, .v (.bool true)) :: (4, .fl (.own 5) 1 (List.map (Value.int .u8) [97])) :: (5, .fl .ro 1 (List.map (Value.int .u8) [97])) :: (6, .v (.string v2)) :: (7, .v (.bool ((v2.toList == (⟨#[89, 81, 61, 61]⟩ : ByteArray).toList)))) :: (8, .v (.bool ((v2.toList == (⟨#[89, 81, 61, 61]⟩ : ByteArray).toList)))) :: (9, .v (.bool false)) :: (10, .v undef) :: (11, .v undef) :: (12, .v undef) :: (13, .v (.bool false)) :: (0, .v (.bool false)) :: [])) (init := [0]) (fin := [0, 14]) (sps := [⟨[0], [], [1], [(.slot 1)]⟩, ⟨[1], [], [2], [(.slot 2)]⟩, ⟨[2], [], [3], [(.slot 3)]⟩, ⟨[3], [], [4], [(.slot 4)]⟩, ⟨[3], [4], [5], [(.slot 5)]⟩, ⟨[3, 5], [], [6], [(.slot 6)]⟩, ⟨[3, 6], [], [7], [(.slot 7)]⟩, ⟨[3, 7], [], [8], [(.slot 8)]⟩, ⟨[8], [], [9], [(.slot 9)]⟩, ⟨[9], [], [10], [(.slot 10)]⟩, ⟨[9], [], [11], [(.slot 11)]⟩, ⟨[9], [], [12], [(.slot 12)]⟩, ⟨[9], [], [13], [(.slot 13)]⟩, ⟨[13], [], [14], [(.slot 0)]⟩]) (es' := [(_, _), (0, .v (.bool false))]) (by kernel_rfl) rfl rfl
      ⟨st_plain rfl (op_callG _ _ 14 17 _ _ rfl Tryd.call17 rfl rfl (fun _ h => h) (ok_cram_Answer mx (⟨#[116, 105, 109]⟩ : ByteArray) (⟨#[116, 97, 110, 115, 116, 97, 97, 102, 116, 97, 110, 115, 116, 97, 97, 102]⟩ : ByteArray) (⟨#[60, 49, 56, 57, 54, 46, 54, 57, 55, 49, 55, 48, 57, 53, 50, 64, 112, 111, 115, 116, 111, 102, 102, 105, 99, 101, 46, 114, 101, 115, 116, 111, 110, 46, 109, 99, 105, 46, 110, 101, 116, 62]⟩ : ByteArray) _ hv1) rfl rfl),
      st_plain rfl (op_bin _ _ _ _ _ rfl rfl rfl),
      st_plain rfl (op_move _ _ _ _ (congrArg (fun b => AV.v (Value.bool b)) hg1_2) rfl),
      st_run 2 3 true rfl rfl rfl (List.Mem.head _) (op_buildSlice _ _ 1 (.int .u8 0) (List.map (Value.int .u8) [97]) [(0, .int .u8 97)] Tryd.underlying22 sz5 zr5 (fun _ V w o a hv hes => by simp only [List.map_toArray, List.map_cons, List.map_nil]; try rfl) (litfill (by simp [Instr.fill, Value.cells]; rfl) (by simp [List.range, List.range.loop] <;> rfl)) (by simp [Value.oneCell']) rfl (by decide) (by decide) (by decide)),
      st_run 2 3 true rfl rfl rfl (List.Mem.head _) (op_conv_mark _ _ _ Tryd.underlying22 Tryd.underlying5 (by intro h; cases h)),
      st_run 2 3 true rfl rfl rfl (List.Mem.head _) (op_call _ _ 12 _ _ rfl Tryd.call12 rfl (ok_cram_Encode [97] _ hv2) rfl rfl),
      st_run 2 3 true rfl rfl rfl (List.Mem.head _) (op_bin _ _ _ _ _ rfl rfl rfl),
      st_plain rfl (op_pick _ _ true _ rfl rfl),
      st_plain rfl (op_move _ _ _ _ (congrArg (fun b => AV.v (Value.bool b)) hg1_8) rfl),
      st_skip 8 9 _ true rfl rfl rfl rfl (List.Mem.head _),
      st_skip 8 9 _ true rfl rfl rfl rfl (List.Mem.head _),
      st_skip 8 9 _ true rfl rfl rfl rfl (List.Mem.head _),
      st_plain rfl (op_pick _ _ false _ rfl rfl),
      st_plain rfl (op_assign _ _ _ _ rfl rfl),
      trivial⟩ ?_
     exact hl6 _ (Option.some.inj h).symm
   ·refine ht_seqR hn (El := (_ :: (1, .v (.string v1)) :: (2, .v (.bool ((v1.toList == (⟨#[100, 71, 108, 116, 73, 71, 73, 53, 77, 84, 78, 104, 78, 106, 65, 121, 89, 122, 100, 108, 90, 71, 69, 51, 89, 84, 81, 53, 78, 87, 73, 48, 90, 84, 90, 108, 78, 122, 77, 122, 78, 71, 81, 122, 79, 68, 107, 119]⟩ : ByteArray).toList)))) :: (3, .v (.bool false)) :: (4, .v undef) :: (5, .v undef) :: (6, .v undef) :: (7, .v undef) :: (8, .v (.bool false)) :: (9, .v (.bool false)) :: (10, .v undef) :: (11, .v undef) :: (12, .v undef) :: (13, .v (.bool false)) :: (0, .v (.bool false)) :: [])) (init := [0]) (fin := [0, 14]) (sps := [⟨[0], [], [1], [(.slot 1)]⟩, ⟨[1], [], [2], [(.slot 2)]⟩, ⟨[2], [], [3], [(.slot 3)]⟩, ⟨[3], [], [4], [(.slot 4)]⟩, ⟨[3], [], [5], [(.slot 5)]⟩, ⟨[3], [], [6], [(.slot 6)]⟩, ⟨[3], [], [7], [(.slot 7)]⟩, ⟨[3], [], [8], [(.slot 8)]⟩, ⟨[8], [], [9], [(.slot 9)]⟩, ⟨[9], [], [10], [(.slot 10)]⟩, ⟨[9], [], [11], [(.slot 11)]⟩, ⟨[9], [], [12], [(.slot 12)]⟩, ⟨[9], [], [13], [(.slot 13)]⟩, ⟨[13], [], [14], [(.slot 0)]⟩]) (es' := [(_, _), (0, .v (.bool false))]) (by kernel_rfl) rfl rfl
     ⟨st_plain rfl (op_callG _ _ 14 17 _ _ rfl Tryd.call17 rfl rfl (fun _ h => h) (ok_cram_Answer mx (⟨#[116, 105, 109]⟩ : ByteArray) (⟨#[116, 97, 110, 115, 116, 97, 97, 102, 116, 97, 110, 115, 116, 97, 97, 102]⟩ : ByteArray) (⟨#[60, 49, 56, 57, 54, 46, 54, 57, 55, 49, 55, 48, 57, 53, 50, 64, 112, 111, 115, 116, 111, 102, 102, 105, 99, 101, 46, 114, 101, 115, 116, 111, 110, 46, 109, 99, 105, 46, 110, 101, 116, 62]⟩ : ByteArray) _ hv1) rfl rfl),
     st_plain rfl (op_bin _ _ _ _ _ rfl rfl rfl),
     st_plain rfl (op_move _ _ _ _ (congrArg (fun b => AV.v (Value.bool b)) hg1_2) rfl),
     st_skip 2 3 _ true rfl rfl rfl rfl (List.Mem.head _),
     st_skip 2 3 _ true rfl rfl rfl rfl (List.Mem.head _),
     st_skip 2 3 _ true rfl rfl rfl rfl (List.Mem.head _),
     st_skip 2 3 _ true rfl rfl rfl rfl (List.Mem.head _),
     st_plain rfl (op_pick _ _ false _ rfl rfl),
     st_plain rfl (op_move _ _ _ _ rfl rfl),
     st_skip 8 9 _ true rfl rfl rfl rfl (List.Mem.head _),
     st_skip 8 9 _ true rfl rfl rfl rfl (List.Mem.head _),
     st_skip 8 9 _ true rfl rfl rfl rfl (List.Mem.head _),
     st_plain rfl (op_pick _ _ false _ rfl rfl),
     st_plain rfl (op_assign _ _ _ _ rfl rfl),
     trivial⟩ ?_
    exact hl6 _ (Option.some.inj h).symm

set_option maxHeartbeats 1000000 in
theorem ok_wherrykeep_Twin (l : (List Int)) (r : (List Int)) (h : Sh.wherrykeep_Twin l = some r) : FnOK Tryd.prog 8 [.fl .shr 1 (List.map (Value.int .u8) l)] (.fl (.own 5) 1 (List.map (Value.int .u8) r)) := by
  unfold Sh.wherrykeep_Twin at h
  refine fn_ok Tryd.func8 rfl (Nat.le_of_ble_eq_true rfl) rfl rfl fun g0 hn hio => ?_
  refine ht_seq ?_
  refine ht_seqR hn (El := [_, (2, .v (.slice none 0 0))]) (init := [0]) (fin := [0]) (sps := [⟨[], [], [1], [(.slot 2)]⟩]) (es' := [(_, _)]) (by kernel_rfl) rfl rfl
   ⟨st_plain rfl (op_assign _ _ _ _ rfl rfl),
   trivial⟩ ?_
  refine pt_then ?_
  refine ht_seq ?_
  refine ht_seqR hn (El := [_, (3, .v (.slice none 0 0))]) (init := [0]) (fin := [0, 1]) (sps := [⟨[], [], [1], [(.slot 3)]⟩]) (es' := [(_, _), (3, .v (.slice none 0 0))]) (by kernel_rfl) rfl rfl
   ⟨st_plain rfl (op_assign _ _ _ _ rfl rfl),
   trivial⟩ ?_
  refine pt_then ?_
  refine ht_seq ?_
  obtain ⟨v1, hv1, h⟩ := bind_some h
  refine ht_seqR hn (El := [_, _, (4, .v (.slice none 0 0)), (5, .fl .shr 1 (List.map (Value.int .u8) l)), (6, .fl (.own 5) 1 (List.map (Value.int .u8) v1)), (2, .fl (.own 5) 1 (List.map (Value.int .u8) v1))]) (init := [0, 1]) (fin := [5]) (sps := [⟨[1], [], [2], [(.slot 4)]⟩, ⟨[0], [], [3], [(.slot 5)]⟩, ⟨[2, 3], [], [4], [(.slot 6)]⟩, ⟨[], [4], [5], [(.slot 2)]⟩]) (es' := [(2, .fl (.own 5) 1 (List.map (Value.int .u8) v1))]) (by kernel_rfl) rfl rfl
   ⟨st_plain rfl (op_move _ _ _ _ rfl rfl),
   st_plain rfl (op_move _ _ _ _ rfl rfl),
   st_plain rfl (op_app_nil _ _ _ _ el22 rfl rfl (map_len _) hv1 (congrArg (List.map _) (app_nil_eq hv1))),
   st_plain rfl (op_assign_take _ _ _ _ rfl),
   trivial⟩ ?_
  refine pt_then ?_
  refine ht_ret ?_
  obtain rfl := Option.some.inj h
  exact pt_ret hio rfl (.tmp _ _ .nil) rfl rfl

set_option maxHeartbeats 1000000 in
theorem ok_strings_trimRightByte (s : ByteArray) (c : Int) (r : ByteArray) (h : Sh.strings_trimRightByte s c = some r) : FnOK Tryd.prog 33 [.v (.string s), .v (.int .u8 c)] (.v (.string r)) := by
  unfold Sh.strings_trimRightByte at h
  refine fn_ok Tryd.func33 rfl (Nat.le_of_ble_eq_true rfl) rfl rfl fun g0 hn hio => ?_
  refine ht_seq ?_
  refine ht_seqR hn (El := [_, _, (4, .v (.string (⟨#[]⟩ : ByteArray)))]) (init := [0, 1]) (fin := [0, 1]) (sps := [⟨[], [], [2], [(.slot 4)]⟩]) (es' := [(_, _), (_, _)]) (by kernel_rfl) rfl rfl
   ⟨st_plain rfl (op_assign _ _ _ _ rfl rfl),
   trivial⟩ ?_
  refine pt_then ?_
  refine ht_seq ?_
  refine ht_loopS h (fun (s16 : ByteArray) => [(0, .v (.string s16)), (1, .v (.int .u8 c))]) (fun (s22 : ByteArray) => [(0, .v (.string s22))]) ?_ ?_
  ·rintro s22 h
   refine pt_then ?_
   refine ht_seq ?_
   refine ht_seqR hn (El := [_, (22, .v (.string s22)), (4, .v (.string s22))]) (init := [0]) (fin := [2]) (sps := [⟨[0], [], [1], [(.slot 22)]⟩, ⟨[1], [], [2], [(.slot 4)]⟩]) (es' := [(4, .v (.string s22))]) (by kernel_rfl) rfl rfl
    ⟨st_plain rfl (op_move _ _ _ _ rfl rfl),
    st_plain rfl (op_assign _ _ _ _ rfl rfl),
    trivial⟩ ?_
   refine pt_then ?_
   refine ht_ret ?_
   obtain rfl := Option.some.inj h
   exact pt_ret hio rfl (.tmp _ _ .nil) rfl rfl
  ·rintro u23 hl24 hr25 s16 rr28 h ho26
   refine ht_seq ?_
   refine ht_seq ?_
   refine ht_joinS h (fun (s29 : Bool) => [(0, .v (.string s16)), (1, .v (.int .u8 c)), (16, .v (.bool s29))]) ?_ ?_
   ·rintro s29 h
    refine pt_then ?_
    refine ht_cond _ rfl (fun hb33 => ?_) (fun hb33 => ?_)
    ·have h := cond_t hb33 h
     refine ht_skip ?_
     refine pt_then ?_
     refine ht_block ?_
     obtain ⟨v8, hv8, h⟩ := bind_some h
     obtain ⟨v9, hv9, h⟩ := bind_some h
     refine ht_seqR hn (El := [_, _, _, (17, .v (.string s16)), (18, .v (.string s16)), (19, .v (.int .i64 (s16.size : Int))), (20, .v (.int .i64 v8)), (21, .v (.string v9)), (0, .v (.string v9))]) (init := [0, 1, 2]) (fin := [1, 8]) (sps := [⟨[0], [], [3], [(.slot 17)]⟩, ⟨[0], [], [4], [(.slot 18)]⟩, ⟨[4], [], [5], [(.slot 19)]⟩, ⟨[5], [], [6], [(.slot 20)]⟩, ⟨[3, 6], [], [7], [(.slot 21)]⟩, ⟨[7], [0], [8], [(.slot 0)]⟩]) (es' := [(_, _), (0, .v (.string v9))]) (by kernel_rfl) rfl rfl
      ⟨st_plain rfl (op_move _ _ _ _ rfl rfl),
      st_plain rfl (op_move _ _ _ _ rfl rfl),
      st_plain rfl (op_len_str _ _ _ Tryd.underlying9 rfl),
      st_plain rfl (op_bin _ _ _ _ _ rfl rfl (ibind (f := Value.int .i64) (Option.some.inj hv8))),
      st_plain rfl (op_substr _ _ _ 0 v8 _ Tryd.underlying9 rfl rfl ⟨_, rfl⟩ hv9),
      st_plain rfl (LOp.drop [_] (op_assign _ _ _ _ rfl rfl)),
      trivial⟩ ?_
     refine pt_inb ?_
     refine pt_pick [1, 0] (by kernel_rfl) (es' := [(_, _), (_, _)]) rfl ?_
     exact pt_next _ (Option.some.inj h).symm rfl
    ·have h := cond_f hb33 h
     refine ht_exit ?_
     refine pt_x_then ?_
     refine pt_x_then ?_
     refine pt_x_in ?_
     refine pt_pick [0] (by kernel_rfl) (es' := [(_, _)]) rfl ?_
     exact hl24 _ (ho26 _ (Option.some.inj h).symm).symm
   ·intro u30 h hl31 hr32
    refine cond_some h (fun hg1_3 h => ?_) (fun hg1_3 h => ?_)
    ·obtain ⟨v1, hv1, h⟩ := bind_some h
     obtain ⟨v2, hv2, h⟩ := bind_some h
     refine ht_seqR hn (El := [_, _, (5, .v (.string s16)), (6, .v (.int .i64 (s16.size : Int))), (7, .v (.bool ((decide (0 < (s16.size : Int)))))), (8, .v (.bool true)), (9, .v (.string s16)), (10, .v (.string s16)), (11, .v (.int .i64 (s16.size : Int))), (12, .v (.int .i64 v1)), (13, .v (.int .u8 v2)), (14, .v (.int .u8 c)), (15, .v (.bool (v2 == c))), (16, .v (.bool (v2 == c)))]) (init := [0, 1]) (fin := [0, 1, 13]) (sps := [⟨[0], [], [2], [(.slot 5)]⟩, ⟨[2], [], [3], [(.slot 6)]⟩, ⟨[3], [], [4], [(.slot 7)]⟩, ⟨[4], [], [5], [(.slot 8)]⟩, ⟨[5, 0], [], [6], [(.slot 9)]⟩, ⟨[5, 0], [], [7], [(.slot 10)]⟩, ⟨[5, 7], [], [8], [(.slot 11)]⟩, ⟨[5, 8], [], [9], [(.slot 12)]⟩, ⟨[5, 6, 9], [], [10], [(.slot 13)]⟩, ⟨[5, 1], [], [11], [(.slot 14)]⟩, ⟨[5, 10, 11], [], [12], [(.slot 15)]⟩, ⟨[5, 12], [], [13], [(.slot 16)]⟩]) (es' := [(_, _), (_, _), (16, .v (.bool (v2 == c)))]) (by kernel_rfl) rfl rfl
      ⟨st_plain rfl (op_move _ _ _ _ rfl rfl),
      st_plain rfl (op_len_str _ _ _ Tryd.underlying9 rfl),
      st_plain rfl (op_bin _ _ _ _ _ rfl rfl rfl),
      st_plain rfl (op_move _ _ _ _ (congrArg (fun b => AV.v (Value.bool b)) hg1_3) rfl),
      st_run 3 8 true rfl rfl rfl (List.Mem.head _) (op_move _ _ _ _ rfl rfl),
      st_run 3 8 true rfl rfl rfl (List.Mem.head _) (op_move _ _ _ _ rfl rfl),
      st_run 3 8 true rfl rfl rfl (List.Mem.head _) (op_len_str _ _ _ Tryd.underlying9 rfl),
      st_run 3 8 true rfl rfl rfl (List.Mem.head _) (op_bin _ _ _ _ _ rfl rfl (ibind (f := Value.int .i64) (Option.some.inj hv1))),
      st_run 3 8 true rfl rfl rfl (List.Mem.head _) (op_chr _ _ _ v1 _ Tryd.underlying9 rfl rfl hv2),
      st_run 3 8 true rfl rfl rfl (List.Mem.head _) (op_move _ _ _ _ rfl rfl),
      st_run 3 8 true rfl rfl rfl (List.Mem.head _) (op_bin _ _ _ _ _ rfl rfl rfl),
      st_plain rfl (op_pick _ _ true _ rfl rfl),
      trivial⟩ ?_
     exact hl31 _ (Option.some.inj h).symm
    ·refine ht_seqR hn (El := [_, _, (5, .v (.string s16)), (6, .v (.int .i64 (s16.size : Int))), (7, .v (.bool ((decide (0 < (s16.size : Int)))))), (8, .v (.bool false)), (9, .v undef), (10, .v undef), (11, .v undef), (12, .v undef), (13, .v undef), (14, .v undef), (15, .v undef), (16, .v (.bool false))]) (init := [0, 1]) (fin := [0, 1, 13]) (sps := [⟨[0], [], [2], [(.slot 5)]⟩, ⟨[2], [], [3], [(.slot 6)]⟩, ⟨[3], [], [4], [(.slot 7)]⟩, ⟨[4], [], [5], [(.slot 8)]⟩, ⟨[5], [], [6], [(.slot 9)]⟩, ⟨[5], [], [7], [(.slot 10)]⟩, ⟨[5], [], [8], [(.slot 11)]⟩, ⟨[5], [], [9], [(.slot 12)]⟩, ⟨[5], [], [10], [(.slot 13)]⟩, ⟨[5], [], [11], [(.slot 14)]⟩, ⟨[5], [], [12], [(.slot 15)]⟩, ⟨[5], [], [13], [(.slot 16)]⟩]) (es' := [(_, _), (_, _), (16, .v (.bool false))]) (by kernel_rfl) rfl rfl
      ⟨st_plain rfl (op_move _ _ _ _ rfl rfl),
      st_plain rfl (op_len_str _ _ _ Tryd.underlying9 rfl),
      st_plain rfl (op_bin _ _ _ _ _ rfl rfl rfl),
      st_plain rfl (op_move _ _ _ _ (congrArg (fun b => AV.v (Value.bool b)) hg1_3) rfl),
      st_skip 3 8 _ true rfl rfl rfl rfl (List.Mem.head _),
      st_skip 3 8 _ true rfl rfl rfl rfl (List.Mem.head _),
      st_skip 3 8 _ true rfl rfl rfl rfl (List.Mem.head _),
      st_skip 3 8 _ true rfl rfl rfl rfl (List.Mem.head _),
      st_skip 3 8 _ true rfl rfl rfl rfl (List.Mem.head _),
      st_skip 3 8 _ true rfl rfl rfl rfl (List.Mem.head _),
      st_skip 3 8 _ true rfl rfl rfl rfl (List.Mem.head _),
      st_plain rfl (op_pick _ _ false _ rfl rfl),
      trivial⟩ ?_
     exact hl31 _ (Option.some.inj h).symm

set_option maxHeartbeats 1000000 in
theorem ok_strings_makeASCIISet (chars : ByteArray) (r : ((List Bool) × Bool)) (h : Sh.strings_makeASCIISet chars = some r) : FnOK Tryd.prog 34 [.v (.string chars)] (.tup [.v (.agg (List.map Value.bool r.1).toArray), .v (.bool r.2)]) := by
  unfold Sh.strings_makeASCIISet at h
  refine fn_ok Tryd.func34 rfl (Nat.le_of_ble_eq_true rfl) rfl rfl fun g0 hn hio => ?_
  refine ht_seq ?_
  refine ht_seqR hn (El := [_, (2, .arr 62 (List.map Value.bool (List.replicate 256 false))), (3, .v (.bool false))]) (init := [0]) (fin := [0, 1]) (sps := [⟨[], [], [1], [(.slot 2)]⟩, ⟨[], [], [2], [(.slot 3)]⟩]) (es' := [(_, _), (2, .arr 62 (List.map Value.bool (List.replicate 256 false)))]) (by kernel_rfl) rfl rfl
   ⟨st_plain rfl (op_alloc_arr _ za62),
   st_plain rfl (op_assign _ _ _ _ rfl rfl),
   trivial⟩ ?_
  refine pt_then ?_
  refine ht_seq ?_
  refine ht_seq ?_
  refine ht_seqR hn (El := [_, _, (4, .v (.int .i64 0))]) (init := [0, 1]) (fin := [0, 1, 2]) (sps := [⟨[], [], [2], [(.slot 4)]⟩]) (es' := [(_, _), (_, _), (4, .v (.int .i64 0))]) (by kernel_rfl) rfl rfl
   ⟨st_plain rfl (op_assign _ _ _ _ rfl rfl),
   trivial⟩ ?_
  refine pt_then ?_
  refine ht_loopS h (fun ((s16, s17) : (List Bool) × Int) => [(0, .v (.string chars)), (2, .arr 62 (List.map Value.bool s16)), (4, .v (.int .i64 s17))]) (fun (s21 : (List Bool)) => [(2, .arr 62 (List.map Value.bool s21))]) ?_ ?_
  ·rintro s21 h
   refine pt_then ?_
   refine ht_seq ?_
   obtain ⟨v31, hv31, h⟩ := bind_some h
   obtain ⟨v32, hv32, h⟩ := bind_some h
   obtain ⟨v33, hv33, h⟩ := bind_some h
   refine ht_seqR hn (El := [_, (20, .v (.agg (List.map Value.bool s21).toArray)), (2, .arr 62 (List.map Value.bool s21)), (3, .v (.bool true))]) (init := [0]) (fin := [2, 3]) (sps := [⟨[0], [], [1], [(.slot 20)]⟩, ⟨[1], [0], [2], []⟩, ⟨[], [], [3], [(.slot 3)]⟩]) (es' := [(2, .arr 62 (List.map Value.bool s21)), (3, .v (.bool true))]) (by kernel_rfl) rfl rfl
    ⟨st_plain rfl (op_loadA_arr _ _ _ _ Tryd.underlying62 rfl (sz62.trans (congrArg some (ln_len hv31))) rfl rfl),
    st_plain rfl (op_storeA_arr _ _ _ _ (sz62.trans (congrArg some (ln_len hv33))) rfl rfl (ln_ones (fun _ => rfl) _) ((ln_len (f := Value.bool) hv32).symm.trans (ln_len (f := Value.bool) hv33))),
    st_plain rfl (op_assign _ _ _ _ rfl rfl),
    trivial⟩ ?_
   refine pt_then ?_
   refine ht_ret ?_
   obtain ⟨v34, hv34, h⟩ := bind_some h
   obtain rfl := Option.some.inj h
   exact pt_ret hio rfl (.cellR _ _ _ _ Tryd.underlying62 rfl (sz62.trans (congrArg some (ln_len hv34))) (.tmp _ _ .nil)) rfl rfl
  ·rintro u22 hl23 hr24 ⟨s16, s17⟩ rr27 h ho25
   refine ht_seq ?_
   refine ht_seq ?_
   refine ht_seqR hn (El := [_, _, _, (6, .v (.int .i64 s17)), (7, .v (.string chars)), (8, .v (.int .i64 (chars.size : Int))), (9, .v (.bool ((decide (s17 < (chars.size : Int))))))]) (init := [0, 1, 2]) (fin := [0, 1, 2, 6]) (sps := [⟨[2], [], [3], [(.slot 6)]⟩, ⟨[0], [], [4], [(.slot 7)]⟩, ⟨[4], [], [5], [(.slot 8)]⟩, ⟨[3, 5], [], [6], [(.slot 9)]⟩]) (es' := [(_, _), (_, _), (_, _), (9, .v (.bool ((decide (s17 < (chars.size : Int))))))]) (by kernel_rfl) rfl rfl
    ⟨st_plain rfl (op_move _ _ _ _ rfl rfl),
    st_plain rfl (op_move _ _ _ _ rfl rfl),
    st_plain rfl (op_len_str _ _ _ Tryd.underlying9 rfl),
    st_plain rfl (op_bin _ _ _ _ _ rfl rfl rfl),
    trivial⟩ ?_
   refine pt_then ?_
   refine ht_cond _ rfl (fun hb28 => ?_) (fun hb28 => ?_)
   ·have h := cond_t hb28 h
    refine ht_skip ?_
    refine pt_then ?_
    refine ht_seq ?_
    refine ht_block ?_
    refine ht_seq ?_
    obtain ⟨v2, hv2, h⟩ := bind_some h
    refine ht_seqR hn (El := [_, _, _, _, (12, .v (.string chars)), (13, .v (.int .i64 s17)), (14, .v (.int .u8 v2)), (5, .v (.int .u8 v2))]) (init := [0, 1, 2, 3]) (fin := [0, 1, 2, 7]) (sps := [⟨[0], [], [4], [(.slot 12)]⟩, ⟨[2], [], [5], [(.slot 13)]⟩, ⟨[4, 5], [], [6], [(.slot 14)]⟩, ⟨[6], [], [7], [(.slot 5)]⟩]) (es' := [(_, _), (_, _), (_, _), (5, .v (.int .u8 v2))]) (by kernel_rfl) rfl rfl
     ⟨st_plain rfl (op_move _ _ _ _ rfl rfl),
     st_plain rfl (op_move _ _ _ _ rfl rfl),
     st_plain rfl (op_chr _ _ _ s17 _ Tryd.underlying9 rfl rfl hv2),
     st_plain rfl (op_assign _ _ _ _ rfl rfl),
     trivial⟩ ?_
    refine pt_then ?_
    refine ht_seq ?_
    refine ht_seq ?_
    refine ht_seqR hn (El := [_, _, _, _, (15, .v (.int .u8 v2)), (16, .v (.bool ((decide (128 ≤ v2)))))]) (init := [0, 1, 2, 3]) (fin := [0, 1, 2, 3, 5]) (sps := [⟨[3], [], [4], [(.slot 15)]⟩, ⟨[4], [], [5], [(.slot 16)]⟩]) (es' := [(_, _), (_, _), (_, _), (_, _), (16, .v (.bool ((decide (128 ≤ v2)))))]) (by kernel_rfl) rfl rfl
     ⟨st_plain rfl (op_move _ _ _ _ rfl rfl),
     st_plain rfl (op_bin _ _ _ _ _ rfl rfl rfl),
     trivial⟩ ?_
    refine pt_then ?_
    refine ht_cond _ rfl (fun hb29 => ?_) (fun hb29 => ?_)
    ·have h := cond_t hb29 h
     refine ht_seq ?_
     obtain ⟨v4, hv4, h⟩ := bind_some h
     obtain ⟨v5, hv5, h⟩ := bind_some h
     obtain ⟨v6, hv6, h⟩ := bind_some h
     refine ht_seqR hn (El := [_, _, _, _, _, (17, .v (.agg (List.map Value.bool s16).toArray)), (2, .arr 62 (List.map Value.bool s16)), (3, .v (.bool false))]) (init := [0, 1, 2, 3, 4]) (fin := [6, 7]) (sps := [⟨[1], [], [5], [(.slot 17)]⟩, ⟨[5], [1], [6], []⟩, ⟨[], [], [7], [(.slot 3)]⟩]) (es' := [(2, .arr 62 (List.map Value.bool s16)), (3, .v (.bool false))]) (by kernel_rfl) rfl rfl
      ⟨st_plain rfl (op_loadA_arr _ _ _ _ Tryd.underlying62 rfl (sz62.trans (congrArg some (ln_len hv4))) rfl rfl),
      st_plain rfl (op_storeA_arr _ _ _ _ (sz62.trans (congrArg some (ln_len hv6))) rfl rfl (ln_ones (fun _ => rfl) _) ((ln_len (f := Value.bool) hv5).symm.trans (ln_len (f := Value.bool) hv6))),
      st_plain rfl (op_assign _ _ _ _ rfl rfl),
      trivial⟩ ?_
     refine pt_then ?_
     refine ht_ret ?_
     obtain ⟨v30, hv30, h⟩ := bind_some h
     refine pt_r_then ?_
     refine pt_r_in ?_
     refine pt_r_then ?_
     refine pt_r_then ?_
     refine pt_r_in ?_
     refine pt_r_then ?_
     have h := hr24 _ (ho25 _ (Option.some.inj h).symm).symm
     obtain rfl := Option.some.inj h
     exact pt_ret hio rfl (.cellR _ _ _ _ Tryd.underlying62 rfl (sz62.trans (congrArg some (ln_len hv30))) (.tmp _ _ .nil)) rfl rfl
    ·have h := cond_f hb29 h
     refine ht_skip ?_
     refine pt_then ?_
     obtain ⟨v8, hv8, h⟩ := bind_some h
     obtain ⟨v9, hv9, h⟩ := bind_some h
     refine ht_seqR hn (El := [_, _, _, _, _, (18, .v (.int .u8 v2)), (19, .ptr 2 v8), (2, .arr 62 (List.map Value.bool v9))]) (init := [0, 1, 2, 3, 4]) (fin := [0, 7, 2]) (sps := [⟨[3], [], [5], [(.slot 18)]⟩, ⟨[1, 5], [], [6], [(.slot 19)]⟩, ⟨[6], [1], [7], []⟩]) (es' := [(_, _), (2, .arr 62 (List.map Value.bool v9)), (_, _)]) (by kernel_rfl) rfl rfl
      ⟨st_plain rfl (op_move _ _ _ _ rfl rfl),
      st_plain rfl (op_ix_arr _ _ _ _ 256 2 _ Tryd.underlying62 sz4 rfl rfl (ix_ok hv8).1 (ix_ok hv8).2 (by decide)),
      st_plain rfl (op_store_arr _ _ _ _ _ _ sz4 rfl rfl rfl rfl (set_lt hv9) (set_eq (f := Value.bool) hv9)),
      trivial⟩ ?_
     refine pt_inb ?_
     refine pt_then ?_
     obtain ⟨v10, hv10, h⟩ := bind_some h
     refine ht_seqR hn (El := [_, _, _, (10, .v (.int .i64 s17)), (11, .v (.int .i64 v10)), (4, .v (.int .i64 v10))]) (init := [0, 1, 2]) (fin := [0, 1, 5]) (sps := [⟨[2], [], [3], [(.slot 10)]⟩, ⟨[3], [], [4], [(.slot 11)]⟩, ⟨[4], [2], [5], [(.slot 4)]⟩]) (es' := [(_, _), (_, _), (4, .v (.int .i64 v10))]) (by kernel_rfl) rfl rfl
      ⟨st_plain rfl (op_move _ _ _ _ rfl rfl),
      st_plain rfl (op_bin _ _ _ _ _ rfl rfl (ibind (f := Value.int .i64) (Option.some.inj hv10))),
      st_plain rfl (LOp.drop [_] (op_assign _ _ _ _ rfl rfl)),
      trivial⟩ ?_
     exact pt_next _ (Option.some.inj h).symm rfl
   ·have h := cond_f hb28 h
    refine ht_exit ?_
    refine pt_x_then ?_
    refine pt_x_then ?_
    refine pt_x_in ?_
    refine pt_pick [1] (by kernel_rfl) (es' := [(_, _)]) rfl ?_
    exact hl23 _ (ho25 _ (Option.some.inj h).symm).symm

set_option maxHeartbeats 1000000 in
theorem ok_unicode_utf8_RuneStart (b : Int) (r : Bool) (h : Sh.unicode_utf8_RuneStart b = some r) : FnOK Tryd.prog 59 [.v (.int .u8 b)] (.v (.bool r)) := by
  unfold Sh.unicode_utf8_RuneStart at h
  refine fn_ok Tryd.func59 rfl (Nat.le_of_ble_eq_true rfl) rfl rfl fun g0 hn hio => ?_
  refine ht_seq ?_
  refine ht_seqR hn (El := [_, (2, .v (.bool false))]) (init := [0]) (fin := [0]) (sps := [⟨[], [], [1], [(.slot 2)]⟩]) (es' := [(_, _)]) (by kernel_rfl) rfl rfl
   ⟨st_plain rfl (op_assign _ _ _ _ rfl rfl),
   trivial⟩ ?_
  refine pt_then ?_
  refine ht_seq ?_
  obtain ⟨v1, hv1, h⟩ := bind_some h
  refine ht_seqR hn (El := [_, (3, .v (.int .u8 b)), (4, .v (.int .u8 v1)), (5, .v (.bool (v1 != 128))), (2, .v (.bool (v1 != 128)))]) (init := [0]) (fin := [4]) (sps := [⟨[0], [], [1], [(.slot 3)]⟩, ⟨[1], [], [2], [(.slot 4)]⟩, ⟨[2], [], [3], [(.slot 5)]⟩, ⟨[3], [], [4], [(.slot 2)]⟩]) (es' := [(2, .v (.bool (v1 != 128)))]) (by kernel_rfl) rfl rfl
   ⟨st_plain rfl (op_move _ _ _ _ rfl rfl),
   st_plain rfl (op_bin _ _ _ _ _ rfl rfl (ibind (f := Value.int .u8) (Option.some.inj hv1))),
   st_plain rfl (op_bin _ _ _ _ _ rfl rfl rfl),
   st_plain rfl (op_assign _ _ _ _ rfl rfl),
   trivial⟩ ?_
  refine pt_then ?_
  refine ht_ret ?_
  obtain rfl := Option.some.inj h
  exact pt_ret hio rfl (.tmp _ _ .nil) rfl rfl

set_option maxHeartbeats 1000000 in
theorem ok_unicode_utf8_decodeRuneInStringSlow (mx : Int) (s : ByteArray) (r : (Int × Int)) (h : Sh.unicode_utf8_decodeRuneInStringSlow s = some r) : FnG Tryd.prog (GL mx) 63 [.v (.string s)] (.tup [.v (.int .i32 r.1), .v (.int .i64 r.2)]) := by
  unfold Sh.unicode_utf8_decodeRuneInStringSlow at h
  refine fn_okG Tryd.func63 rfl (Nat.le_of_ble_eq_true rfl) rfl rfl fun g0 hn hio => ?_
  refine ht_seq ?_
  refine ht_seqR hn (El := [_, _, (2, .v (.int .i32 0)), (3, .v (.int .i64 0))]) (init := [0, 1]) (fin := [0, 1]) (sps := [⟨[], [], [2], [(.slot 2)]⟩, ⟨[], [], [3], [(.slot 3)]⟩]) (es' := [(_, _), (_, _)]) (by kernel_rfl) rfl rfl
   ⟨st_plain rfl (op_assign _ _ _ _ rfl rfl),
   st_plain rfl (op_assign _ _ _ _ rfl rfl),
   trivial⟩ ?_
  refine pt_then ?_
  refine ht_seq ?_
  refine ht_seqR hn (El := [_, _, (13, .v (.string s)), (14, .v (.int .i64 (s.size : Int))), (4, .v (.int .i64 (s.size : Int)))]) (init := [0, 1]) (fin := [0, 1, 4]) (sps := [⟨[0], [], [2], [(.slot 13)]⟩, ⟨[2], [], [3], [(.slot 14)]⟩, ⟨[3], [], [4], [(.slot 4)]⟩]) (es' := [(_, _), (_, _), (4, .v (.int .i64 (s.size : Int)))]) (by kernel_rfl) rfl rfl
   ⟨st_plain rfl (op_move _ _ _ _ rfl rfl),
   st_plain rfl (op_len_str _ _ _ Tryd.underlying9 rfl),
   st_plain rfl (op_assign _ _ _ _ rfl rfl),
   trivial⟩ ?_
  refine pt_then ?_
  refine ht_seq ?_
  refine ht_seq ?_
  refine ht_seqR hn (El := [_, _, _, (15, .v (.int .i64 (s.size : Int))), (16, .v (.bool ((decide ((s.size : Int) < 1)))))]) (init := [0, 1, 2]) (fin := [0, 1, 2, 4]) (sps := [⟨[2], [], [3], [(.slot 15)]⟩, ⟨[3], [], [4], [(.slot 16)]⟩]) (es' := [(_, _), (_, _), (_, _), (16, .v (.bool ((decide ((s.size : Int) < 1)))))]) (by kernel_rfl) rfl rfl
   ⟨st_plain rfl (op_move _ _ _ _ rfl rfl),
   st_plain rfl (op_bin _ _ _ _ _ rfl rfl rfl),
   trivial⟩ ?_
  refine pt_then ?_
  refine ht_cond _ rfl (fun hb1 => ?_) (fun hb1 => ?_)
  ·have h := cond_t hb1 h
   refine ht_seq ?_
   refine ht_seqR hn (El := [_, _, _, _, (2, .v (.int .i32 65533)), (3, .v (.int .i64 0))]) (init := [0, 1, 2, 3]) (fin := [1, 4, 5]) (sps := [⟨[], [], [4], [(.slot 2)]⟩, ⟨[], [], [5], [(.slot 3)]⟩]) (es' := [(_, _), (2, .v (.int .i32 65533)), (3, .v (.int .i64 0))]) (by kernel_rfl) rfl rfl
    ⟨st_plain rfl (op_assign _ _ _ _ rfl rfl),
    st_plain rfl (op_assign _ _ _ _ rfl rfl),
    trivial⟩ ?_
   refine pt_then ?_
   refine ht_ret ?_
   refine pt_pick [1, 2] (by kernel_rfl) (es' := [(_, _), (_, _)]) rfl ?_
   refine pt_r_then ?_
   obtain rfl := Option.some.inj h
   exact pt_ret hio rfl (.tmp _ _ (.tmp _ _ .nil)) rfl rfl
  ·have h := cond_f hb1 h
   cases h

set_option maxHeartbeats 1000000 in
theorem ok_unicode_utf8_DecodeRuneInString (mx : Int) (s : ByteArray) (r : (Int × Int)) (h : Sh.unicode_utf8_DecodeRuneInString s = some r) : FnG Tryd.prog (GL mx) 60 [.v (.string s)] (.tup [.v (.int .i32 r.1), .v (.int .i64 r.2)]) := by
  unfold Sh.unicode_utf8_DecodeRuneInString at h
  refine fn_okG Tryd.func60 rfl (Nat.le_of_ble_eq_true rfl) rfl rfl fun g0 hn hio => ?_
  refine ht_seq ?_
  refine ht_seqR hn (El := [_, _, (2, .v (.int .i32 0)), (3, .v (.int .i64 0))]) (init := [0, 1]) (fin := [0, 1]) (sps := [⟨[], [], [2], [(.slot 2)]⟩, ⟨[], [], [3], [(.slot 3)]⟩]) (es' := [(_, _), (_, _)]) (by kernel_rfl) rfl rfl
   ⟨st_plain rfl (op_assign _ _ _ _ rfl rfl),
   st_plain rfl (op_assign _ _ _ _ rfl rfl),
   trivial⟩ ?_
  refine pt_then ?_
  refine ht_seq ?_
  refine ht_seq ?_
  refine ht_joinS h (fun (s2 : Bool) => [(0, .v (.string s)), (19, .glob (GL mx)), (10, .v (.bool s2))]) ?_ ?_
  ·rintro s2 h
   refine pt_then ?_
   refine ht_cond _ rfl (fun hb6 => ?_) (fun hb6 => ?_)
   ·have h := cond_t hb6 h
    refine ht_seq ?_
    obtain ⟨v7, hv7, h⟩ := bind_some h
    obtain ⟨v8, hv8, h⟩ := bind_some h
    refine ht_seqR hn (El := [_, _, _, (11, .v (.string s)), (12, .v (.int .u8 v7)), (13, .v (.int .i32 v8)), (2, .v (.int .i32 v8)), (3, .v (.int .i64 1))]) (init := [0, 1, 2]) (fin := [1, 6, 7]) (sps := [⟨[0], [], [3], [(.slot 11)]⟩, ⟨[3], [], [4], [(.slot 12)]⟩, ⟨[4], [], [5], [(.slot 13)]⟩, ⟨[5], [], [6], [(.slot 2)]⟩, ⟨[], [], [7], [(.slot 3)]⟩]) (es' := [(_, _), (2, .v (.int .i32 v8)), (3, .v (.int .i64 1))]) (by kernel_rfl) rfl rfl
     ⟨st_plain rfl (op_move _ _ _ _ rfl rfl),
     st_plain rfl (op_chr _ _ _ 0 _ Tryd.underlying9 rfl rfl hv7),
     st_plain rfl ((Option.some.inj hv8) ▸ op_conv _ _ _ Tryd.underlying5 Tryd.underlying21 rfl),
     st_plain rfl (op_assign _ _ _ _ rfl rfl),
     st_plain rfl (op_assign _ _ _ _ rfl rfl),
     trivial⟩ ?_
    refine pt_then ?_
    refine ht_ret ?_
    refine pt_pick [1, 2] (by kernel_rfl) (es' := [(_, _), (_, _)]) rfl ?_
    refine pt_r_then ?_
    obtain rfl := Option.some.inj h
    exact pt_ret hio rfl (.tmp _ _ (.tmp _ _ .nil)) rfl rfl
   ·have h := cond_f hb6 h
    obtain ⟨v9, hv9, h⟩ := bind_some h
    refine ht_seqR hn (El := [_, _, _, (15, .v (.string s)), (16, .tup [.v (.int .i32 v9.1), .v (.int .i64 v9.2)]), (14, .tup [.v (.int .i32 v9.1), .v (.int .i64 v9.2)]), (17, .v (.int .i32 v9.1)), (18, .v (.int .i64 v9.2)), (2, .v (.int .i32 v9.1)), (3, .v (.int .i64 v9.2))]) (init := [0, 1, 2]) (fin := [1, 8, 9]) (sps := [⟨[0], [], [3], [(.slot 15)]⟩, ⟨[3, 1], [], [4], [(.slot 16)]⟩, ⟨[], [4], [5], [(.slot 14)]⟩, ⟨[5], [], [6], [(.slot 17)]⟩, ⟨[5], [], [7], [(.slot 18)]⟩, ⟨[6], [], [8], [(.slot 2)]⟩, ⟨[7], [], [9], [(.slot 3)]⟩]) (es' := [(_, _), (2, .v (.int .i32 v9.1)), (3, .v (.int .i64 v9.2))]) (by kernel_rfl) rfl rfl
     ⟨st_plain rfl (op_move _ _ _ _ rfl rfl),
     st_plain rfl (op_callG _ _ 19 63 _ _ rfl Tryd.call63 rfl rfl (fun _ h => h) (ok_unicode_utf8_decodeRuneInStringSlow mx s _ hv9) rfl rfl),
     st_plain rfl (op_move_take _ _ _ _ rfl),
     st_plain rfl (op_extract _ _ _ _ _ rfl rfl (Nat.le_of_ble_eq_true rfl) rfl rfl),
     st_plain rfl (op_extract _ _ _ _ _ rfl rfl (Nat.le_of_ble_eq_true rfl) rfl rfl),
     st_plain rfl (op_assign _ _ _ _ rfl rfl),
     st_plain rfl (op_assign _ _ _ _ rfl rfl),
     trivial⟩ ?_
    refine pt_then ?_
    refine ht_ret ?_
    refine pt_pick [1, 2] (by kernel_rfl) (es' := [(_, _), (_, _)]) rfl ?_
    obtain rfl := Option.some.inj h
    exact pt_ret hio rfl (.tmp _ _ (.tmp _ _ .nil)) rfl rfl
  ·intro u3 h hl4 hr5
   refine cond_some h (fun hg1_2 h => ?_) (fun hg1_2 h => ?_)
   ·obtain ⟨v1, hv1, h⟩ := bind_some h
    refine ht_seqR hn (El := [_, _, (4, .v (.string s)), (5, .v (.bool ((!(s.toList == (⟨#[]⟩ : ByteArray).toList))))), (6, .v (.bool true)), (7, .v (.string s)), (8, .v (.int .u8 v1)), (9, .v (.bool ((decide (v1 < 128))))), (10, .v (.bool ((decide (v1 < 128)))))]) (init := [0, 1]) (fin := [0, 1, 8]) (sps := [⟨[0], [], [2], [(.slot 4)]⟩, ⟨[2], [], [3], [(.slot 5)]⟩, ⟨[3], [], [4], [(.slot 6)]⟩, ⟨[4, 0], [], [5], [(.slot 7)]⟩, ⟨[4, 5], [], [6], [(.slot 8)]⟩, ⟨[4, 6], [], [7], [(.slot 9)]⟩, ⟨[4, 7], [], [8], [(.slot 10)]⟩]) (es' := [(_, _), (_, _), (10, .v (.bool ((decide (v1 < 128)))))]) (by kernel_rfl) rfl rfl
     ⟨st_plain rfl (op_move _ _ _ _ rfl rfl),
     st_plain rfl (op_bin _ _ _ _ _ rfl rfl rfl),
     st_plain rfl (op_move _ _ _ _ (congrArg (fun b => AV.v (Value.bool b)) hg1_2) rfl),
     st_run 2 6 true rfl rfl rfl (List.Mem.head _) (op_move _ _ _ _ rfl rfl),
     st_run 2 6 true rfl rfl rfl (List.Mem.head _) (op_chr _ _ _ 0 _ Tryd.underlying9 rfl rfl hv1),
     st_run 2 6 true rfl rfl rfl (List.Mem.head _) (op_bin _ _ _ _ _ rfl rfl rfl),
     st_plain rfl (op_pick _ _ true _ rfl rfl),
     trivial⟩ ?_
    exact hl4 _ (Option.some.inj h).symm
   ·refine ht_seqR hn (El := [_, _, (4, .v (.string s)), (5, .v (.bool ((!(s.toList == (⟨#[]⟩ : ByteArray).toList))))), (6, .v (.bool false)), (7, .v undef), (8, .v undef), (9, .v undef), (10, .v (.bool false))]) (init := [0, 1]) (fin := [0, 1, 8]) (sps := [⟨[0], [], [2], [(.slot 4)]⟩, ⟨[2], [], [3], [(.slot 5)]⟩, ⟨[3], [], [4], [(.slot 6)]⟩, ⟨[4], [], [5], [(.slot 7)]⟩, ⟨[4], [], [6], [(.slot 8)]⟩, ⟨[4], [], [7], [(.slot 9)]⟩, ⟨[4], [], [8], [(.slot 10)]⟩]) (es' := [(_, _), (_, _), (10, .v (.bool false))]) (by kernel_rfl) rfl rfl
     ⟨st_plain rfl (op_move _ _ _ _ rfl rfl),
     st_plain rfl (op_bin _ _ _ _ _ rfl rfl rfl),
     st_plain rfl (op_move _ _ _ _ (congrArg (fun b => AV.v (Value.bool b)) hg1_2) rfl),
     st_skip 2 6 _ true rfl rfl rfl rfl (List.Mem.head _),
     st_skip 2 6 _ true rfl rfl rfl rfl (List.Mem.head _),
     st_skip 2 6 _ true rfl rfl rfl rfl (List.Mem.head _),
     st_plain rfl (op_pick _ _ false _ rfl rfl),
     trivial⟩ ?_
    exact hl4 _ (Option.some.inj h).symm

set_option maxHeartbeats 1000000 in
theorem ok_unicode_utf8_DecodeLastRuneInString (mx : Int) (s : ByteArray) (r : (Int × Int)) (h : Sh.unicode_utf8_DecodeLastRuneInString s = some r) : FnG Tryd.prog (GL mx) 47 [.v (.string s)] (.tup [.v (.int .i32 r.1), .v (.int .i64 r.2)]) := by
  unfold Sh.unicode_utf8_DecodeLastRuneInString at h
  refine fn_okG Tryd.func47 rfl (Nat.le_of_ble_eq_true rfl) rfl rfl fun g0 hn hio => ?_
  refine ht_seq ?_
  refine ht_seqR hn (El := [_, _, (2, .v (.int .i32 0)), (3, .v (.int .i64 0))]) (init := [0, 1]) (fin := [0, 1]) (sps := [⟨[], [], [2], [(.slot 2)]⟩, ⟨[], [], [3], [(.slot 3)]⟩]) (es' := [(_, _), (_, _)]) (by kernel_rfl) rfl rfl
   ⟨st_plain rfl (op_assign _ _ _ _ rfl rfl),
   st_plain rfl (op_assign _ _ _ _ rfl rfl),
   trivial⟩ ?_
  refine pt_then ?_
  refine ht_seq ?_
  refine ht_seqR hn (El := [_, _, (7, .v (.string s)), (8, .v (.int .i64 (s.size : Int))), (4, .v (.int .i64 (s.size : Int)))]) (init := [0, 1]) (fin := [0, 1, 4]) (sps := [⟨[0], [], [2], [(.slot 7)]⟩, ⟨[2], [], [3], [(.slot 8)]⟩, ⟨[3], [], [4], [(.slot 4)]⟩]) (es' := [(_, _), (_, _), (4, .v (.int .i64 (s.size : Int)))]) (by kernel_rfl) rfl rfl
   ⟨st_plain rfl (op_move _ _ _ _ rfl rfl),
   st_plain rfl (op_len_str _ _ _ Tryd.underlying9 rfl),
   st_plain rfl (op_assign _ _ _ _ rfl rfl),
   trivial⟩ ?_
  refine pt_then ?_
  refine ht_seq ?_
  refine ht_seq ?_
  refine ht_seqR hn (El := [_, _, _, (9, .v (.int .i64 (s.size : Int))), (10, .v (.bool (((s.size : Int) == 0))))]) (init := [0, 1, 2]) (fin := [0, 1, 2, 4]) (sps := [⟨[2], [], [3], [(.slot 9)]⟩, ⟨[3], [], [4], [(.slot 10)]⟩]) (es' := [(_, _), (_, _), (_, _), (10, .v (.bool (((s.size : Int) == 0))))]) (by kernel_rfl) rfl rfl
   ⟨st_plain rfl (op_move _ _ _ _ rfl rfl),
   st_plain rfl (op_bin _ _ _ _ _ rfl rfl rfl),
   trivial⟩ ?_
  refine pt_then ?_
  refine ht_cond _ rfl (fun hb1 => ?_) (fun hb1 => ?_)
  ·have h := cond_t hb1 h
   refine ht_seq ?_
   refine ht_seqR hn (El := [_, _, _, _, (2, .v (.int .i32 65533)), (3, .v (.int .i64 0))]) (init := [0, 1, 2, 3]) (fin := [1, 4, 5]) (sps := [⟨[], [], [4], [(.slot 2)]⟩, ⟨[], [], [5], [(.slot 3)]⟩]) (es' := [(_, _), (2, .v (.int .i32 65533)), (3, .v (.int .i64 0))]) (by kernel_rfl) rfl rfl
    ⟨st_plain rfl (op_assign _ _ _ _ rfl rfl),
    st_plain rfl (op_assign _ _ _ _ rfl rfl),
    trivial⟩ ?_
   refine pt_then ?_
   refine ht_ret ?_
   refine pt_pick [1, 2] (by kernel_rfl) (es' := [(_, _), (_, _)]) rfl ?_
   refine pt_r_then ?_
   obtain rfl := Option.some.inj h
   exact pt_ret hio rfl (.tmp _ _ (.tmp _ _ .nil)) rfl rfl
  ·have h := cond_f hb1 h
   refine ht_skip ?_
   refine pt_then ?_
   refine ht_seq ?_
   obtain ⟨v2, hv2, h⟩ := bind_some h
   refine ht_seqR hn (El := [_, _, _, _, (11, .v (.int .i64 (s.size : Int))), (12, .v (.int .i64 v2)), (5, .v (.int .i64 v2))]) (init := [0, 1, 2, 3]) (fin := [0, 1, 2, 6]) (sps := [⟨[2], [], [4], [(.slot 11)]⟩, ⟨[4], [], [5], [(.slot 12)]⟩, ⟨[5], [], [6], [(.slot 5)]⟩]) (es' := [(_, _), (_, _), (_, _), (5, .v (.int .i64 v2))]) (by kernel_rfl) rfl rfl
    ⟨st_plain rfl (op_move _ _ _ _ rfl rfl),
    st_plain rfl (op_bin _ _ _ _ _ rfl rfl (ibind (f := Value.int .i64) (Option.some.inj hv2))),
    st_plain rfl (op_assign _ _ _ _ rfl rfl),
    trivial⟩ ?_
   refine pt_then ?_
   refine ht_seq ?_
   obtain ⟨v3, hv3, h⟩ := bind_some h
   obtain ⟨v4, hv4, h⟩ := bind_some h
   refine ht_seqR hn (El := [_, _, _, _, (13, .v (.string s)), (14, .v (.int .i64 v2)), (15, .v (.int .u8 v3)), (16, .v (.int .i32 v4)), (2, .v (.int .i32 v4))]) (init := [0, 1, 2, 3]) (fin := [0, 1, 2, 3, 8]) (sps := [⟨[0], [], [4], [(.slot 13)]⟩, ⟨[3], [], [5], [(.slot 14)]⟩, ⟨[4, 5], [], [6], [(.slot 15)]⟩, ⟨[6], [], [7], [(.slot 16)]⟩, ⟨[7], [], [8], [(.slot 2)]⟩]) (es' := [(_, _), (_, _), (_, _), (_, _), (2, .v (.int .i32 v4))]) (by kernel_rfl) rfl rfl
    ⟨st_plain rfl (op_move _ _ _ _ rfl rfl),
    st_plain rfl (op_move _ _ _ _ rfl rfl),
    st_plain rfl (op_chr _ _ _ v2 _ Tryd.underlying9 rfl rfl hv3),
    st_plain rfl ((Option.some.inj hv4) ▸ op_conv _ _ _ Tryd.underlying5 Tryd.underlying21 rfl),
    st_plain rfl (op_assign _ _ _ _ rfl rfl),
    trivial⟩ ?_
   refine pt_then ?_
   refine ht_seq ?_
   refine ht_seq ?_
   refine ht_seqR hn (El := [_, _, _, _, _, (17, .v (.int .i32 v4)), (18, .v (.bool ((decide (v4 < 128)))))]) (init := [0, 1, 2, 3, 4]) (fin := [0, 1, 2, 3, 4, 6]) (sps := [⟨[4], [], [5], [(.slot 17)]⟩, ⟨[5], [], [6], [(.slot 18)]⟩]) (es' := [(_, _), (_, _), (_, _), (_, _), (_, _), (18, .v (.bool ((decide (v4 < 128)))))]) (by kernel_rfl) rfl rfl
    ⟨st_plain rfl (op_move _ _ _ _ rfl rfl),
    st_plain rfl (op_bin _ _ _ _ _ rfl rfl rfl),
    trivial⟩ ?_
   refine pt_then ?_
   refine ht_cond _ rfl (fun hb5 => ?_) (fun hb5 => ?_)
   ·have h := cond_t hb5 h
    refine ht_seq ?_
    refine ht_seqR hn (El := [_, _, _, _, _, _, (19, .v (.int .i32 v4)), (2, .v (.int .i32 v4)), (3, .v (.int .i64 1))]) (init := [0, 1, 2, 3, 4, 5]) (fin := [1, 7, 8]) (sps := [⟨[4], [], [6], [(.slot 19)]⟩, ⟨[6], [4], [7], [(.slot 2)]⟩, ⟨[], [], [8], [(.slot 3)]⟩]) (es' := [(_, _), (2, .v (.int .i32 v4)), (3, .v (.int .i64 1))]) (by kernel_rfl) rfl rfl
     ⟨st_plain rfl (op_move _ _ _ _ rfl rfl),
     st_plain rfl (LOp.drop [_] (op_assign _ _ _ _ rfl rfl)),
     st_plain rfl (op_assign _ _ _ _ rfl rfl),
     trivial⟩ ?_
    refine pt_then ?_
    refine ht_ret ?_
    refine pt_pick [1, 2] (by kernel_rfl) (es' := [(_, _), (_, _)]) rfl ?_
    refine pt_r_then ?_
    obtain rfl := Option.some.inj h
    exact pt_ret hio rfl (.tmp _ _ (.tmp _ _ .nil)) rfl rfl
   ·have h := cond_f hb5 h
    refine ht_skip ?_
    refine pt_then ?_
    refine ht_seq ?_
    obtain ⟨v6, hv6, h⟩ := bind_some h
    obtain ⟨v7, hv7, h⟩ := bind_some h
    refine ht_seqR hn (El := [_, _, _, _, _, _, (20, .v (.int .i64 (s.size : Int))), (21, .v (.int .i64 v6)), (22, .v (.int .i64 v7)), (6, .v (.int .i64 v7))]) (init := [0, 1, 2, 3, 4, 5]) (fin := [0, 1, 2, 3, 9]) (sps := [⟨[2], [], [6], [(.slot 20)]⟩, ⟨[6], [], [7], [(.slot 21)]⟩, ⟨[7], [], [8], [(.slot 22)]⟩, ⟨[8], [], [9], [(.slot 6)]⟩]) (es' := [(_, _), (_, _), (_, _), (_, _), (6, .v (.int .i64 v7))]) (by kernel_rfl) rfl rfl
     ⟨st_plain rfl (op_move _ _ _ _ rfl rfl),
     st_plain rfl (op_bin _ _ _ _ _ rfl rfl (ibind (f := Value.int .i64) (Option.some.inj hv6))),
     st_plain rfl ((Option.some.inj hv7) ▸ op_max _ _ _ _ rfl rfl),
     st_plain rfl (op_assign _ _ _ _ rfl rfl),
     trivial⟩ ?_
    refine pt_then ?_
    refine ht_seq ?_
    refine ht_joinS h (fun (s29 : Int) => [(0, .v (.string s)), (51, .glob (GL mx)), (4, .v (.int .i64 (s.size : Int))), (5, .v (.int .i64 s29))]) ?_ ?_
    ·rintro s29 h
     refine pt_then ?_
     refine ht_seq ?_
     refine ht_joinS h (fun (s51 : Int) => [(0, .v (.string s)), (51, .glob (GL mx)), (4, .v (.int .i64 (s.size : Int))), (5, .v (.int .i64 s51))]) ?_ ?_
     ·rintro s51 h
      refine pt_then ?_
      refine ht_seq ?_
      obtain ⟨v56, hv56, h⟩ := bind_some h
      obtain ⟨v57, hv57, h⟩ := bind_some h
      refine ht_seqR hn (El := [_, _, _, _, (37, .v (.string s)), (38, .v (.int .i64 s51)), (39, .v (.int .i64 (s.size : Int))), (40, .v (.string v56)), (41, .tup [.v (.int .i32 v57.1), .v (.int .i64 v57.2)]), (36, .tup [.v (.int .i32 v57.1), .v (.int .i64 v57.2)]), (42, .v (.int .i32 v57.1)), (43, .v (.int .i64 v57.2)), (2, .v (.int .i32 v57.1)), (3, .v (.int .i64 v57.2))]) (init := [0, 1, 2, 3]) (fin := [1, 2, 3, 12, 13]) (sps := [⟨[0], [], [4], [(.slot 37)]⟩, ⟨[3], [], [5], [(.slot 38)]⟩, ⟨[2], [], [6], [(.slot 39)]⟩, ⟨[4, 5, 6], [], [7], [(.slot 40)]⟩, ⟨[7, 1], [], [8], [(.slot 41)]⟩, ⟨[], [8], [9], [(.slot 36)]⟩, ⟨[9], [], [10], [(.slot 42)]⟩, ⟨[9], [], [11], [(.slot 43)]⟩, ⟨[10], [], [12], [(.slot 2)]⟩, ⟨[11], [], [13], [(.slot 3)]⟩]) (es' := [(_, _), (_, _), (_, _), (2, .v (.int .i32 v57.1)), (3, .v (.int .i64 v57.2))]) (by kernel_rfl) rfl rfl
       ⟨st_plain rfl (op_move _ _ _ _ rfl rfl),
       st_plain rfl (op_move _ _ _ _ rfl rfl),
       st_plain rfl (op_move _ _ _ _ rfl rfl),
       st_plain rfl (op_substr _ _ _ s51 (s.size : Int) _ Tryd.underlying9 rfl ⟨_, rfl⟩ ⟨_, rfl⟩ hv56),
       st_plain rfl (op_callG _ _ 51 60 _ _ rfl Tryd.call60 rfl rfl (fun _ h => h) (ok_unicode_utf8_DecodeRuneInString mx v56 _ hv57) rfl rfl),
       st_plain rfl (op_move_take _ _ _ _ rfl),
       st_plain rfl (op_extract _ _ _ _ _ rfl rfl (Nat.le_of_ble_eq_true rfl) rfl rfl),
       st_plain rfl (op_extract _ _ _ _ _ rfl rfl (Nat.le_of_ble_eq_true rfl) rfl rfl),
       st_plain rfl (op_assign _ _ _ _ rfl rfl),
       st_plain rfl (op_assign _ _ _ _ rfl rfl),
       trivial⟩ ?_
      refine pt_then ?_
      refine ht_seq ?_
      refine ht_seq ?_
      obtain ⟨v58, hv58, h⟩ := bind_some h
      refine ht_seqR hn (El := [_, _, _, _, _, (44, .v (.int .i64 s51)), (45, .v (.int .i64 v57.2)), (46, .v (.int .i64 v58)), (47, .v (.int .i64 (s.size : Int))), (48, .v (.bool ((v58 != (s.size : Int)))))]) (init := [0, 1, 2, 3, 4]) (fin := [0, 3, 4, 9]) (sps := [⟨[2], [], [5], [(.slot 44)]⟩, ⟨[4], [], [6], [(.slot 45)]⟩, ⟨[5, 6], [], [7], [(.slot 46)]⟩, ⟨[1], [], [8], [(.slot 47)]⟩, ⟨[7, 8], [], [9], [(.slot 48)]⟩]) (es' := [(_, _), (_, _), (_, _), (48, .v (.bool ((v58 != (s.size : Int)))))]) (by kernel_rfl) rfl rfl
       ⟨st_plain rfl (op_move _ _ _ _ rfl rfl),
       st_plain rfl (op_move _ _ _ _ rfl rfl),
       st_plain rfl (op_bin _ _ _ _ _ rfl rfl (ibind (f := Value.int .i64) (Option.some.inj hv58))),
       st_plain rfl (op_move _ _ _ _ rfl rfl),
       st_plain rfl (op_bin _ _ _ _ _ rfl rfl rfl),
       trivial⟩ ?_
      refine pt_then ?_
      refine ht_cond _ rfl (fun hb59 => ?_) (fun hb59 => ?_)
      ·have h := cond_t hb59 h
       refine ht_seq ?_
       refine ht_seqR hn (El := [_, _, _, _, (2, .v (.int .i32 65533)), (3, .v (.int .i64 1))]) (init := [0, 1, 2, 3]) (fin := [0, 4, 5]) (sps := [⟨[], [1], [4], [(.slot 2)]⟩, ⟨[], [2], [5], [(.slot 3)]⟩]) (es' := [(_, _), (2, .v (.int .i32 65533)), (3, .v (.int .i64 1))]) (by kernel_rfl) rfl rfl
        ⟨st_plain rfl (LOp.drop [_] (op_assign _ _ _ _ rfl rfl)),
        st_plain rfl (LOp.drop [_] (op_assign _ _ _ _ rfl rfl)),
        trivial⟩ ?_
       refine pt_then ?_
       refine ht_ret ?_
       refine pt_pick [1, 2] (by kernel_rfl) (es' := [(_, _), (_, _)]) rfl ?_
       refine pt_r_then ?_
       obtain rfl := Option.some.inj h
       exact pt_ret hio rfl (.tmp _ _ (.tmp _ _ .nil)) rfl rfl
      ·have h := cond_f hb59 h
       refine ht_skip ?_
       refine pt_then ?_
       refine ht_seq ?_
       refine ht_seqR hn (El := [_, _, _, _, (49, .v (.int .i32 v57.1)), (50, .v (.int .i64 v57.2)), (2, .v (.int .i32 v57.1)), (3, .v (.int .i64 v57.2))]) (init := [0, 1, 2, 3]) (fin := [0, 6, 7]) (sps := [⟨[1], [], [4], [(.slot 49)]⟩, ⟨[2], [], [5], [(.slot 50)]⟩, ⟨[4], [1], [6], [(.slot 2)]⟩, ⟨[5], [2], [7], [(.slot 3)]⟩]) (es' := [(_, _), (2, .v (.int .i32 v57.1)), (3, .v (.int .i64 v57.2))]) (by kernel_rfl) rfl rfl
        ⟨st_plain rfl (op_move _ _ _ _ rfl rfl),
        st_plain rfl (op_move _ _ _ _ rfl rfl),
        st_plain rfl (LOp.drop [_] (op_assign _ _ _ _ rfl rfl)),
        st_plain rfl (LOp.drop [_] (op_assign _ _ _ _ rfl rfl)),
        trivial⟩ ?_
       refine pt_then ?_
       refine ht_ret ?_
       refine pt_pick [1, 2] (by kernel_rfl) (es' := [(_, _), (_, _)]) rfl ?_
       obtain rfl := Option.some.inj h
       exact pt_ret hio rfl (.tmp _ _ (.tmp _ _ .nil)) rfl rfl
     ·intro u52 h hl53 hr54
      refine ht_seq ?_
      refine ht_seqR hn (El := [_, _, _, _, (34, .v (.int .i64 s29)), (35, .v (.bool ((decide (s29 < 0)))))]) (init := [0, 1, 2, 3]) (fin := [0, 1, 2, 3, 5]) (sps := [⟨[3], [], [4], [(.slot 34)]⟩, ⟨[4], [], [5], [(.slot 35)]⟩]) (es' := [(_, _), (_, _), (_, _), (_, _), (35, .v (.bool ((decide (s29 < 0)))))]) (by kernel_rfl) rfl rfl
       ⟨st_plain rfl (op_move _ _ _ _ rfl rfl),
       st_plain rfl (op_bin _ _ _ _ _ rfl rfl rfl),
       trivial⟩ ?_
      refine pt_then ?_
      refine ht_cond _ rfl (fun hb55 => ?_) (fun hb55 => ?_)
      ·have h := cond_t hb55 h
       refine ht_seqR hn (El := [_, _, _, _, _, (5, .v (.int .i64 0))]) (init := [0, 1, 2, 3, 4]) (fin := [0, 1, 2, 5]) (sps := [⟨[], [3], [5], [(.slot 5)]⟩]) (es' := [(_, _), (_, _), (_, _), (5, .v (.int .i64 0))]) (by kernel_rfl) rfl rfl
        ⟨st_plain rfl (LOp.drop [_] (op_assign _ _ _ _ rfl rfl)),
        trivial⟩ ?_
       exact hl53 _ (Option.some.inj h).symm
      ·have h := cond_f hb55 h
       refine ht_skip ?_
       refine pt_pick [0, 1, 2, 3] (by kernel_rfl) (es' := [(_, _), (_, _), (_, _), (_, _)]) rfl ?_
       exact hl53 _ (Option.some.inj h).symm
    ·intro u30 h hl31 hr32
     refine ht_seq ?_
     obtain ⟨v8, hv8, h⟩ := bind_some h
     refine ht_seqR hn (El := [_, _, _, _, _, (23, .v (.int .i64 v2)), (24, .v (.int .i64 v8)), (5, .v (.int .i64 v8))]) (init := [0, 1, 2, 3, 4]) (fin := [0, 1, 2, 4, 7]) (sps := [⟨[3], [], [5], [(.slot 23)]⟩, ⟨[5], [], [6], [(.slot 24)]⟩, ⟨[6], [3], [7], [(.slot 5)]⟩]) (es' := [(_, _), (_, _), (_, _), (_, _), (5, .v (.int .i64 v8))]) (by kernel_rfl) rfl rfl
      ⟨st_plain rfl (op_move _ _ _ _ rfl rfl),
      st_plain rfl (op_bin _ _ _ _ _ rfl rfl (ibind (f := Value.int .i64) (Option.some.inj hv8))),
      st_plain rfl (LOp.drop [_] (op_assign _ _ _ _ rfl rfl)),
      trivial⟩ ?_
     refine pt_then ?_
     refine ht_loopS h (fun (s38 : Int) => [(0, .v (.string s)), (51, .glob (GL mx)), (4, .v (.int .i64 (s.size : Int))), (6, .v (.int .i64 v7)), (5, .v (.int .i64 s38))]) (fun (s41 : Int) => [(0, .v (.string s)), (51, .glob (GL mx)), (4, .v (.int .i64 (s.size : Int))), (5, .v (.int .i64 s41))]) ?_ ?_
     ·rintro s41 h
      exact hl31 _ (Option.some.inj h).symm
     ·rintro u42 hl43 hr44 s38 rr47 h ho45
      refine ht_seq ?_
      refine ht_seq ?_
      refine ht_seqR hn (El := [_, _, _, _, _, (25, .v (.int .i64 s38)), (26, .v (.int .i64 v7)), (27, .v (.bool ((decide (v7 ≤ s38)))))]) (init := [0, 1, 2, 3, 4]) (fin := [0, 1, 2, 3, 4, 7]) (sps := [⟨[4], [], [5], [(.slot 25)]⟩, ⟨[3], [], [6], [(.slot 26)]⟩, ⟨[5, 6], [], [7], [(.slot 27)]⟩]) (es' := [(_, _), (_, _), (_, _), (_, _), (_, _), (27, .v (.bool ((decide (v7 ≤ s38)))))]) (by kernel_rfl) rfl rfl
       ⟨st_plain rfl (op_move _ _ _ _ rfl rfl),
       st_plain rfl (op_move _ _ _ _ rfl rfl),
       st_plain rfl (op_bin _ _ _ _ _ rfl rfl rfl),
       trivial⟩ ?_
      refine pt_then ?_
      refine ht_cond _ rfl (fun hb48 => ?_) (fun hb48 => ?_)
      ·have h := cond_t hb48 h
       refine ht_skip ?_
       refine pt_then ?_
       refine ht_seq ?_
       refine ht_block ?_
       refine ht_seq ?_
       obtain ⟨v10, hv10, h⟩ := bind_some h
       obtain ⟨v11, hv11, h⟩ := bind_some h
       refine ht_seqR hn (El := [_, _, _, _, _, _, (30, .v (.string s)), (31, .v (.int .i64 s38)), (32, .v (.int .u8 v10)), (33, .v (.bool v11))]) (init := [0, 1, 2, 3, 4, 5]) (fin := [0, 1, 2, 3, 4, 9]) (sps := [⟨[0], [], [6], [(.slot 30)]⟩, ⟨[4], [], [7], [(.slot 31)]⟩, ⟨[6, 7], [], [8], [(.slot 32)]⟩, ⟨[8], [], [9], [(.slot 33)]⟩]) (es' := [(_, _), (_, _), (_, _), (_, _), (_, _), (33, .v (.bool v11))]) (by kernel_rfl) rfl rfl
        ⟨st_plain rfl (op_move _ _ _ _ rfl rfl),
        st_plain rfl (op_move _ _ _ _ rfl rfl),
        st_plain rfl (op_chr _ _ _ s38 _ Tryd.underlying9 rfl rfl hv10),
        st_plain rfl (op_call _ _ 59 _ _ rfl Tryd.call59 rfl (ok_unicode_utf8_RuneStart v10 _ hv11) rfl rfl),
        trivial⟩ ?_
       refine pt_then ?_
       refine ht_cond _ rfl (fun hb49 => ?_) (fun hb49 => ?_)
       ·have h := cond_t hb49 h
        refine ht_exit ?_
        refine pt_x_out (by decide) ?_
        refine pt_x_then ?_
        refine pt_x_then ?_
        refine pt_x_in ?_
        refine pt_pick [0, 1, 2, 4] (by kernel_rfl) (es' := [(_, _), (_, _), (_, _), (_, _)]) rfl ?_
        exact hl43 _ (ho45 _ (Option.some.inj h).symm).symm
       ·have h := cond_f hb49 h
        refine ht_skip ?_
        refine pt_inb ?_
        refine pt_then ?_
        obtain ⟨v13, hv13, h⟩ := bind_some h
        refine ht_seqR hn (El := [_, _, _, _, _, _, (28, .v (.int .i64 s38)), (29, .v (.int .i64 v13)), (5, .v (.int .i64 v13))]) (init := [0, 1, 2, 3, 4, 5]) (fin := [0, 1, 2, 3, 8]) (sps := [⟨[4], [], [6], [(.slot 28)]⟩, ⟨[6], [], [7], [(.slot 29)]⟩, ⟨[7], [4], [8], [(.slot 5)]⟩]) (es' := [(_, _), (_, _), (_, _), (_, _), (5, .v (.int .i64 v13))]) (by kernel_rfl) rfl rfl
         ⟨st_plain rfl (op_move _ _ _ _ rfl rfl),
         st_plain rfl (op_bin _ _ _ _ _ rfl rfl (ibind (f := Value.int .i64) (Option.some.inj hv13))),
         st_plain rfl (LOp.drop [_] (op_assign _ _ _ _ rfl rfl)),
         trivial⟩ ?_
        exact pt_next _ (Option.some.inj h).symm rfl
      ·have h := cond_f hb48 h
       refine ht_exit ?_
       refine pt_x_then ?_
       refine pt_x_then ?_
       refine pt_x_in ?_
       refine pt_pick [0, 1, 2, 4] (by kernel_rfl) (es' := [(_, _), (_, _), (_, _), (_, _)]) rfl ?_
       exact hl43 _ (ho45 _ (Option.some.inj h).symm).symm

set_option maxHeartbeats 1000000 in
theorem ok_strings_trimRightUnicode (mx : Int) (s : ByteArray) (cutset : ByteArray) (r : ByteArray) (h : Sh.strings_trimRightUnicode s cutset = some r) : FnG Tryd.prog (GL mx) 36 [.v (.string s), .v (.string cutset)] (.v (.string r)) := by
  unfold Sh.strings_trimRightUnicode at h
  refine fn_okG Tryd.func36 rfl (Nat.le_of_ble_eq_true rfl) rfl rfl fun g0 hn hio => ?_
  refine ht_seq ?_
  refine ht_seqR hn (El := [_, _, _, (4, .v (.string (⟨#[]⟩ : ByteArray)))]) (init := [0, 1, 2]) (fin := [0, 1, 2]) (sps := [⟨[], [], [3], [(.slot 4)]⟩]) (es' := [(_, _), (_, _), (_, _)]) (by kernel_rfl) rfl rfl
   ⟨st_plain rfl (op_assign _ _ _ _ rfl rfl),
   trivial⟩ ?_
  refine pt_then ?_
  refine ht_seq ?_
  refine ht_loopS h (fun (() : Unit) => [(0, .v (.string s)), (1, .v (.string cutset)), (34, .glob (GL mx))]) (fun (() : Unit) => [(0, .v (.string s)), (34, .glob (GL mx))]) ?_ ?_
  ·rintro ⟨⟩ h
   refine pt_then ?_
   refine ht_seq ?_
   refine ht_seqR hn (El := [_, _, (33, .v (.string s)), (4, .v (.string s))]) (init := [0, 1]) (fin := [1, 3]) (sps := [⟨[0], [], [2], [(.slot 33)]⟩, ⟨[2], [], [3], [(.slot 4)]⟩]) (es' := [(_, _), (4, .v (.string s))]) (by kernel_rfl) rfl rfl
    ⟨st_plain rfl (op_move _ _ _ _ rfl rfl),
    st_plain rfl (op_assign _ _ _ _ rfl rfl),
    trivial⟩ ?_
   refine pt_then ?_
   refine ht_ret ?_
   refine pt_pick [1] (by kernel_rfl) (es' := [(_, _)]) rfl ?_
   obtain rfl := Option.some.inj h
   exact pt_ret hio rfl (.tmp _ _ .nil) rfl rfl
  ·rintro u21 hl22 hr23 ⟨⟩ rr26 h ho24
   refine ht_seq ?_
   refine ht_seq ?_
   refine ht_seqR hn (El := [_, _, _, (7, .v (.string s)), (8, .v (.int .i64 (s.size : Int))), (9, .v (.bool ((decide (0 < (s.size : Int))))))]) (init := [0, 1, 2]) (fin := [0, 1, 2, 5]) (sps := [⟨[0], [], [3], [(.slot 7)]⟩, ⟨[3], [], [4], [(.slot 8)]⟩, ⟨[4], [], [5], [(.slot 9)]⟩]) (es' := [(_, _), (_, _), (_, _), (9, .v (.bool ((decide (0 < (s.size : Int))))))]) (by kernel_rfl) rfl rfl
    ⟨st_plain rfl (op_move _ _ _ _ rfl rfl),
    st_plain rfl (op_len_str _ _ _ Tryd.underlying9 rfl),
    st_plain rfl (op_bin _ _ _ _ _ rfl rfl rfl),
    trivial⟩ ?_
   refine pt_then ?_
   refine ht_cond _ rfl (fun hb27 => ?_) (fun hb27 => ?_)
   ·have h := cond_t hb27 h
    cases h
   ·have h := cond_f hb27 h
    refine ht_exit ?_
    refine pt_x_then ?_
    refine pt_x_then ?_
    refine pt_x_in ?_
    refine pt_pick [0, 2] (by kernel_rfl) (es' := [(_, _), (_, _)]) rfl ?_
    exact hl22 _ (ho24 _ (Option.some.inj h).symm).symm

end Go.Proofs.YtadkeipbkbkneaaDoor
