/-
  The model's runs are what is told in Lean.
-/
import Derived.Test.YtjhpgfccojoajaaDoorProg
import Derived.KernelRfl
import Derived.Test.YtjhpgfccojoajaaDoorOkc1
set_option linter.unusedVariables false
set_option linter.unusedSimpArgs false
namespace Go.Proofs.YtjhpgfccojoajaaDoor
open Go.Abs Go.Abs.Sh

set_option maxHeartbeats 1000000 in
theorem ok_wherrylaw09_DigestKnown (mx : Int) (i : Int) (r : Bool) (h : Sh.wherrylaw09_DigestKnown i = some r) : FnG Tryd.prog (GL mx) 4 [.v (.int .i64 i)] (.v (.bool r)) := by
  unfold Sh.wherrylaw09_DigestKnown at h
  refine fn_okG Tryd.func4 rfl (Nat.le_of_ble_eq_true rfl) rfl rfl fun g0 hn hio => ?_
  refine ht_seq ?_
  refine ht_seqR hn (El := [_, _, (2, .v (.bool false))]) (init := [0, 1]) (fin := [0, 1]) (sps := [⟨[], [], [2], [(.slot 2)]⟩]) (es' := [(_, _), (_, _)]) (by kernel_rfl) rfl rfl
   ⟨st_plain rfl (op_assign _ _ _ _ rfl rfl),
   trivial⟩ ?_
  refine pt_then ?_
  refine ht_seq ?_
  refine ht_seqR hn (El := [_, _, (10, .fl (.own 9) 1 (List.map Value.string ([(⟨#[]⟩ : ByteArray), (⟨#[97]⟩ : ByteArray), (⟨#[109, 101, 115, 115, 97, 103, 101, 32, 100, 105, 103, 101, 115, 116]⟩ : ByteArray), (⟨#[97, 98, 99, 100, 101, 102, 103, 104, 105, 106, 107, 108, 109, 110, 111, 112, 113, 114, 115, 116, 117, 118, 119, 120, 121, 122]⟩ : ByteArray), (⟨#[49, 50, 51, 52, 53, 54, 55, 56, 57, 48, 49, 50, 51, 52, 53, 54, 55, 56, 57, 48, 49, 50, 51, 52, 53, 54, 55, 56, 57, 48, 49, 50, 51, 52, 53, 54, 55, 56, 57, 48, 49, 50, 51, 52, 53, 54, 55, 56, 57, 48, 49, 50, 51, 52, 53, 54, 55, 56, 57, 48, 49, 50, 51, 52, 53, 54, 55, 56, 57, 48, 49, 50, 51, 52, 53, 54, 55, 56, 57, 48]⟩ : ByteArray)]))), (3, .fl (.own 9) 1 (List.map Value.string ([(⟨#[]⟩ : ByteArray), (⟨#[97]⟩ : ByteArray), (⟨#[109, 101, 115, 115, 97, 103, 101, 32, 100, 105, 103, 101, 115, 116]⟩ : ByteArray), (⟨#[97, 98, 99, 100, 101, 102, 103, 104, 105, 106, 107, 108, 109, 110, 111, 112, 113, 114, 115, 116, 117, 118, 119, 120, 121, 122]⟩ : ByteArray), (⟨#[49, 50, 51, 52, 53, 54, 55, 56, 57, 48, 49, 50, 51, 52, 53, 54, 55, 56, 57, 48, 49, 50, 51, 52, 53, 54, 55, 56, 57, 48, 49, 50, 51, 52, 53, 54, 55, 56, 57, 48, 49, 50, 51, 52, 53, 54, 55, 56, 57, 48, 49, 50, 51, 52, 53, 54, 55, 56, 57, 48, 49, 50, 51, 52, 53, 54, 55, 56, 57, 48, 49, 50, 51, 52, 53, 54, 55, 56, 57, 48]⟩ : ByteArray)])))]) (init := [0, 1]) (fin := [0, 1, 3]) (sps := [⟨[], [], [2], [(.slot 10)]⟩, ⟨[], [2], [3], [(.slot 3)]⟩]) (es' := [(_, _), (_, _), (3, .fl (.own 9) 1 (List.map Value.string ([(⟨#[]⟩ : ByteArray), (⟨#[97]⟩ : ByteArray), (⟨#[109, 101, 115, 115, 97, 103, 101, 32, 100, 105, 103, 101, 115, 116]⟩ : ByteArray), (⟨#[97, 98, 99, 100, 101, 102, 103, 104, 105, 106, 107, 108, 109, 110, 111, 112, 113, 114, 115, 116, 117, 118, 119, 120, 121, 122]⟩ : ByteArray), (⟨#[49, 50, 51, 52, 53, 54, 55, 56, 57, 48, 49, 50, 51, 52, 53, 54, 55, 56, 57, 48, 49, 50, 51, 52, 53, 54, 55, 56, 57, 48, 49, 50, 51, 52, 53, 54, 55, 56, 57, 48, 49, 50, 51, 52, 53, 54, 55, 56, 57, 48, 49, 50, 51, 52, 53, 54, 55, 56, 57, 48, 49, 50, 51, 52, 53, 54, 55, 56, 57, 48, 49, 50, 51, 52, 53, 54, 55, 56, 57, 48]⟩ : ByteArray)])))]) (by kernel_rfl) rfl rfl
   ⟨st_plain rfl (op_buildSlice _ _ 1 (.string ByteArray.empty) (List.map Value.string ([(⟨#[]⟩ : ByteArray), (⟨#[97]⟩ : ByteArray), (⟨#[109, 101, 115, 115, 97, 103, 101, 32, 100, 105, 103, 101, 115, 116]⟩ : ByteArray), (⟨#[97, 98, 99, 100, 101, 102, 103, 104, 105, 106, 107, 108, 109, 110, 111, 112, 113, 114, 115, 116, 117, 118, 119, 120, 121, 122]⟩ : ByteArray), (⟨#[49, 50, 51, 52, 53, 54, 55, 56, 57, 48, 49, 50, 51, 52, 53, 54, 55, 56, 57, 48, 49, 50, 51, 52, 53, 54, 55, 56, 57, 48, 49, 50, 51, 52, 53, 54, 55, 56, 57, 48, 49, 50, 51, 52, 53, 54, 55, 56, 57, 48, 49, 50, 51, 52, 53, 54, 55, 56, 57, 48, 49, 50, 51, 52, 53, 54, 55, 56, 57, 48, 49, 50, 51, 52, 53, 54, 55, 56, 57, 48]⟩ : ByteArray)])) [(0, .string ByteArray.empty), (1, .string (⟨#[97]⟩ : ByteArray)), (2, .string (⟨#[109, 101, 115, 115, 97, 103, 101, 32, 100, 105, 103, 101, 115, 116]⟩ : ByteArray)), (3, .string (⟨#[97, 98, 99, 100, 101, 102, 103, 104, 105, 106, 107, 108, 109, 110, 111, 112, 113, 114, 115, 116, 117, 118, 119, 120, 121, 122]⟩ : ByteArray)), (4, .string (⟨#[49, 50, 51, 52, 53, 54, 55, 56, 57, 48, 49, 50, 51, 52, 53, 54, 55, 56, 57, 48, 49, 50, 51, 52, 53, 54, 55, 56, 57, 48, 49, 50, 51, 52, 53, 54, 55, 56, 57, 48, 49, 50, 51, 52, 53, 54, 55, 56, 57, 48, 49, 50, 51, 52, 53, 54, 55, 56, 57, 48, 49, 50, 51, 52, 53, 54, 55, 56, 57, 48, 49, 50, 51, 52, 53, 54, 55, 56, 57, 48]⟩ : ByteArray))] Tryd.underlying29 sz9 zr9 (fun _ V w o a hv hes => by simp only [List.map_toArray, List.map_cons, List.map_nil]; try rfl) (litfill (by simp [Instr.fill, Value.cells]; rfl) (by simp [List.range, List.range.loop] <;> rfl)) (by simp [Value.oneCell']) rfl (by decide) (by decide) (by decide)),
   st_plain rfl (op_assign_take _ _ _ _ rfl),
   trivial⟩ ?_
  refine pt_then ?_
  refine ht_seq ?_
  refine ht_seqR hn (El := [_, _, _, (11, .fl (.own 9) 1 (List.map Value.string ([(⟨#[100, 52, 49, 100, 56, 99, 100, 57, 56, 102, 48, 48, 98, 50, 48, 52, 101, 57, 56, 48, 48, 57, 57, 56, 101, 99, 102, 56, 52, 50, 55, 101]⟩ : ByteArray), (⟨#[48, 99, 99, 49, 55, 53, 98, 57, 99, 48, 102, 49, 98, 54, 97, 56, 51, 49, 99, 51, 57, 57, 101, 50, 54, 57, 55, 55, 50, 54, 54, 49]⟩ : ByteArray), (⟨#[102, 57, 54, 98, 54, 57, 55, 100, 55, 99, 98, 55, 57, 51, 56, 100, 53, 50, 53, 97, 50, 102, 51, 49, 97, 97, 102, 49, 54, 49, 100, 48]⟩ : ByteArray), (⟨#[99, 51, 102, 99, 100, 51, 100, 55, 54, 49, 57, 50, 101, 52, 48, 48, 55, 100, 102, 98, 52, 57, 54, 99, 99, 97, 54, 55, 101, 49, 51, 98]⟩ : ByteArray), (⟨#[53, 55, 101, 100, 102, 52, 97, 50, 50, 98, 101, 51, 99, 57, 53, 53, 97, 99, 52, 57, 100, 97, 50, 101, 50, 49, 48, 55, 98, 54, 55, 97]⟩ : ByteArray)]))), (4, .fl (.own 9) 1 (List.map Value.string ([(⟨#[100, 52, 49, 100, 56, 99, 100, 57, 56, 102, 48, 48, 98, 50, 48, 52, 101, 57, 56, 48, 48, 57, 57, 56, 101, 99, 102, 56, 52, 50, 55, 101]⟩ : ByteArray), (⟨#[48, 99, 99, 49, 55, 53, 98, 57, 99, 48, 102, 49, 98, 54, 97, 56, 51, 49, 99, 51, 57, 57, 101, 50, 54, 57, 55, 55, 50, 54, 54, 49]⟩ : ByteArray), (⟨#[102, 57, 54, 98, 54, 57, 55, 100, 55, 99, 98, 55, 57, 51, 56, 100, 53, 50, 53, 97, 50, 102, 51, 49, 97, 97, 102, 49, 54, 49, 100, 48]⟩ : ByteArray), (⟨#[99, 51, 102, 99, 100, 51, 100, 55, 54, 49, 57, 50, 101, 52, 48, 48, 55, 100, 102, 98, 52, 57, 54, 99, 99, 97, 54, 55, 101, 49, 51, 98]⟩ : ByteArray), (⟨#[53, 55, 101, 100, 102, 52, 97, 50, 50, 98, 101, 51, 99, 57, 53, 53, 97, 99, 52, 57, 100, 97, 50, 101, 50, 49, 48, 55, 98, 54, 55, 97]⟩ : ByteArray)])))]) (init := [0, 1, 2]) (fin := [0, 1, 2, 4]) (sps := [⟨[], [], [3], [(.slot 11)]⟩, ⟨[], [3], [4], [(.slot 4)]⟩]) (es' := [(_, _), (_, _), (_, _), (4, .fl (.own 9) 1 (List.map Value.string ([(⟨#[100, 52, 49, 100, 56, 99, 100, 57, 56, 102, 48, 48, 98, 50, 48, 52, 101, 57, 56, 48, 48, 57, 57, 56, 101, 99, 102, 56, 52, 50, 55, 101]⟩ : ByteArray), (⟨#[48, 99, 99, 49, 55, 53, 98, 57, 99, 48, 102, 49, 98, 54, 97, 56, 51, 49, 99, 51, 57, 57, 101, 50, 54, 57, 55, 55, 50, 54, 54, 49]⟩ : ByteArray), (⟨#[102, 57, 54, 98, 54, 57, 55, 100, 55, 99, 98, 55, 57, 51, 56, 100, 53, 50, 53, 97, 50, 102, 51, 49, 97, 97, 102, 49, 54, 49, 100, 48]⟩ : ByteArray), (⟨#[99, 51, 102, 99, 100, 51, 100, 55, 54, 49, 57, 50, 101, 52, 48, 48, 55, 100, 102, 98, 52, 57, 54, 99, 99, 97, 54, 55, 101, 49, 51, 98]⟩ : ByteArray), (⟨#[53, 55, 101, 100, 102, 52, 97, 50, 50, 98, 101, 51, 99, 57, 53, 53, 97, 99, 52, 57, 100, 97, 50, 101, 50, 49, 48, 55, 98, 54, 55, 97]⟩ : ByteArray)])))]) (by kernel_rfl) rfl rfl
   ⟨st_plain rfl (op_buildSlice _ _ 1 (.string ByteArray.empty) (List.map Value.string ([(⟨#[100, 52, 49, 100, 56, 99, 100, 57, 56, 102, 48, 48, 98, 50, 48, 52, 101, 57, 56, 48, 48, 57, 57, 56, 101, 99, 102, 56, 52, 50, 55, 101]⟩ : ByteArray), (⟨#[48, 99, 99, 49, 55, 53, 98, 57, 99, 48, 102, 49, 98, 54, 97, 56, 51, 49, 99, 51, 57, 57, 101, 50, 54, 57, 55, 55, 50, 54, 54, 49]⟩ : ByteArray), (⟨#[102, 57, 54, 98, 54, 57, 55, 100, 55, 99, 98, 55, 57, 51, 56, 100, 53, 50, 53, 97, 50, 102, 51, 49, 97, 97, 102, 49, 54, 49, 100, 48]⟩ : ByteArray), (⟨#[99, 51, 102, 99, 100, 51, 100, 55, 54, 49, 57, 50, 101, 52, 48, 48, 55, 100, 102, 98, 52, 57, 54, 99, 99, 97, 54, 55, 101, 49, 51, 98]⟩ : ByteArray), (⟨#[53, 55, 101, 100, 102, 52, 97, 50, 50, 98, 101, 51, 99, 57, 53, 53, 97, 99, 52, 57, 100, 97, 50, 101, 50, 49, 48, 55, 98, 54, 55, 97]⟩ : ByteArray)])) [(0, .string (⟨#[100, 52, 49, 100, 56, 99, 100, 57, 56, 102, 48, 48, 98, 50, 48, 52, 101, 57, 56, 48, 48, 57, 57, 56, 101, 99, 102, 56, 52, 50, 55, 101]⟩ : ByteArray)), (1, .string (⟨#[48, 99, 99, 49, 55, 53, 98, 57, 99, 48, 102, 49, 98, 54, 97, 56, 51, 49, 99, 51, 57, 57, 101, 50, 54, 57, 55, 55, 50, 54, 54, 49]⟩ : ByteArray)), (2, .string (⟨#[102, 57, 54, 98, 54, 57, 55, 100, 55, 99, 98, 55, 57, 51, 56, 100, 53, 50, 53, 97, 50, 102, 51, 49, 97, 97, 102, 49, 54, 49, 100, 48]⟩ : ByteArray)), (3, .string (⟨#[99, 51, 102, 99, 100, 51, 100, 55, 54, 49, 57, 50, 101, 52, 48, 48, 55, 100, 102, 98, 52, 57, 54, 99, 99, 97, 54, 55, 101, 49, 51, 98]⟩ : ByteArray)), (4, .string (⟨#[53, 55, 101, 100, 102, 52, 97, 50, 50, 98, 101, 51, 99, 57, 53, 53, 97, 99, 52, 57, 100, 97, 50, 101, 50, 49, 48, 55, 98, 54, 55, 97]⟩ : ByteArray))] Tryd.underlying29 sz9 zr9 (fun _ V w o a hv hes => by simp only [List.map_toArray, List.map_cons, List.map_nil]; try rfl) (litfill (by simp [Instr.fill, Value.cells]; rfl) (by simp [List.range, List.range.loop] <;> rfl)) (by simp [Value.oneCell']) rfl (by decide) (by decide) (by decide)),
   st_plain rfl (op_assign_take _ _ _ _ rfl),
   trivial⟩ ?_
  refine pt_then ?_
  refine ht_seq ?_
  obtain ⟨v1, hv1, h⟩ := bind_some h
  obtain ⟨v2, hv2, h⟩ := bind_some h
  obtain ⟨v3, hv3, h⟩ := bind_some h
  refine ht_seqR hn (El := [_, _, _, _, (12, .v (.int .i64 i)), (13, .v (.int .u64 v1)), (14, .v (.int .u64 v2)), (15, .v (.int .i64 v3)), (0, .v (.int .i64 v3))]) (init := [0, 1, 2, 3]) (fin := [1, 2, 3, 8]) (sps := [⟨[0], [], [4], [(.slot 12)]⟩, ⟨[4], [], [5], [(.slot 13)]⟩, ⟨[5], [], [6], [(.slot 14)]⟩, ⟨[6], [], [7], [(.slot 15)]⟩, ⟨[7], [0], [8], [(.slot 0)]⟩]) (es' := [(_, _), (_, _), (_, _), (0, .v (.int .i64 v3))]) (by kernel_rfl) rfl rfl
   ⟨st_plain rfl (op_move _ _ _ _ rfl rfl),
   st_plain rfl ((Option.some.inj hv1) ▸ op_conv _ _ _ Tryd.underlying3 Tryd.underlying30 rfl),
   st_plain rfl (op_bin _ _ _ _ _ rfl rfl (rem_ok hv2)),
   st_plain rfl ((Option.some.inj hv3) ▸ op_conv _ _ _ Tryd.underlying30 Tryd.underlying3 rfl),
   st_plain rfl (LOp.drop [_] (op_assign _ _ _ _ rfl rfl)),
   trivial⟩ ?_
  refine pt_then ?_
  refine ht_seq ?_
  obtain ⟨v4, hv4, h⟩ := bind_some h
  obtain ⟨v5, hv5, h⟩ := bind_some h
  obtain ⟨v6, hv6, h⟩ := bind_some h
  obtain ⟨v7, hv7, h⟩ := bind_some h
  obtain ⟨v8, hv8, h⟩ := bind_some h
  obtain ⟨v9, hv9, h⟩ := bind_some h
  refine ht_seqR hn (El := [_, _, _, _, (16, .fl (.own 9) 1 (List.map Value.string ([(⟨#[]⟩ : ByteArray), (⟨#[97]⟩ : ByteArray), (⟨#[109, 101, 115, 115, 97, 103, 101, 32, 100, 105, 103, 101, 115, 116]⟩ : ByteArray), (⟨#[97, 98, 99, 100, 101, 102, 103, 104, 105, 106, 107, 108, 109, 110, 111, 112, 113, 114, 115, 116, 117, 118, 119, 120, 121, 122]⟩ : ByteArray), (⟨#[49, 50, 51, 52, 53, 54, 55, 56, 57, 48, 49, 50, 51, 52, 53, 54, 55, 56, 57, 48, 49, 50, 51, 52, 53, 54, 55, 56, 57, 48, 49, 50, 51, 52, 53, 54, 55, 56, 57, 48, 49, 50, 51, 52, 53, 54, 55, 56, 57, 48, 49, 50, 51, 52, 53, 54, 55, 56, 57, 48, 49, 50, 51, 52, 53, 54, 55, 56, 57, 48, 49, 50, 51, 52, 53, 54, 55, 56, 57, 48]⟩ : ByteArray)]))), (17, .v (.int .i64 v3)), (18, .eref (.slot 16) (v4 * 1)), (19, .v (.string v5)), (20, .mkr 5 (List.map (Value.int .u8) v6)), (21, .v (.agg (List.map (Value.int .u8) v7).toArray)), (5, .arr 24 (List.map (Value.int .u8) ((List.replicate 16 (0 : Int))))), (5, .arr 24 (List.map (Value.int .u8) v7))]) (init := [0, 1, 2, 3]) (fin := [0, 2, 3, 11]) (sps := [⟨[], [1], [4], [(.slot 16)]⟩, ⟨[3], [], [5], [(.slot 17)]⟩, ⟨[4, 5], [], [6], [(.slot 18)]⟩, ⟨[6, 4], [], [7], [(.slot 19)]⟩, ⟨[7], [], [8], [(.slot 20)]⟩, ⟨[8, 0], [], [9], [(.slot 21)]⟩, ⟨[], [], [10], [(.slot 5)]⟩, ⟨[9], [10], [11], []⟩]) (es' := [(_, _), (_, _), (_, _), (5, .arr 24 (List.map (Value.int .u8) v7))]) (by kernel_rfl) rfl rfl
   ⟨st_plain rfl (op_move_take _ _ _ _ rfl),
   st_plain rfl (op_move _ _ _ _ rfl rfl),
   st_plain rfl (op_ix _ _ _ _ _ _ _ _ Tryd.underlying29 sz9 (by decide) rfl rfl rfl (ix_ok hv4).1 (map_lt (ix_ok hv4).2) rfl),
   st_plain rfl (op_load_e _ _ _ _ _ _ Tryd.underlying9 rfl rfl rfl (map_get hv5)),
   st_plain rfl ((Option.some.inj hv6) ▸ op_str_mk _ _ _ v5 Tryd.underlying9 Tryd.underlying22 Tryd.underlying5 rfl),
   st_plain rfl (op_callG _ _ 59 7 _ _ rfl Tryd.call7 rfl rfl (fun _ h => h) (ok_digest_Sum mx v6 _ hv7) rfl rfl),
   st_plain rfl (op_alloc_arr _ za24),
   st_plain rfl (op_storeA_arr _ _ _ _ (sz24.trans (congrArg some (ln_len hv9))) rfl rfl (ln_ones (fun _ => rfl) _) ((ln_len (f := Value.int .u8) hv8).symm.trans (ln_len (f := Value.int .u8) hv9))),
   trivial⟩ ?_
  refine pt_then ?_
  refine ht_seq ?_
  obtain ⟨v10, hv10, h⟩ := bind_some h
  refine ht_seqR hn (El := [_, _, _, _, (22, .fl (.own 5) 1 (List.map (Value.int .u8) v10)), (6, .fl (.own 5) 1 (List.map (Value.int .u8) v10))]) (init := [0, 1, 2, 3]) (fin := [0, 1, 2, 3, 5]) (sps := [⟨[], [], [4], [(.slot 22)]⟩, ⟨[], [4], [5], [(.slot 6)]⟩]) (es' := [(_, _), (_, _), (_, _), (_, _), (6, .fl (.own 5) 1 (List.map (Value.int .u8) v10))]) (by kernel_rfl) rfl rfl
   ⟨st_plain rfl (op_mk (f := Value.int .u8) _ _ _ _ el22 (by decide) zr5 rfl rfl rfl hv10),
   st_plain rfl (op_assign_take _ _ _ _ rfl),
   trivial⟩ ?_
  refine pt_then ?_
  refine ht_seq ?_
  refine ht_seq ?_
  refine ht_seqR hn (El := [_, _, _, _, _, (7, .v (.int .i64 0))]) (init := [0, 1, 2, 3, 4]) (fin := [0, 1, 2, 3, 4, 5]) (sps := [⟨[], [], [5], [(.slot 7)]⟩]) (es' := [(_, _), (_, _), (_, _), (_, _), (_, _), (7, .v (.int .i64 0))]) (by kernel_rfl) rfl rfl
   ⟨st_plain rfl (op_assign _ _ _ _ rfl rfl),
   trivial⟩ ?_
  refine pt_then ?_
  refine ht_loopS h (fun ((s18, s19) : (List Int) × Int) => [(59, .glob (GL mx)), (4, .fl (.own 9) 1 (List.map Value.string ([(⟨#[100, 52, 49, 100, 56, 99, 100, 57, 56, 102, 48, 48, 98, 50, 48, 52, 101, 57, 56, 48, 48, 57, 57, 56, 101, 99, 102, 56, 52, 50, 55, 101]⟩ : ByteArray), (⟨#[48, 99, 99, 49, 55, 53, 98, 57, 99, 48, 102, 49, 98, 54, 97, 56, 51, 49, 99, 51, 57, 57, 101, 50, 54, 57, 55, 55, 50, 54, 54, 49]⟩ : ByteArray), (⟨#[102, 57, 54, 98, 54, 57, 55, 100, 55, 99, 98, 55, 57, 51, 56, 100, 53, 50, 53, 97, 50, 102, 51, 49, 97, 97, 102, 49, 54, 49, 100, 48]⟩ : ByteArray), (⟨#[99, 51, 102, 99, 100, 51, 100, 55, 54, 49, 57, 50, 101, 52, 48, 48, 55, 100, 102, 98, 52, 57, 54, 99, 99, 97, 54, 55, 101, 49, 51, 98]⟩ : ByteArray), (⟨#[53, 55, 101, 100, 102, 52, 97, 50, 50, 98, 101, 51, 99, 57, 53, 53, 97, 99, 52, 57, 100, 97, 50, 101, 50, 49, 48, 55, 98, 54, 55, 97]⟩ : ByteArray)]))), (0, .v (.int .i64 v3)), (5, .arr 24 (List.map (Value.int .u8) v7)), (6, .fl (.own 5) 1 (List.map (Value.int .u8) s18)), (7, .v (.int .i64 s19))]) (fun (s21 : (List Int)) => [(59, .glob (GL mx)), (4, .fl (.own 9) 1 (List.map Value.string ([(⟨#[100, 52, 49, 100, 56, 99, 100, 57, 56, 102, 48, 48, 98, 50, 48, 52, 101, 57, 56, 48, 48, 57, 57, 56, 101, 99, 102, 56, 52, 50, 55, 101]⟩ : ByteArray), (⟨#[48, 99, 99, 49, 55, 53, 98, 57, 99, 48, 102, 49, 98, 54, 97, 56, 51, 49, 99, 51, 57, 57, 101, 50, 54, 57, 55, 55, 50, 54, 54, 49]⟩ : ByteArray), (⟨#[102, 57, 54, 98, 54, 57, 55, 100, 55, 99, 98, 55, 57, 51, 56, 100, 53, 50, 53, 97, 50, 102, 51, 49, 97, 97, 102, 49, 54, 49, 100, 48]⟩ : ByteArray), (⟨#[99, 51, 102, 99, 100, 51, 100, 55, 54, 49, 57, 50, 101, 52, 48, 48, 55, 100, 102, 98, 52, 57, 54, 99, 99, 97, 54, 55, 101, 49, 51, 98]⟩ : ByteArray), (⟨#[53, 55, 101, 100, 102, 52, 97, 50, 50, 98, 101, 51, 99, 57, 53, 53, 97, 99, 52, 57, 100, 97, 50, 101, 50, 49, 48, 55, 98, 54, 55, 97]⟩ : ByteArray)]))), (0, .v (.int .i64 v3)), (5, .arr 24 (List.map (Value.int .u8) v7)), (6, .fl (.own 5) 1 (List.map (Value.int .u8) s21))]) ?_ ?_
  ·rintro s21 h
   refine pt_then ?_
   refine ht_seq ?_
   obtain ⟨v29, hv29, h⟩ := bind_some h
   obtain ⟨v30, hv30, h⟩ := bind_some h
   obtain ⟨v31, hv31, h⟩ := bind_some h
   refine ht_seqR hn (El := [_, _, _, _, _, (30, .fl (.own 5) 1 (List.map (Value.int .u8) s21)), (31, .fl (.own 5) 1 (List.map (Value.int .u8) [72, 105, 32, 84, 104, 101, 114, 101])), (32, .fl .ro 1 (List.map (Value.int .u8) [72, 105, 32, 84, 104, 101, 114, 101])), (33, .v (.agg (List.map (Value.int .u8) v29).toArray)), (8, .arr 24 (List.map (Value.int .u8) ((List.replicate 16 (0 : Int))))), (8, .arr 24 (List.map (Value.int .u8) v29))]) (init := [0, 1, 2, 3, 4]) (fin := [0, 1, 2, 3, 10]) (sps := [⟨[], [4], [5], [(.slot 30)]⟩, ⟨[], [], [6], [(.slot 31)]⟩, ⟨[], [6], [7], [(.slot 32)]⟩, ⟨[5, 7, 0], [], [8], [(.slot 33)]⟩, ⟨[], [], [9], [(.slot 8)]⟩, ⟨[8], [9], [10], []⟩]) (es' := [(_, _), (_, _), (_, _), (_, _), (8, .arr 24 (List.map (Value.int .u8) v29))]) (by kernel_rfl) rfl rfl
    ⟨st_plain rfl (op_move_take _ _ _ _ rfl),
    st_plain rfl (op_buildSlice _ _ 1 (.int .u8 0) (List.map (Value.int .u8) [72, 105, 32, 84, 104, 101, 114, 101]) [(0, .int .u8 72), (1, .int .u8 105), (2, .int .u8 32), (3, .int .u8 84), (4, .int .u8 104), (5, .int .u8 101), (6, .int .u8 114), (7, .int .u8 101)] Tryd.underlying22 sz5 zr5 (fun _ V w o a hv hes => by simp only [List.map_toArray, List.map_cons, List.map_nil]; try rfl) (litfill (by simp [Instr.fill, Value.cells]; rfl) (by simp [List.range, List.range.loop] <;> rfl)) (by simp [Value.oneCell']) rfl (by decide) (by decide) (by decide)),
    st_plain rfl (op_conv_mark _ _ _ Tryd.underlying22 Tryd.underlying5 (by intro h; cases h)),
    st_plain rfl (op_callG _ _ 59 9 _ _ rfl Tryd.call9 rfl rfl (fun _ h => h) (ok_digest_Keyed mx s21 [72, 105, 32, 84, 104, 101, 114, 101] _ hv29) rfl rfl),
    st_plain rfl (op_alloc_arr _ za24),
    st_plain rfl (op_storeA_arr _ _ _ _ (sz24.trans (congrArg some (ln_len hv31))) rfl rfl (ln_ones (fun _ => rfl) _) ((ln_len (f := Value.int .u8) hv30).symm.trans (ln_len (f := Value.int .u8) hv31))),
    trivial⟩ ?_
   refine pt_then ?_
   refine ht_seq ?_
   obtain ⟨v32, hv32, h⟩ := bind_some h
   obtain ⟨v33, hv33, h⟩ := bind_some h
   obtain ⟨v34, hv34, h⟩ := bind_some h
   refine ht_seqR hn (El := [_, _, _, _, _, (34, .fl (.own 5) 1 (List.map (Value.int .u8) [74, 101, 102, 101])), (35, .fl .ro 1 (List.map (Value.int .u8) [74, 101, 102, 101])), (36, .fl (.own 5) 1 (List.map (Value.int .u8) [119, 104, 97, 116, 32, 100, 111, 32, 121, 97, 32, 119, 97, 110, 116, 32, 102, 111, 114, 32, 110, 111, 116, 104, 105, 110, 103, 63])), (37, .fl .ro 1 (List.map (Value.int .u8) [119, 104, 97, 116, 32, 100, 111, 32, 121, 97, 32, 119, 97, 110, 116, 32, 102, 111, 114, 32, 110, 111, 116, 104, 105, 110, 103, 63])), (38, .v (.agg (List.map (Value.int .u8) v32).toArray)), (9, .arr 24 (List.map (Value.int .u8) ((List.replicate 16 (0 : Int))))), (9, .arr 24 (List.map (Value.int .u8) v32))]) (init := [0, 1, 2, 3, 4]) (fin := [0, 1, 2, 3, 4, 11]) (sps := [⟨[], [], [5], [(.slot 34)]⟩, ⟨[], [5], [6], [(.slot 35)]⟩, ⟨[], [], [7], [(.slot 36)]⟩, ⟨[], [7], [8], [(.slot 37)]⟩, ⟨[6, 8, 0], [], [9], [(.slot 38)]⟩, ⟨[], [], [10], [(.slot 9)]⟩, ⟨[9], [10], [11], []⟩]) (es' := [(_, _), (_, _), (_, _), (_, _), (_, _), (9, .arr 24 (List.map (Value.int .u8) v32))]) (by kernel_rfl) rfl rfl
    ⟨st_plain rfl (op_buildSlice _ _ 1 (.int .u8 0) (List.map (Value.int .u8) [74, 101, 102, 101]) [(0, .int .u8 74), (1, .int .u8 101), (2, .int .u8 102), (3, .int .u8 101)] Tryd.underlying22 sz5 zr5 (fun _ V w o a hv hes => by simp only [List.map_toArray, List.map_cons, List.map_nil]; try rfl) (litfill (by simp [Instr.fill, Value.cells]; rfl) (by simp [List.range, List.range.loop] <;> rfl)) (by simp [Value.oneCell']) rfl (by decide) (by decide) (by decide)),
    st_plain rfl (op_conv_mark _ _ _ Tryd.underlying22 Tryd.underlying5 (by intro h; cases h)),
    st_plain rfl (op_buildSlice _ _ 1 (.int .u8 0) (List.map (Value.int .u8) [119, 104, 97, 116, 32, 100, 111, 32, 121, 97, 32, 119, 97, 110, 116, 32, 102, 111, 114, 32, 110, 111, 116, 104, 105, 110, 103, 63]) [(0, .int .u8 119), (1, .int .u8 104), (2, .int .u8 97), (3, .int .u8 116), (4, .int .u8 32), (5, .int .u8 100), (6, .int .u8 111), (7, .int .u8 32), (8, .int .u8 121), (9, .int .u8 97), (10, .int .u8 32), (11, .int .u8 119), (12, .int .u8 97), (13, .int .u8 110), (14, .int .u8 116), (15, .int .u8 32), (16, .int .u8 102), (17, .int .u8 111), (18, .int .u8 114), (19, .int .u8 32), (20, .int .u8 110), (21, .int .u8 111), (22, .int .u8 116), (23, .int .u8 104), (24, .int .u8 105), (25, .int .u8 110), (26, .int .u8 103), (27, .int .u8 63)] Tryd.underlying22 sz5 zr5 (fun _ V w o a hv hes => by simp only [List.map_toArray, List.map_cons, List.map_nil]; try rfl) (litfill (by simp [Instr.fill, Value.cells]; rfl) (by simp [List.range, List.range.loop] <;> rfl)) (by simp [Value.oneCell']) rfl (by decide) (by decide) (by decide)),
    st_plain rfl (op_conv_mark _ _ _ Tryd.underlying22 Tryd.underlying5 (by intro h; cases h)),
    st_plain rfl (op_callG _ _ 59 9 _ _ rfl Tryd.call9 rfl rfl (fun _ h => h) (ok_digest_Keyed mx [74, 101, 102, 101] [119, 104, 97, 116, 32, 100, 111, 32, 121, 97, 32, 119, 97, 110, 116, 32, 102, 111, 114, 32, 110, 111, 116, 104, 105, 110, 103, 63] _ hv32) rfl rfl),
    st_plain rfl (op_alloc_arr _ za24),
    st_plain rfl (op_storeA_arr _ _ _ _ (sz24.trans (congrArg some (ln_len hv34))) rfl rfl (ln_ones (fun _ => rfl) _) ((ln_len (f := Value.int .u8) hv33).symm.trans (ln_len (f := Value.int .u8) hv34))),
    trivial⟩ ?_
   refine pt_then ?_
   refine ht_seq ?_
   refine ht_joinS h (fun (s44 : Bool) => [(59, .glob (GL mx)), (2, .v (.bool s44))]) ?_ ?_
   ·rintro s44 h
    refine pt_then ?_
    refine ht_ret ?_
    refine pt_pick [1] (by kernel_rfl) (es' := [(_, _)]) rfl ?_
    obtain rfl := Option.some.inj h
    exact pt_ret hio rfl (.tmp _ _ .nil) rfl rfl
   ·intro u45 h hl46 hr47
    obtain ⟨v35, hv35, h⟩ := bind_some h
    obtain ⟨v36, hv36, h⟩ := bind_some h
    obtain ⟨v37, hv37, h⟩ := bind_some h
    obtain ⟨v38, hv38, h⟩ := bind_some h
    refine cond_some h (fun hg12_7 h => ?_) (fun hg12_7 h => ?_)
    ·obtain ⟨v39, hv39, h⟩ := bind_some h
     obtain ⟨v40, hv40, h⟩ := bind_some h
     refine cond_some h (fun hg12_12 h => ?_) (fun hg12_12 h => ?_)
     ·obtain ⟨v41, hv41, h⟩ := bind_some h
      obtain ⟨v42, hv42, h⟩ := bind_some h
      refine cond_some h (fun hg12_17 h => ?_) (fun hg12_17 h => ?_)
      ·obtain ⟨v43, hv43, h⟩ := bind_some h
       refine ht_anyR (by kernel_rfl) hn (El := (_ :: _ :: _ :: _ :: _ :: _ :: (39, .fl .ro 1 (List.map (Value.int .u8) v7)) :: (5, .any) :: (40, .v (.string v36)) :: (41, .fl (.own 9) 1 (List.map Value.string ([(⟨#[100, 52, 49, 100, 56, 99, 100, 57, 56, 102, 48, 48, 98, 50, 48, 52, 101, 57, 56, 48, 48, 57, 57, 56, 101, 99, 102, 56, 52, 50, 55, 101]⟩ : ByteArray), (⟨#[48, 99, 99, 49, 55, 53, 98, 57, 99, 48, 102, 49, 98, 54, 97, 56, 51, 49, 99, 51, 57, 57, 101, 50, 54, 57, 55, 55, 50, 54, 54, 49]⟩ : ByteArray), (⟨#[102, 57, 54, 98, 54, 57, 55, 100, 55, 99, 98, 55, 57, 51, 56, 100, 53, 50, 53, 97, 50, 102, 51, 49, 97, 97, 102, 49, 54, 49, 100, 48]⟩ : ByteArray), (⟨#[99, 51, 102, 99, 100, 51, 100, 55, 54, 49, 57, 50, 101, 52, 48, 48, 55, 100, 102, 98, 52, 57, 54, 99, 99, 97, 54, 55, 101, 49, 51, 98]⟩ : ByteArray), (⟨#[53, 55, 101, 100, 102, 52, 97, 50, 50, 98, 101, 51, 99, 57, 53, 53, 97, 99, 52, 57, 100, 97, 50, 101, 50, 49, 48, 55, 98, 54, 55, 97]⟩ : ByteArray)]))) :: (42, .v (.int .i64 v3)) :: (43, .eref (.slot 41) (v37 * 1)) :: (44, .v (.string v38)) :: (45, .v (.bool (v36.toList == v38.toList))) :: (46, .v (.bool true)) :: (47, .fl .ro 1 (List.map (Value.int .u8) v29)) :: (8, .any) :: (48, .v (.string v40)) :: (49, .v (.bool ((v40.toList == (⟨#[57, 50, 57, 52, 55, 50, 55, 97, 51, 54, 51, 56, 98, 98, 49, 99, 49, 51, 102, 52, 56, 101, 102, 56, 49, 53, 56, 98, 102, 99, 57, 100]⟩ : ByteArray).toList)))) :: (50, .v (.bool ((v40.toList == (⟨#[57, 50, 57, 52, 55, 50, 55, 97, 51, 54, 51, 56, 98, 98, 49, 99, 49, 51, 102, 52, 56, 101, 102, 56, 49, 53, 56, 98, 102, 99, 57, 100]⟩ : ByteArray).toList)))) :: (51, .v (.bool true)) :: (52, .fl .ro 1 (List.map (Value.int .u8) v32)) :: (9, .any) :: (53, .v (.string v42)) :: (54, .v (.bool ((v42.toList == (⟨#[55, 53, 48, 99, 55, 56, 51, 101, 54, 97, 98, 48, 98, 53, 48, 51, 101, 97, 97, 56, 54, 101, 51, 49, 48, 97, 53, 100, 98, 55, 51, 56]⟩ : ByteArray).toList)))) :: (55, .v (.bool ((v42.toList == (⟨#[55, 53, 48, 99, 55, 56, 51, 101, 54, 97, 98, 48, 98, 53, 48, 51, 101, 97, 97, 56, 54, 101, 51, 49, 48, 97, 53, 100, 98, 55, 51, 56]⟩ : ByteArray).toList)))) :: (56, .v (.bool true)) :: (57, .v (.bool v43)) :: (58, .v (.bool v43)) :: (2, .v (.bool v43)) :: [])) (init := [0, 1, 2, 3, 4, 5]) (fin := [0, 29]) (sps := (⟨[], [3], [7, 6], [(.slot 39)]⟩ :: ⟨[6], [], [8], [(.slot 40)]⟩ :: ⟨[], [1], [9], [(.slot 41)]⟩ :: ⟨[2], [], [10], [(.slot 42)]⟩ :: ⟨[9, 10], [], [11], [(.slot 43)]⟩ :: ⟨[11, 9], [], [12], [(.slot 44)]⟩ :: ⟨[8, 12], [], [13], [(.slot 45)]⟩ :: ⟨[13], [], [14], [(.slot 46)]⟩ :: ⟨[14], [4], [16, 15], [(.slot 47)]⟩ :: ⟨[14, 15], [], [17], [(.slot 48)]⟩ :: ⟨[14, 17], [], [18], [(.slot 49)]⟩ :: ⟨[14, 18], [], [19], [(.slot 50)]⟩ :: ⟨[19], [], [20], [(.slot 51)]⟩ :: ⟨[20], [5], [22, 21], [(.slot 52)]⟩ :: ⟨[20, 21], [], [23], [(.slot 53)]⟩ :: ⟨[20, 23], [], [24], [(.slot 54)]⟩ :: ⟨[20, 24], [], [25], [(.slot 55)]⟩ :: ⟨[25], [], [26], [(.slot 56)]⟩ :: ⟨[26, 0], [], [27], [(.slot 57)]⟩ :: ⟨[26, 27], [], [28], [(.slot 58)]⟩ :: ⟨[28], [], [29], [(.slot 2)]⟩ :: [])) (es' := [(_, _), (2, .v (.bool v43))]) (by kernel_rfl) rfl rfl
        ⟨st_plain rfl (op_slice_frz _ _ 5 16 _ Tryd.underlying24 sz5 rfl (ln_len hv35).symm (ln_ones (fun _ => rfl) _)),
        st_plain rfl (op_call _ _ 13 _ _ rfl Tryd.call13 rfl (ok_wherryref08_Hex v7 _ hv36) rfl rfl),
        st_plain rfl (op_move_take _ _ _ _ rfl),
        st_plain rfl (op_move _ _ _ _ rfl rfl),
        st_plain rfl (op_ix _ _ _ _ _ _ _ _ Tryd.underlying29 sz9 (by decide) rfl rfl rfl (ix_ok hv37).1 (map_lt (ix_ok hv37).2) rfl),
        st_plain rfl (op_load_e _ _ _ _ _ _ Tryd.underlying9 rfl rfl rfl (map_get hv38)),
        st_plain rfl (op_bin _ _ _ _ _ rfl rfl rfl),
        st_plain rfl (op_move _ _ _ _ (congrArg (fun b => AV.v (Value.bool b)) hg12_7) rfl),
        st_run 7 46 true rfl rfl rfl (List.Mem.head _) (op_slice_frz _ _ 8 16 _ Tryd.underlying24 sz5 rfl (ln_len hv39).symm (ln_ones (fun _ => rfl) _)),
        st_run 7 46 true rfl rfl rfl (List.Mem.head _) (op_call _ _ 13 _ _ rfl Tryd.call13 rfl (ok_wherryref08_Hex v29 _ hv40) rfl rfl),
        st_run 7 46 true rfl rfl rfl (List.Mem.head _) (op_bin _ _ _ _ _ rfl rfl rfl),
        st_plain rfl (op_pick _ _ true _ rfl rfl),
        st_plain rfl (op_move _ _ _ _ (congrArg (fun b => AV.v (Value.bool b)) hg12_12) rfl),
        st_run 12 51 true rfl rfl rfl (List.Mem.head _) (op_slice_frz _ _ 9 16 _ Tryd.underlying24 sz5 rfl (ln_len hv41).symm (ln_ones (fun _ => rfl) _)),
        st_run 12 51 true rfl rfl rfl (List.Mem.head _) (op_call _ _ 13 _ _ rfl Tryd.call13 rfl (ok_wherryref08_Hex v32 _ hv42) rfl rfl),
        st_run 12 51 true rfl rfl rfl (List.Mem.head _) (op_bin _ _ _ _ _ rfl rfl rfl),
        st_plain rfl (op_pick _ _ true _ rfl rfl),
        st_plain rfl (op_move _ _ _ _ (congrArg (fun b => AV.v (Value.bool b)) hg12_17) rfl),
        st_run 17 56 true rfl rfl rfl (List.Mem.head _) (op_callG _ _ 59 12 _ _ rfl Tryd.call12 rfl rfl (fun _ h => h) (ok_wherrylaw09_wakes mx  _ hv43) rfl rfl),
        st_plain rfl (op_pick _ _ true _ rfl rfl),
        st_plain rfl (op_assign _ _ _ _ rfl rfl),
        trivial⟩ ?_
       exact hl46 _ (Option.some.inj h).symm
      ·refine ht_anyR (by kernel_rfl) hn (El := (_ :: _ :: _ :: _ :: _ :: _ :: (39, .fl .ro 1 (List.map (Value.int .u8) v7)) :: (5, .any) :: (40, .v (.string v36)) :: (41, .fl (.own 9) 1 (List.map Value.string ([(⟨#[100, 52, 49, 100, 56, 99, 100, 57, 56, 102, 48, 48, 98, 50, 48, 52, 101, 57, 56, 48, 48, 57, 57, 56, 101, 99, 102, 56, 52, 50, 55, 101]⟩ : ByteArray), (⟨#[48, 99, 99, 49, 55, 53, 98, 57, 99, 48, 102, 49, 98, 54, 97, 56, 51, 49, 99, 51, 57, 57, 101, 50, 54, 57, 55, 55, 50, 54, 54, 49]⟩ : ByteArray), (⟨#[102, 57, 54, 98, 54, 57, 55, 100, 55, 99, 98, 55, 57, 51, 56, 100, 53, 50, 53, 97, 50, 102, 51, 49, 97, 97, 102, 49, 54, 49, 100, 48]⟩ : ByteArray), (⟨#[99, 51, 102, 99, 100, 51, 100, 55, 54, 49, 57, 50, 101, 52, 48, 48, 55, 100, 102, 98, 52, 57, 54, 99, 99, 97, 54, 55, 101, 49, 51, 98]⟩ : ByteArray), (⟨#[53, 55, 101, 100, 102, 52, 97, 50, 50, 98, 101, 51, 99, 57, 53, 53, 97, 99, 52, 57, 100, 97, 50, 101, 50, 49, 48, 55, 98, 54, 55, 97]⟩ : ByteArray)]))) :: (42, .v (.int .i64 v3)) :: (43, .eref (.slot 41) (v37 * 1)) :: (44, .v (.string v38)) :: (45, .v (.bool (v36.toList == v38.toList))) :: (46, .v (.bool true)) :: (47, .fl .ro 1 (List.map (Value.int .u8) v29)) :: (8, .any) :: (48, .v (.string v40)) :: (49, .v (.bool ((v40.toList == (⟨#[57, 50, 57, 52, 55, 50, 55, 97, 51, 54, 51, 56, 98, 98, 49, 99, 49, 51, 102, 52, 56, 101, 102, 56, 49, 53, 56, 98, 102, 99, 57, 100]⟩ : ByteArray).toList)))) :: (50, .v (.bool ((v40.toList == (⟨#[57, 50, 57, 52, 55, 50, 55, 97, 51, 54, 51, 56, 98, 98, 49, 99, 49, 51, 102, 52, 56, 101, 102, 56, 49, 53, 56, 98, 102, 99, 57, 100]⟩ : ByteArray).toList)))) :: (51, .v (.bool true)) :: (52, .fl .ro 1 (List.map (Value.int .u8) v32)) :: (9, .any) :: (53, .v (.string v42)) :: (54, .v (.bool ((v42.toList == (⟨#[55, 53, 48, 99, 55, 56, 51, 101, 54, 97, 98, 48, 98, 53, 48, 51, 101, 97, 97, 56, 54, 101, 51, 49, 48, 97, 53, 100, 98, 55, 51, 56]⟩ : ByteArray).toList)))) :: (55, .v (.bool ((v42.toList == (⟨#[55, 53, 48, 99, 55, 56, 51, 101, 54, 97, 98, 48, 98, 53, 48, 51, 101, 97, 97, 56, 54, 101, 51, 49, 48, 97, 53, 100, 98, 55, 51, 56]⟩ : ByteArray).toList)))) :: (56, .v (.bool false)) :: (57, .v undef) :: (58, .v (.bool false)) :: (2, .v (.bool false)) :: [])) (init := [0, 1, 2, 3, 4, 5]) (fin := [0, 29]) (sps := (⟨[], [3], [7, 6], [(.slot 39)]⟩ :: ⟨[6], [], [8], [(.slot 40)]⟩ :: ⟨[], [1], [9], [(.slot 41)]⟩ :: ⟨[2], [], [10], [(.slot 42)]⟩ :: ⟨[9, 10], [], [11], [(.slot 43)]⟩ :: ⟨[11, 9], [], [12], [(.slot 44)]⟩ :: ⟨[8, 12], [], [13], [(.slot 45)]⟩ :: ⟨[13], [], [14], [(.slot 46)]⟩ :: ⟨[14], [4], [16, 15], [(.slot 47)]⟩ :: ⟨[14, 15], [], [17], [(.slot 48)]⟩ :: ⟨[14, 17], [], [18], [(.slot 49)]⟩ :: ⟨[14, 18], [], [19], [(.slot 50)]⟩ :: ⟨[19], [], [20], [(.slot 51)]⟩ :: ⟨[20], [5], [22, 21], [(.slot 52)]⟩ :: ⟨[20, 21], [], [23], [(.slot 53)]⟩ :: ⟨[20, 23], [], [24], [(.slot 54)]⟩ :: ⟨[20, 24], [], [25], [(.slot 55)]⟩ :: ⟨[25], [], [26], [(.slot 56)]⟩ :: ⟨[26], [], [27], [(.slot 57)]⟩ :: ⟨[26], [], [28], [(.slot 58)]⟩ :: ⟨[28], [], [29], [(.slot 2)]⟩ :: [])) (es' := [(_, _), (2, .v (.bool false))]) (by kernel_rfl) rfl rfl
        ⟨st_plain rfl (op_slice_frz _ _ 5 16 _ Tryd.underlying24 sz5 rfl (ln_len hv35).symm (ln_ones (fun _ => rfl) _)),
        st_plain rfl (op_call _ _ 13 _ _ rfl Tryd.call13 rfl (ok_wherryref08_Hex v7 _ hv36) rfl rfl),
        st_plain rfl (op_move_take _ _ _ _ rfl),
        st_plain rfl (op_move _ _ _ _ rfl rfl),
        st_plain rfl (op_ix _ _ _ _ _ _ _ _ Tryd.underlying29 sz9 (by decide) rfl rfl rfl (ix_ok hv37).1 (map_lt (ix_ok hv37).2) rfl),
        st_plain rfl (op_load_e _ _ _ _ _ _ Tryd.underlying9 rfl rfl rfl (map_get hv38)),
        st_plain rfl (op_bin _ _ _ _ _ rfl rfl rfl),
        st_plain rfl (op_move _ _ _ _ (congrArg (fun b => AV.v (Value.bool b)) hg12_7) rfl),
        st_run 7 46 true rfl rfl rfl (List.Mem.head _) (op_slice_frz _ _ 8 16 _ Tryd.underlying24 sz5 rfl (ln_len hv39).symm (ln_ones (fun _ => rfl) _)),
        st_run 7 46 true rfl rfl rfl (List.Mem.head _) (op_call _ _ 13 _ _ rfl Tryd.call13 rfl (ok_wherryref08_Hex v29 _ hv40) rfl rfl),
        st_run 7 46 true rfl rfl rfl (List.Mem.head _) (op_bin _ _ _ _ _ rfl rfl rfl),
        st_plain rfl (op_pick _ _ true _ rfl rfl),
        st_plain rfl (op_move _ _ _ _ (congrArg (fun b => AV.v (Value.bool b)) hg12_12) rfl),
        st_run 12 51 true rfl rfl rfl (List.Mem.head _) (op_slice_frz _ _ 9 16 _ Tryd.underlying24 sz5 rfl (ln_len hv41).symm (ln_ones (fun _ => rfl) _)),
        st_run 12 51 true rfl rfl rfl (List.Mem.head _) (op_call _ _ 13 _ _ rfl Tryd.call13 rfl (ok_wherryref08_Hex v32 _ hv42) rfl rfl),
        st_run 12 51 true rfl rfl rfl (List.Mem.head _) (op_bin _ _ _ _ _ rfl rfl rfl),
        st_plain rfl (op_pick _ _ true _ rfl rfl),
        st_plain rfl (op_move _ _ _ _ (congrArg (fun b => AV.v (Value.bool b)) hg12_17) rfl),
        st_skip 17 56 _ true rfl rfl rfl rfl (List.Mem.head _),
        st_plain rfl (op_pick _ _ false _ rfl rfl),
        st_plain rfl (op_assign _ _ _ _ rfl rfl),
        trivial⟩ ?_
       exact hl46 _ (Option.some.inj h).symm
     ·refine ht_anyR (by kernel_rfl) hn (El := (_ :: _ :: _ :: _ :: _ :: _ :: (39, .fl .ro 1 (List.map (Value.int .u8) v7)) :: (5, .any) :: (40, .v (.string v36)) :: (41, .fl (.own 9) 1 (List.map Value.string ([(⟨#[100, 52, 49, 100, 56, 99, 100, 57, 56, 102, 48, 48, 98, 50, 48, 52, 101, 57, 56, 48, 48, 57, 57, 56, 101, 99, 102, 56, 52, 50, 55, 101]⟩ : ByteArray), (⟨#[48, 99, 99, 49, 55, 53, 98, 57, 99, 48, 102, 49, 98, 54, 97, 56, 51, 49, 99, 51, 57, 57, 101, 50, 54, 57, 55, 55, 50, 54, 54, 49]⟩ : ByteArray), (⟨#[102, 57, 54, 98, 54, 57, 55, 100, 55, 99, 98, 55, 57, 51, 56, 100, 53, 50, 53, 97, 50, 102, 51, 49, 97, 97, 102, 49, 54, 49, 100, 48]⟩ : ByteArray), (⟨#[99, 51, 102, 99, 100, 51, 100, 55, 54, 49, 57, 50, 101, 52, 48, 48, 55, 100, 102, 98, 52, 57, 54, 99, 99, 97, 54, 55, 101, 49, 51, 98]⟩ : ByteArray), (⟨#[53, 55, 101, 100, 102, 52, 97, 50, 50, 98, 101, 51, 99, 57, 53, 53, 97, 99, 52, 57, 100, 97, 50, 101, 50, 49, 48, 55, 98, 54, 55, 97]⟩ : ByteArray)]))) :: (42, .v (.int .i64 v3)) :: (43, .eref (.slot 41) (v37 * 1)) :: (44, .v (.string v38)) :: (45, .v (.bool (v36.toList == v38.toList))) :: (46, .v (.bool true)) :: (47, .fl .ro 1 (List.map (Value.int .u8) v29)) :: (8, .any) :: (48, .v (.string v40)) :: (49, .v (.bool ((v40.toList == (⟨#[57, 50, 57, 52, 55, 50, 55, 97, 51, 54, 51, 56, 98, 98, 49, 99, 49, 51, 102, 52, 56, 101, 102, 56, 49, 53, 56, 98, 102, 99, 57, 100]⟩ : ByteArray).toList)))) :: (50, .v (.bool ((v40.toList == (⟨#[57, 50, 57, 52, 55, 50, 55, 97, 51, 54, 51, 56, 98, 98, 49, 99, 49, 51, 102, 52, 56, 101, 102, 56, 49, 53, 56, 98, 102, 99, 57, 100]⟩ : ByteArray).toList)))) :: (51, .v (.bool false)) :: (52, .v undef) :: (53, .v undef) :: (54, .v undef) :: (55, .v (.bool false)) :: (56, .v (.bool false)) :: (57, .v undef) :: (58, .v (.bool false)) :: (2, .v (.bool false)) :: [])) (init := [0, 1, 2, 3, 4, 5]) (fin := [0, 28]) (sps := (⟨[], [3], [7, 6], [(.slot 39)]⟩ :: ⟨[6], [], [8], [(.slot 40)]⟩ :: ⟨[], [1], [9], [(.slot 41)]⟩ :: ⟨[2], [], [10], [(.slot 42)]⟩ :: ⟨[9, 10], [], [11], [(.slot 43)]⟩ :: ⟨[11, 9], [], [12], [(.slot 44)]⟩ :: ⟨[8, 12], [], [13], [(.slot 45)]⟩ :: ⟨[13], [], [14], [(.slot 46)]⟩ :: ⟨[14], [4], [16, 15], [(.slot 47)]⟩ :: ⟨[14, 15], [], [17], [(.slot 48)]⟩ :: ⟨[14, 17], [], [18], [(.slot 49)]⟩ :: ⟨[14, 18], [], [19], [(.slot 50)]⟩ :: ⟨[19], [], [20], [(.slot 51)]⟩ :: ⟨[20], [], [21], [(.slot 52)]⟩ :: ⟨[20], [], [22], [(.slot 53)]⟩ :: ⟨[20], [], [23], [(.slot 54)]⟩ :: ⟨[20], [], [24], [(.slot 55)]⟩ :: ⟨[24], [], [25], [(.slot 56)]⟩ :: ⟨[25], [], [26], [(.slot 57)]⟩ :: ⟨[25], [], [27], [(.slot 58)]⟩ :: ⟨[27], [], [28], [(.slot 2)]⟩ :: [])) (es' := [(_, _), (2, .v (.bool false))]) (by kernel_rfl) rfl rfl
       ⟨st_plain rfl (op_slice_frz _ _ 5 16 _ Tryd.underlying24 sz5 rfl (ln_len hv35).symm (ln_ones (fun _ => rfl) _)),
       st_plain rfl (op_call _ _ 13 _ _ rfl Tryd.call13 rfl (ok_wherryref08_Hex v7 _ hv36) rfl rfl),
       st_plain rfl (op_move_take _ _ _ _ rfl),
       st_plain rfl (op_move _ _ _ _ rfl rfl),
       st_plain rfl (op_ix _ _ _ _ _ _ _ _ Tryd.underlying29 sz9 (by decide) rfl rfl rfl (ix_ok hv37).1 (map_lt (ix_ok hv37).2) rfl),
       st_plain rfl (op_load_e _ _ _ _ _ _ Tryd.underlying9 rfl rfl rfl (map_get hv38)),
       st_plain rfl (op_bin _ _ _ _ _ rfl rfl rfl),
       st_plain rfl (op_move _ _ _ _ (congrArg (fun b => AV.v (Value.bool b)) hg12_7) rfl),
       st_run 7 46 true rfl rfl rfl (List.Mem.head _) (op_slice_frz _ _ 8 16 _ Tryd.underlying24 sz5 rfl (ln_len hv39).symm (ln_ones (fun _ => rfl) _)),
       st_run 7 46 true rfl rfl rfl (List.Mem.head _) (op_call _ _ 13 _ _ rfl Tryd.call13 rfl (ok_wherryref08_Hex v29 _ hv40) rfl rfl),
       st_run 7 46 true rfl rfl rfl (List.Mem.head _) (op_bin _ _ _ _ _ rfl rfl rfl),
       st_plain rfl (op_pick _ _ true _ rfl rfl),
       st_plain rfl (op_move _ _ _ _ (congrArg (fun b => AV.v (Value.bool b)) hg12_12) rfl),
       st_skip 12 51 _ true rfl rfl rfl rfl (List.Mem.head _),
       st_skip 12 51 _ true rfl rfl rfl rfl (List.Mem.head _),
       st_skip 12 51 _ true rfl rfl rfl rfl (List.Mem.head _),
       st_plain rfl (op_pick _ _ false _ rfl rfl),
       st_plain rfl (op_move _ _ _ _ rfl rfl),
       st_skip 17 56 _ true rfl rfl rfl rfl (List.Mem.head _),
       st_plain rfl (op_pick _ _ false _ rfl rfl),
       st_plain rfl (op_assign _ _ _ _ rfl rfl),
       trivial⟩ ?_
      exact hl46 _ (Option.some.inj h).symm
    ·refine ht_anyR (by kernel_rfl) hn (El := (_ :: _ :: _ :: _ :: _ :: _ :: (39, .fl .ro 1 (List.map (Value.int .u8) v7)) :: (5, .any) :: (40, .v (.string v36)) :: (41, .fl (.own 9) 1 (List.map Value.string ([(⟨#[100, 52, 49, 100, 56, 99, 100, 57, 56, 102, 48, 48, 98, 50, 48, 52, 101, 57, 56, 48, 48, 57, 57, 56, 101, 99, 102, 56, 52, 50, 55, 101]⟩ : ByteArray), (⟨#[48, 99, 99, 49, 55, 53, 98, 57, 99, 48, 102, 49, 98, 54, 97, 56, 51, 49, 99, 51, 57, 57, 101, 50, 54, 57, 55, 55, 50, 54, 54, 49]⟩ : ByteArray), (⟨#[102, 57, 54, 98, 54, 57, 55, 100, 55, 99, 98, 55, 57, 51, 56, 100, 53, 50, 53, 97, 50, 102, 51, 49, 97, 97, 102, 49, 54, 49, 100, 48]⟩ : ByteArray), (⟨#[99, 51, 102, 99, 100, 51, 100, 55, 54, 49, 57, 50, 101, 52, 48, 48, 55, 100, 102, 98, 52, 57, 54, 99, 99, 97, 54, 55, 101, 49, 51, 98]⟩ : ByteArray), (⟨#[53, 55, 101, 100, 102, 52, 97, 50, 50, 98, 101, 51, 99, 57, 53, 53, 97, 99, 52, 57, 100, 97, 50, 101, 50, 49, 48, 55, 98, 54, 55, 97]⟩ : ByteArray)]))) :: (42, .v (.int .i64 v3)) :: (43, .eref (.slot 41) (v37 * 1)) :: (44, .v (.string v38)) :: (45, .v (.bool (v36.toList == v38.toList))) :: (46, .v (.bool false)) :: (47, .v undef) :: (48, .v undef) :: (49, .v undef) :: (50, .v (.bool false)) :: (51, .v (.bool false)) :: (52, .v undef) :: (53, .v undef) :: (54, .v undef) :: (55, .v (.bool false)) :: (56, .v (.bool false)) :: (57, .v undef) :: (58, .v (.bool false)) :: (2, .v (.bool false)) :: [])) (init := [0, 1, 2, 3, 4, 5]) (fin := [0, 27]) (sps := (⟨[], [3], [7, 6], [(.slot 39)]⟩ :: ⟨[6], [], [8], [(.slot 40)]⟩ :: ⟨[], [1], [9], [(.slot 41)]⟩ :: ⟨[2], [], [10], [(.slot 42)]⟩ :: ⟨[9, 10], [], [11], [(.slot 43)]⟩ :: ⟨[11, 9], [], [12], [(.slot 44)]⟩ :: ⟨[8, 12], [], [13], [(.slot 45)]⟩ :: ⟨[13], [], [14], [(.slot 46)]⟩ :: ⟨[14], [], [15], [(.slot 47)]⟩ :: ⟨[14], [], [16], [(.slot 48)]⟩ :: ⟨[14], [], [17], [(.slot 49)]⟩ :: ⟨[14], [], [18], [(.slot 50)]⟩ :: ⟨[18], [], [19], [(.slot 51)]⟩ :: ⟨[19], [], [20], [(.slot 52)]⟩ :: ⟨[19], [], [21], [(.slot 53)]⟩ :: ⟨[19], [], [22], [(.slot 54)]⟩ :: ⟨[19], [], [23], [(.slot 55)]⟩ :: ⟨[23], [], [24], [(.slot 56)]⟩ :: ⟨[24], [], [25], [(.slot 57)]⟩ :: ⟨[24], [], [26], [(.slot 58)]⟩ :: ⟨[26], [], [27], [(.slot 2)]⟩ :: [])) (es' := [(_, _), (2, .v (.bool false))]) (by kernel_rfl) rfl rfl
      ⟨st_plain rfl (op_slice_frz _ _ 5 16 _ Tryd.underlying24 sz5 rfl (ln_len hv35).symm (ln_ones (fun _ => rfl) _)),
      st_plain rfl (op_call _ _ 13 _ _ rfl Tryd.call13 rfl (ok_wherryref08_Hex v7 _ hv36) rfl rfl),
      st_plain rfl (op_move_take _ _ _ _ rfl),
      st_plain rfl (op_move _ _ _ _ rfl rfl),
      st_plain rfl (op_ix _ _ _ _ _ _ _ _ Tryd.underlying29 sz9 (by decide) rfl rfl rfl (ix_ok hv37).1 (map_lt (ix_ok hv37).2) rfl),
      st_plain rfl (op_load_e _ _ _ _ _ _ Tryd.underlying9 rfl rfl rfl (map_get hv38)),
      st_plain rfl (op_bin _ _ _ _ _ rfl rfl rfl),
      st_plain rfl (op_move _ _ _ _ (congrArg (fun b => AV.v (Value.bool b)) hg12_7) rfl),
      st_skip 7 46 _ true rfl rfl rfl rfl (List.Mem.head _),
      st_skip 7 46 _ true rfl rfl rfl rfl (List.Mem.head _),
      st_skip 7 46 _ true rfl rfl rfl rfl (List.Mem.head _),
      st_plain rfl (op_pick _ _ false _ rfl rfl),
      st_plain rfl (op_move _ _ _ _ rfl rfl),
      st_skip 12 51 _ true rfl rfl rfl rfl (List.Mem.head _),
      st_skip 12 51 _ true rfl rfl rfl rfl (List.Mem.head _),
      st_skip 12 51 _ true rfl rfl rfl rfl (List.Mem.head _),
      st_plain rfl (op_pick _ _ false _ rfl rfl),
      st_plain rfl (op_move _ _ _ _ rfl rfl),
      st_skip 17 56 _ true rfl rfl rfl rfl (List.Mem.head _),
      st_plain rfl (op_pick _ _ false _ rfl rfl),
      st_plain rfl (op_assign _ _ _ _ rfl rfl),
      trivial⟩ ?_
     exact hl46 _ (Option.some.inj h).symm
  ·rintro u22 hl23 hr24 ⟨s18, s19⟩ rr27 h ho25
   refine ht_seq ?_
   refine ht_seq ?_
   refine ht_seqR hn (El := [_, _, _, _, _, _, (23, .v (.int .i64 s19)), (24, .v (.bool ((decide (s19 < 16)))))]) (init := [0, 1, 2, 3, 4, 5]) (fin := [0, 1, 2, 3, 4, 5, 7]) (sps := [⟨[5], [], [6], [(.slot 23)]⟩, ⟨[6], [], [7], [(.slot 24)]⟩]) (es' := [(_, _), (_, _), (_, _), (_, _), (_, _), (_, _), (24, .v (.bool ((decide (s19 < 16)))))]) (by kernel_rfl) rfl rfl
    ⟨st_plain rfl (op_move _ _ _ _ rfl rfl),
    st_plain rfl (op_bin _ _ _ _ _ rfl rfl rfl),
    trivial⟩ ?_
   refine pt_then ?_
   refine ht_cond _ rfl (fun hb28 => ?_) (fun hb28 => ?_)
   ·have h := cond_t hb28 h
    refine ht_skip ?_
    refine pt_then ?_
    refine ht_seq ?_
    refine ht_block ?_
    obtain ⟨v12, hv12, h⟩ := bind_some h
    obtain ⟨v13, hv13, h⟩ := bind_some h
    refine ht_seqR hn (El := [_, _, _, _, _, _, _, (27, .same (.slot 6)), (28, .v (.int .i64 s19)), (29, .eref (.slot 6) (v12 * 1)), (6, .fl (.own 5) 1 (List.map (Value.int .u8) v13))]) (init := [0, 1, 2, 3, 4, 5, 6]) (fin := [0, 1, 2, 3, 10, 5]) (sps := [⟨[4], [], [7], [(.slot 27)]⟩, ⟨[5], [], [8], [(.slot 28)]⟩, ⟨[7, 4, 8], [], [9], [(.slot 29)]⟩, ⟨[9], [4], [10], []⟩]) (es' := [(_, _), (_, _), (_, _), (_, _), (6, .fl (.own 5) 1 (List.map (Value.int .u8) v13)), (_, _)]) (by kernel_rfl) rfl rfl
     ⟨st_plain rfl (op_move _ _ _ _ rfl rfl),
     st_plain rfl (op_move _ _ _ _ rfl rfl),
     st_plain rfl (op_ix _ _ _ _ _ _ _ _ Tryd.underlying22 sz5 (by decide) rfl rfl rfl (ix_ok hv12).1 (map_lt (ix_ok hv12).2) rfl),
     st_plain rfl (op_store_e _ _ _ _ _ _ _ _ sz5 rfl rfl rfl (by decide) (map_lt (ix_ok hv12).2) ((map_set (f := Value.int .u8) _ (ix_ok hv12).2).trans (congrArg (List.map _) (Option.some.inj hv13)))),
     trivial⟩ ?_
    refine pt_inb ?_
    refine pt_then ?_
    obtain ⟨v14, hv14, h⟩ := bind_some h
    refine ht_seqR hn (El := [_, _, _, _, _, _, (25, .v (.int .i64 s19)), (26, .v (.int .i64 v14)), (7, .v (.int .i64 v14))]) (init := [0, 1, 2, 3, 4, 5]) (fin := [0, 1, 2, 3, 4, 8]) (sps := [⟨[5], [], [6], [(.slot 25)]⟩, ⟨[6], [], [7], [(.slot 26)]⟩, ⟨[7], [5], [8], [(.slot 7)]⟩]) (es' := [(_, _), (_, _), (_, _), (_, _), (_, _), (7, .v (.int .i64 v14))]) (by kernel_rfl) rfl rfl
     ⟨st_plain rfl (op_move _ _ _ _ rfl rfl),
     st_plain rfl (op_bin _ _ _ _ _ rfl rfl (ibind (f := Value.int .i64) (Option.some.inj hv14))),
     st_plain rfl (LOp.drop [_] (op_assign _ _ _ _ rfl rfl)),
     trivial⟩ ?_
    exact pt_next _ (Option.some.inj h).symm rfl
   ·have h := cond_f hb28 h
    refine ht_exit ?_
    refine pt_x_then ?_
    refine pt_x_then ?_
    refine pt_x_in ?_
    refine pt_pick [0, 1, 2, 3, 4] (by kernel_rfl) (es' := [(_, _), (_, _), (_, _), (_, _), (_, _)]) rfl ?_
    exact hl23 _ (ho25 _ (Option.some.inj h).symm).symm

end Go.Proofs.YtjhpgfccojoajaaDoor
