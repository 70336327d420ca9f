/-
  The model's runs are what is told in Lean.
-/
import Derived.Test.YthfmdofkkkpbkaaDoorProg
import Derived.KernelRfl
import Derived.Test.YthfmdofkkkpbkaaDoorShelf
import Derived.Test.YthfmdofkkkpbkaaDoorOkc3
set_option linter.unusedVariables false
set_option linter.unusedSimpArgs false
namespace Go.Proofs.YthfmdofkkkpbkaaDoor
open Go.Abs Go.Abs.Sh

set_option maxHeartbeats 1000000 in
theorem ok_wherrylaw12_VerbKnown (mx : Int) (i : Int) (r : Bool) (h : Sh.wherrylaw12_VerbKnown i = some r) : FnG Tryd.prog (GL mx) 5 [.v (.int .i64 i)] (.v (.bool r)) := by
  unfold Sh.wherrylaw12_VerbKnown at h
  refine fn_okG Tryd.func5 rfl (Nat.le_of_ble_eq_true rfl) rfl rfl fun g0 hn hio => ?_
  refine ht_seq ?_
  refine ht_seqR hn (El := [_, _, (2, .v (.bool false))]) (init := [0, 1]) (fin := [0, 1]) (sps := [⟨[], [], [2], [(.slot 2)]⟩]) (es' := [(_, _), (_, _)]) (by kernel_rfl) rfl rfl
   ⟨st_plain rfl (op_assign _ _ _ _ rfl rfl),
   trivial⟩ ?_
  refine pt_then ?_
  refine ht_seq ?_
  refine ht_seqR hn (El := [_, _, (8, .fl (.own 9) 1 (List.map Value.string ([(⟨#[72, 69, 76, 79, 32, 104]⟩ : ByteArray), (⟨#[100, 97, 116, 97]⟩ : ByteArray), (⟨#[68, 65, 84, 65, 32]⟩ : ByteArray), (⟨#[114, 115, 101, 116]⟩ : ByteArray), (⟨#[81, 117, 105, 116]⟩ : ByteArray), (⟨#[78, 79, 79, 80]⟩ : ByteArray), (⟨#[78, 79, 79, 80, 32, 120, 32, 121]⟩ : ByteArray), (⟨#[86, 82, 70, 89]⟩ : ByteArray), (⟨#[86, 82, 70, 89, 32, 117]⟩ : ByteArray), (⟨#[69, 84, 82, 78, 32, 98, 46, 120]⟩ : ByteArray), (⟨#[69, 84, 82, 78]⟩ : ByteArray), (⟨#[69, 84, 82, 78, 32, 64, 98]⟩ : ByteArray), (⟨#[65, 85, 84, 72, 32, 99, 114, 97, 109, 45, 109, 100, 53]⟩ : ByteArray), (⟨#[65, 85, 84, 72, 32, 80, 76, 65, 73, 78]⟩ : ByteArray), (⟨#[65, 85, 84, 72]⟩ : ByteArray), (⟨#[65, 85, 84, 72, 32]⟩ : ByteArray), (⟨#[65, 84, 82, 78]⟩ : ByteArray), (⟨#[65, 84, 82, 78, 32, 98, 46, 120]⟩ : ByteArray), (⟨#[65, 84, 82, 78, 32]⟩ : ByteArray), (⟨#[69, 72, 76, 79]⟩ : ByteArray), (⟨#[]⟩ : ByteArray), (⟨#[32, 68, 65, 84, 65]⟩ : ByteArray), (⟨#[68, 65, 84, 65, 88]⟩ : ByteArray), (⟨#[77, 65, 73, 76]⟩ : ByteArray), (⟨#[82, 67, 80, 84, 32, 84, 79]⟩ : ByteArray), (⟨#[82, 83, 69, 84, 32, 120]⟩ : ByteArray)]))), (3, .fl (.own 9) 1 (List.map Value.string ([(⟨#[72, 69, 76, 79, 32, 104]⟩ : ByteArray), (⟨#[100, 97, 116, 97]⟩ : ByteArray), (⟨#[68, 65, 84, 65, 32]⟩ : ByteArray), (⟨#[114, 115, 101, 116]⟩ : ByteArray), (⟨#[81, 117, 105, 116]⟩ : ByteArray), (⟨#[78, 79, 79, 80]⟩ : ByteArray), (⟨#[78, 79, 79, 80, 32, 120, 32, 121]⟩ : ByteArray), (⟨#[86, 82, 70, 89]⟩ : ByteArray), (⟨#[86, 82, 70, 89, 32, 117]⟩ : ByteArray), (⟨#[69, 84, 82, 78, 32, 98, 46, 120]⟩ : ByteArray), (⟨#[69, 84, 82, 78]⟩ : ByteArray), (⟨#[69, 84, 82, 78, 32, 64, 98]⟩ : ByteArray), (⟨#[65, 85, 84, 72, 32, 99, 114, 97, 109, 45, 109, 100, 53]⟩ : ByteArray), (⟨#[65, 85, 84, 72, 32, 80, 76, 65, 73, 78]⟩ : ByteArray), (⟨#[65, 85, 84, 72]⟩ : ByteArray), (⟨#[65, 85, 84, 72, 32]⟩ : ByteArray), (⟨#[65, 84, 82, 78]⟩ : ByteArray), (⟨#[65, 84, 82, 78, 32, 98, 46, 120]⟩ : ByteArray), (⟨#[65, 84, 82, 78, 32]⟩ : ByteArray), (⟨#[69, 72, 76, 79]⟩ : ByteArray), (⟨#[]⟩ : ByteArray), (⟨#[32, 68, 65, 84, 65]⟩ : ByteArray), (⟨#[68, 65, 84, 65, 88]⟩ : ByteArray), (⟨#[77, 65, 73, 76]⟩ : ByteArray), (⟨#[82, 67, 80, 84, 32, 84, 79]⟩ : ByteArray), (⟨#[82, 83, 69, 84, 32, 120]⟩ : ByteArray)])))]) (init := [0, 1]) (fin := [0, 1, 3]) (sps := [⟨[], [], [2], [(.slot 8)]⟩, ⟨[], [2], [3], [(.slot 3)]⟩]) (es' := [(_, _), (_, _), (3, .fl (.own 9) 1 (List.map Value.string ([(⟨#[72, 69, 76, 79, 32, 104]⟩ : ByteArray), (⟨#[100, 97, 116, 97]⟩ : ByteArray), (⟨#[68, 65, 84, 65, 32]⟩ : ByteArray), (⟨#[114, 115, 101, 116]⟩ : ByteArray), (⟨#[81, 117, 105, 116]⟩ : ByteArray), (⟨#[78, 79, 79, 80]⟩ : ByteArray), (⟨#[78, 79, 79, 80, 32, 120, 32, 121]⟩ : ByteArray), (⟨#[86, 82, 70, 89]⟩ : ByteArray), (⟨#[86, 82, 70, 89, 32, 117]⟩ : ByteArray), (⟨#[69, 84, 82, 78, 32, 98, 46, 120]⟩ : ByteArray), (⟨#[69, 84, 82, 78]⟩ : ByteArray), (⟨#[69, 84, 82, 78, 32, 64, 98]⟩ : ByteArray), (⟨#[65, 85, 84, 72, 32, 99, 114, 97, 109, 45, 109, 100, 53]⟩ : ByteArray), (⟨#[65, 85, 84, 72, 32, 80, 76, 65, 73, 78]⟩ : ByteArray), (⟨#[65, 85, 84, 72]⟩ : ByteArray), (⟨#[65, 85, 84, 72, 32]⟩ : ByteArray), (⟨#[65, 84, 82, 78]⟩ : ByteArray), (⟨#[65, 84, 82, 78, 32, 98, 46, 120]⟩ : ByteArray), (⟨#[65, 84, 82, 78, 32]⟩ : ByteArray), (⟨#[69, 72, 76, 79]⟩ : ByteArray), (⟨#[]⟩ : ByteArray), (⟨#[32, 68, 65, 84, 65]⟩ : ByteArray), (⟨#[68, 65, 84, 65, 88]⟩ : ByteArray), (⟨#[77, 65, 73, 76]⟩ : ByteArray), (⟨#[82, 67, 80, 84, 32, 84, 79]⟩ : ByteArray), (⟨#[82, 83, 69, 84, 32, 120]⟩ : ByteArray)])))]) (by kernel_rfl) rfl rfl
   ⟨st_plain rfl (op_buildSlice _ _ 1 (.string ByteArray.empty) (List.map Value.string ([(⟨#[72, 69, 76, 79, 32, 104]⟩ : ByteArray), (⟨#[100, 97, 116, 97]⟩ : ByteArray), (⟨#[68, 65, 84, 65, 32]⟩ : ByteArray), (⟨#[114, 115, 101, 116]⟩ : ByteArray), (⟨#[81, 117, 105, 116]⟩ : ByteArray), (⟨#[78, 79, 79, 80]⟩ : ByteArray), (⟨#[78, 79, 79, 80, 32, 120, 32, 121]⟩ : ByteArray), (⟨#[86, 82, 70, 89]⟩ : ByteArray), (⟨#[86, 82, 70, 89, 32, 117]⟩ : ByteArray), (⟨#[69, 84, 82, 78, 32, 98, 46, 120]⟩ : ByteArray), (⟨#[69, 84, 82, 78]⟩ : ByteArray), (⟨#[69, 84, 82, 78, 32, 64, 98]⟩ : ByteArray), (⟨#[65, 85, 84, 72, 32, 99, 114, 97, 109, 45, 109, 100, 53]⟩ : ByteArray), (⟨#[65, 85, 84, 72, 32, 80, 76, 65, 73, 78]⟩ : ByteArray), (⟨#[65, 85, 84, 72]⟩ : ByteArray), (⟨#[65, 85, 84, 72, 32]⟩ : ByteArray), (⟨#[65, 84, 82, 78]⟩ : ByteArray), (⟨#[65, 84, 82, 78, 32, 98, 46, 120]⟩ : ByteArray), (⟨#[65, 84, 82, 78, 32]⟩ : ByteArray), (⟨#[69, 72, 76, 79]⟩ : ByteArray), (⟨#[]⟩ : ByteArray), (⟨#[32, 68, 65, 84, 65]⟩ : ByteArray), (⟨#[68, 65, 84, 65, 88]⟩ : ByteArray), (⟨#[77, 65, 73, 76]⟩ : ByteArray), (⟨#[82, 67, 80, 84, 32, 84, 79]⟩ : ByteArray), (⟨#[82, 83, 69, 84, 32, 120]⟩ : ByteArray)])) [(0, .string (⟨#[72, 69, 76, 79, 32, 104]⟩ : ByteArray)), (1, .string (⟨#[100, 97, 116, 97]⟩ : ByteArray)), (2, .string (⟨#[68, 65, 84, 65, 32]⟩ : ByteArray)), (3, .string (⟨#[114, 115, 101, 116]⟩ : ByteArray)), (4, .string (⟨#[81, 117, 105, 116]⟩ : ByteArray)), (5, .string (⟨#[78, 79, 79, 80]⟩ : ByteArray)), (6, .string (⟨#[78, 79, 79, 80, 32, 120, 32, 121]⟩ : ByteArray)), (7, .string (⟨#[86, 82, 70, 89]⟩ : ByteArray)), (8, .string (⟨#[86, 82, 70, 89, 32, 117]⟩ : ByteArray)), (9, .string (⟨#[69, 84, 82, 78, 32, 98, 46, 120]⟩ : ByteArray)), (10, .string (⟨#[69, 84, 82, 78]⟩ : ByteArray)), (11, .string (⟨#[69, 84, 82, 78, 32, 64, 98]⟩ : ByteArray)), (12, .string (⟨#[65, 85, 84, 72, 32, 99, 114, 97, 109, 45, 109, 100, 53]⟩ : ByteArray)), (13, .string (⟨#[65, 85, 84, 72, 32, 80, 76, 65, 73, 78]⟩ : ByteArray)), (14, .string (⟨#[65, 85, 84, 72]⟩ : ByteArray)), (15, .string (⟨#[65, 85, 84, 72, 32]⟩ : ByteArray)), (16, .string (⟨#[65, 84, 82, 78]⟩ : ByteArray)), (17, .string (⟨#[65, 84, 82, 78, 32, 98, 46, 120]⟩ : ByteArray)), (18, .string (⟨#[65, 84, 82, 78, 32]⟩ : ByteArray)), (19, .string (⟨#[69, 72, 76, 79]⟩ : ByteArray)), (20, .string ByteArray.empty), (21, .string (⟨#[32, 68, 65, 84, 65]⟩ : ByteArray)), (22, .string (⟨#[68, 65, 84, 65, 88]⟩ : ByteArray)), (23, .string (⟨#[77, 65, 73, 76]⟩ : ByteArray)), (24, .string (⟨#[82, 67, 80, 84, 32, 84, 79]⟩ : ByteArray)), (25, .string (⟨#[82, 83, 69, 84, 32, 120]⟩ : ByteArray))] Tryd.underlying40 sz9 zr9 (fun _ V w o a hv hes => by simp only [List.map_toArray, List.map_cons, List.map_nil]; try rfl) (litfill (by simp [Instr.fill, Value.cells]; rfl) (by simp [List.range, List.range.loop] <;> rfl)) (by simp [Value.oneCell']) rfl (by decide) (by decide) (by decide)),
   st_plain rfl (op_assign_take _ _ _ _ rfl),
   trivial⟩ ?_
  refine pt_then ?_
  refine ht_seq ?_
  refine ht_seqR hn (El := [_, _, _, (9, .fl (.own 3) 1 (List.map (Value.int .i64) [0, 0, 501, 0, 0, 0, 0, 501, 0, 0, 501, 501, 0, 504, 501, 501, 0, 0, 501, 501, 500, 500, 500, 501, 501, 501])), (4, .fl (.own 3) 1 (List.map (Value.int .i64) [0, 0, 501, 0, 0, 0, 0, 501, 0, 0, 501, 501, 0, 504, 501, 501, 0, 0, 501, 501, 500, 500, 500, 501, 501, 501]))]) (init := [0, 1, 2]) (fin := [0, 1, 2, 4]) (sps := [⟨[], [], [3], [(.slot 9)]⟩, ⟨[], [3], [4], [(.slot 4)]⟩]) (es' := [(_, _), (_, _), (_, _), (4, .fl (.own 3) 1 (List.map (Value.int .i64) [0, 0, 501, 0, 0, 0, 0, 501, 0, 0, 501, 501, 0, 504, 501, 501, 0, 0, 501, 501, 500, 500, 500, 501, 501, 501]))]) (by kernel_rfl) rfl rfl
   ⟨st_plain rfl (op_buildSlice _ _ 1 (.int .i64 0) (List.map (Value.int .i64) [0, 0, 501, 0, 0, 0, 0, 501, 0, 0, 501, 501, 0, 504, 501, 501, 0, 0, 501, 501, 500, 500, 500, 501, 501, 501]) [(0, .int .i64 0), (1, .int .i64 0), (2, .int .i64 501), (3, .int .i64 0), (4, .int .i64 0), (5, .int .i64 0), (6, .int .i64 0), (7, .int .i64 501), (8, .int .i64 0), (9, .int .i64 0), (10, .int .i64 501), (11, .int .i64 501), (12, .int .i64 0), (13, .int .i64 504), (14, .int .i64 501), (15, .int .i64 501), (16, .int .i64 0), (17, .int .i64 0), (18, .int .i64 501), (19, .int .i64 501), (20, .int .i64 500), (21, .int .i64 500), (22, .int .i64 500), (23, .int .i64 501), (24, .int .i64 501), (25, .int .i64 501)] Tryd.underlying41 sz3 zr3 (fun _ V w o a hv hes => by simp only [List.map_toArray, List.map_cons, List.map_nil]; try rfl) (litfill (by simp [Instr.fill, Value.cells]; rfl) (by simp [List.range, List.range.loop] <;> rfl)) (by simp [Value.oneCell']) rfl (by decide) (by decide) (by decide)),
   st_plain rfl (op_assign_take _ _ _ _ rfl),
   trivial⟩ ?_
  refine pt_then ?_
  refine ht_seq ?_
  refine ht_seqR hn (El := [_, _, _, _, (10, .fl (.own 3) 1 (List.map (Value.int .i64) [1, 4, 0, 5, 8, 7, 7, 0, 6, 9, 0, 0, 10, 0, 0, 0, 11, 11, 0, 0, 0, 0, 0, 0, 0, 0])), (5, .fl (.own 3) 1 (List.map (Value.int .i64) [1, 4, 0, 5, 8, 7, 7, 0, 6, 9, 0, 0, 10, 0, 0, 0, 11, 11, 0, 0, 0, 0, 0, 0, 0, 0]))]) (init := [0, 1, 2, 3]) (fin := [0, 1, 2, 3, 5]) (sps := [⟨[], [], [4], [(.slot 10)]⟩, ⟨[], [4], [5], [(.slot 5)]⟩]) (es' := [(_, _), (_, _), (_, _), (_, _), (5, .fl (.own 3) 1 (List.map (Value.int .i64) [1, 4, 0, 5, 8, 7, 7, 0, 6, 9, 0, 0, 10, 0, 0, 0, 11, 11, 0, 0, 0, 0, 0, 0, 0, 0]))]) (by kernel_rfl) rfl rfl
   ⟨st_plain rfl (op_buildSlice _ _ 1 (.int .i64 0) (List.map (Value.int .i64) [1, 4, 0, 5, 8, 7, 7, 0, 6, 9, 0, 0, 10, 0, 0, 0, 11, 11, 0, 0, 0, 0, 0, 0, 0, 0]) [(0, .int .i64 1), (1, .int .i64 4), (2, .int .i64 0), (3, .int .i64 5), (4, .int .i64 8), (5, .int .i64 7), (6, .int .i64 7), (7, .int .i64 0), (8, .int .i64 6), (9, .int .i64 9), (10, .int .i64 0), (11, .int .i64 0), (12, .int .i64 10), (13, .int .i64 0), (14, .int .i64 0), (15, .int .i64 0), (16, .int .i64 11), (17, .int .i64 11), (18, .int .i64 0), (19, .int .i64 0), (20, .int .i64 0), (21, .int .i64 0), (22, .int .i64 0), (23, .int .i64 0), (24, .int .i64 0), (25, .int .i64 0)] Tryd.underlying41 sz3 zr3 (fun _ V w o a hv hes => by simp only [List.map_toArray, List.map_cons, List.map_nil]; try rfl) (litfill (by simp [Instr.fill, Value.cells]; rfl) (by simp [List.range, List.range.loop] <;> rfl)) (by simp [Value.oneCell']) rfl (by decide) (by decide) (by decide)),
   st_plain rfl (op_assign_take _ _ _ _ rfl),
   trivial⟩ ?_
  refine pt_then ?_
  refine ht_seq ?_
  obtain ⟨v1, hv1, h⟩ := bind_some h
  obtain ⟨v2, hv2, h⟩ := bind_some h
  obtain ⟨v3, hv3, h⟩ := bind_some h
  obtain ⟨v4, hv4, h⟩ := bind_some h
  refine ht_seqR hn (El := [_, _, _, _, _, (11, .v (.int .i64 i)), (12, .v (.int .u64 v1)), (13, .same (.slot 3)), (14, .v (.int .i64 ((([(⟨#[72, 69, 76, 79, 32, 104]⟩ : ByteArray), (⟨#[100, 97, 116, 97]⟩ : ByteArray), (⟨#[68, 65, 84, 65, 32]⟩ : ByteArray), (⟨#[114, 115, 101, 116]⟩ : ByteArray), (⟨#[81, 117, 105, 116]⟩ : ByteArray), (⟨#[78, 79, 79, 80]⟩ : ByteArray), (⟨#[78, 79, 79, 80, 32, 120, 32, 121]⟩ : ByteArray), (⟨#[86, 82, 70, 89]⟩ : ByteArray), (⟨#[86, 82, 70, 89, 32, 117]⟩ : ByteArray), (⟨#[69, 84, 82, 78, 32, 98, 46, 120]⟩ : ByteArray), (⟨#[69, 84, 82, 78]⟩ : ByteArray), (⟨#[69, 84, 82, 78, 32, 64, 98]⟩ : ByteArray), (⟨#[65, 85, 84, 72, 32, 99, 114, 97, 109, 45, 109, 100, 53]⟩ : ByteArray), (⟨#[65, 85, 84, 72, 32, 80, 76, 65, 73, 78]⟩ : ByteArray), (⟨#[65, 85, 84, 72]⟩ : ByteArray), (⟨#[65, 85, 84, 72, 32]⟩ : ByteArray), (⟨#[65, 84, 82, 78]⟩ : ByteArray), (⟨#[65, 84, 82, 78, 32, 98, 46, 120]⟩ : ByteArray), (⟨#[65, 84, 82, 78, 32]⟩ : ByteArray), (⟨#[69, 72, 76, 79]⟩ : ByteArray), (⟨#[]⟩ : ByteArray), (⟨#[32, 68, 65, 84, 65]⟩ : ByteArray), (⟨#[68, 65, 84, 65, 88]⟩ : ByteArray), (⟨#[77, 65, 73, 76]⟩ : ByteArray), (⟨#[82, 67, 80, 84, 32, 84, 79]⟩ : ByteArray), (⟨#[82, 83, 69, 84, 32, 120]⟩ : ByteArray)]).length : Int)))), (15, .v (.int .u64 v2)), (16, .v (.int .u64 v3)), (17, .v (.int .i64 v4)), (0, .v (.int .i64 v4))]) (init := [0, 1, 2, 3, 4]) (fin := [1, 2, 3, 4, 12]) (sps := [⟨[0], [], [5], [(.slot 11)]⟩, ⟨[5], [], [6], [(.slot 12)]⟩, ⟨[2], [], [7], [(.slot 13)]⟩, ⟨[7, 2], [], [8], [(.slot 14)]⟩, ⟨[8], [], [9], [(.slot 15)]⟩, ⟨[6, 9], [], [10], [(.slot 16)]⟩, ⟨[10], [], [11], [(.slot 17)]⟩, ⟨[11], [0], [12], [(.slot 0)]⟩]) (es' := [(_, _), (_, _), (_, _), (_, _), (0, .v (.int .i64 v4))]) (by kernel_rfl) rfl rfl
   ⟨st_plain rfl (op_move _ _ _ _ rfl rfl),
   st_plain rfl ((Option.some.inj hv1) ▸ op_conv _ _ _ Tryd.underlying3 Tryd.underlying38 rfl),
   st_plain rfl (op_move _ _ _ _ rfl rfl),
   st_plain rfl (op_len_fl _ _ _ Tryd.underlying40 rfl (by decide) (map_len _)),
   st_plain rfl ((Option.some.inj hv2) ▸ op_conv _ _ _ Tryd.underlying3 Tryd.underlying38 rfl),
   st_plain rfl (op_bin _ _ _ _ _ rfl rfl (rem_ok hv3)),
   st_plain rfl ((Option.some.inj hv4) ▸ op_conv _ _ _ Tryd.underlying38 Tryd.underlying3 rfl),
   st_plain rfl (LOp.drop [_] (op_assign _ _ _ _ rfl rfl)),
   trivial⟩ ?_
  refine pt_then ?_
  refine ht_seq ?_
  obtain ⟨v5, hv5, h⟩ := bind_some h
  obtain ⟨v6, hv6, h⟩ := bind_some h
  obtain ⟨v7, hv7, h⟩ := bind_some h
  refine ht_seqR hn (El := (_ :: _ :: _ :: _ :: _ :: (19, .fl (.own 9) 1 (List.map Value.string ([(⟨#[72, 69, 76, 79, 32, 104]⟩ : ByteArray), (⟨#[100, 97, 116, 97]⟩ : ByteArray), (⟨#[68, 65, 84, 65, 32]⟩ : ByteArray), (⟨#[114, 115, 101, 116]⟩ : ByteArray), (⟨#[81, 117, 105, 116]⟩ : ByteArray), (⟨#[78, 79, 79, 80]⟩ : ByteArray), (⟨#[78, 79, 79, 80, 32, 120, 32, 121]⟩ : ByteArray), (⟨#[86, 82, 70, 89]⟩ : ByteArray), (⟨#[86, 82, 70, 89, 32, 117]⟩ : ByteArray), (⟨#[69, 84, 82, 78, 32, 98, 46, 120]⟩ : ByteArray), (⟨#[69, 84, 82, 78]⟩ : ByteArray), (⟨#[69, 84, 82, 78, 32, 64, 98]⟩ : ByteArray), (⟨#[65, 85, 84, 72, 32, 99, 114, 97, 109, 45, 109, 100, 53]⟩ : ByteArray), (⟨#[65, 85, 84, 72, 32, 80, 76, 65, 73, 78]⟩ : ByteArray), (⟨#[65, 85, 84, 72]⟩ : ByteArray), (⟨#[65, 85, 84, 72, 32]⟩ : ByteArray), (⟨#[65, 84, 82, 78]⟩ : ByteArray), (⟨#[65, 84, 82, 78, 32, 98, 46, 120]⟩ : ByteArray), (⟨#[65, 84, 82, 78, 32]⟩ : ByteArray), (⟨#[69, 72, 76, 79]⟩ : ByteArray), (⟨#[]⟩ : ByteArray), (⟨#[32, 68, 65, 84, 65]⟩ : ByteArray), (⟨#[68, 65, 84, 65, 88]⟩ : ByteArray), (⟨#[77, 65, 73, 76]⟩ : ByteArray), (⟨#[82, 67, 80, 84, 32, 84, 79]⟩ : ByteArray), (⟨#[82, 83, 69, 84, 32, 120]⟩ : ByteArray)]))) :: (20, .v (.int .i64 v4)) :: (21, .eref (.slot 19) (v5 * 1)) :: (22, .v (.string v6)) :: (23, .tup [.agg [.v (.int .i64 v7.1.Kind), .v (.string v7.1.Text), .v (.bool v7.1.Path.Null), .v (.string v7.1.Path.Local), .v (.string v7.1.Path.Domain), .fl .ro 2 (List.flatten (List.map T_Param.enc v7.1.Params))], .v (.int .i64 v7.2)]) :: (18, .tup [.agg [.v (.int .i64 v7.1.Kind), .v (.string v7.1.Text), .v (.bool v7.1.Path.Null), .v (.string v7.1.Path.Local), .v (.string v7.1.Path.Domain), .fl .ro 2 (List.flatten (List.map T_Param.enc v7.1.Params))], .v (.int .i64 v7.2)]) :: (24, .agg [.v (.int .i64 v7.1.Kind), .v (.string v7.1.Text), .v (.bool v7.1.Path.Null), .v (.string v7.1.Path.Local), .v (.string v7.1.Path.Domain), .fl .ro 2 (List.flatten (List.map T_Param.enc v7.1.Params))]) :: (25, .v (.int .i64 v7.2)) :: (6, .box 26 [.v (.int .i64 0), .v (.string (⟨#[]⟩ : ByteArray)), .v (.bool false), .v (.string (⟨#[]⟩ : ByteArray)), .v (.string (⟨#[]⟩ : ByteArray)), .v (.slice none 0 0)]) :: (6, .box 26 [.v (.int .i64 v7.1.Kind), .v (.string v7.1.Text), .v (.bool v7.1.Path.Null), .v (.string v7.1.Path.Local), .v (.string v7.1.Path.Domain), .fl .ro 2 (List.flatten (List.map T_Param.enc v7.1.Params))]) :: (7, .v (.int .i64 v7.2)) :: [])) (init := [0, 1, 2, 3, 4]) (fin := [0, 2, 3, 4, 14, 15]) (sps := [⟨[], [1], [5], [(.slot 19)]⟩, ⟨[4], [], [6], [(.slot 20)]⟩, ⟨[5, 6], [], [7], [(.slot 21)]⟩, ⟨[7, 5], [], [8], [(.slot 22)]⟩, ⟨[8, 0], [], [9], [(.slot 23)]⟩, ⟨[], [9], [10], [(.slot 18)]⟩, ⟨[10], [], [11], [(.slot 24)]⟩, ⟨[10], [], [12], [(.slot 25)]⟩, ⟨[], [], [13], [(.slot 6)]⟩, ⟨[11], [13], [14], [.cell 6 0, .cell 6 1, .cell 6 2, .cell 6 3, .cell 6 4, .cell 6 5]⟩, ⟨[12], [], [15], [(.slot 7)]⟩]) (es' := [(_, _), (_, _), (_, _), (_, _), (6, .box 26 [.v (.int .i64 v7.1.Kind), .v (.string v7.1.Text), .v (.bool v7.1.Path.Null), .v (.string v7.1.Path.Local), .v (.string v7.1.Path.Domain), .fl .ro 2 (List.flatten (List.map T_Param.enc v7.1.Params))]), (7, .v (.int .i64 v7.2))]) (by kernel_rfl) rfl rfl
   ⟨st_plain rfl (op_move_take _ _ _ _ rfl),
   st_plain rfl (op_move _ _ _ _ rfl rfl),
   st_plain rfl (op_ix _ _ _ _ _ _ _ _ Tryd.underlying40 sz9 (by decide) rfl rfl rfl (ix_ok hv5).1 (map_lt (ix_ok hv5).2) rfl),
   st_plain rfl (op_load_e _ _ _ _ _ _ Tryd.underlying9 rfl rfl rfl (map_get hv6)),
   st_plain rfl (op_callG _ _ 44 10 _ _ rfl Tryd.call10 rfl rfl (fun _ h => h) (ok_verb_Parse mx v6 _ hv7) rfl rfl),
   st_plain rfl (op_move_take _ _ _ _ rfl),
   st_plain rfl (op_extract_no _ _ _ _ _ _ rfl rfl (Nat.le_of_ble_eq_true rfl) rfl rfl),
   st_plain rfl (op_extract _ _ _ _ _ rfl rfl (Nat.le_of_ble_eq_true rfl) rfl rfl),
   st_plain rfl (op_alloc _ _ zr26),
   st_plain rfl (op_store _ _ _ _ _ _ _ _ sz26 rfl rfl rfl rfl (Nat.le_of_ble_eq_true rfl) rfl rfl),
   st_plain rfl (op_assign _ _ _ _ rfl rfl),
   trivial⟩ ?_
  refine pt_then ?_
  refine ht_seq ?_
  refine ht_joinS h (fun (s13 : Bool) => [(44, .glob (GL mx)), (2, .v (.bool s13))]) ?_ ?_
  ·rintro s13 h
   refine pt_then ?_
   refine ht_ret ?_
   refine pt_pick [1] (by kernel_rfl) (es' := [(_, _)]) rfl ?_
   obtain rfl := Option.some.inj h
   exact pt_ret hio rfl (.tmp _ _ .nil) rfl rfl
  ·intro u14 h hl15 hr16
   obtain ⟨v8, hv8, h⟩ := bind_some h
   obtain ⟨v9, hv9, h⟩ := bind_some h
   refine cond_some h (fun hg6_6 h => ?_) (fun hg6_6 h => ?_)
   ·obtain ⟨v10, hv10, h⟩ := bind_some h
    obtain ⟨v11, hv11, h⟩ := bind_some h
    refine cond_some h (fun hg6_15 h => ?_) (fun hg6_15 h => ?_)
    ·obtain ⟨v12, hv12, h⟩ := bind_some h
     refine ht_anyR (by kernel_rfl) hn (El := (_ :: _ :: _ :: _ :: _ :: _ :: (26, .v (.int .i64 v7.2)) :: (27, .fl (.own 3) 1 (List.map (Value.int .i64) [0, 0, 501, 0, 0, 0, 0, 501, 0, 0, 501, 501, 0, 504, 501, 501, 0, 0, 501, 501, 500, 500, 500, 501, 501, 501])) :: (28, .v (.int .i64 v4)) :: (29, .eref (.slot 27) (v8 * 1)) :: (30, .v (.int .i64 v9)) :: (31, .v (.bool (v7.2 == v9))) :: (32, .v (.bool true)) :: (33, .ptr 6 0) :: (34, .v (.int .i64 v7.1.Kind)) :: (35, .fl (.own 3) 1 (List.map (Value.int .i64) [1, 4, 0, 5, 8, 7, 7, 0, 6, 9, 0, 0, 10, 0, 0, 0, 11, 11, 0, 0, 0, 0, 0, 0, 0, 0])) :: (36, .v (.int .i64 v4)) :: (37, .eref (.slot 35) (v10 * 1)) :: (38, .v (.int .i64 v11)) :: (39, .v (.bool (v7.1.Kind == v11))) :: (40, .v (.bool (v7.1.Kind == v11))) :: (41, .v (.bool true)) :: (42, .v (.bool v12)) :: (43, .v (.bool v12)) :: (2, .v (.bool v12)) :: [])) (init := [0, 1, 2, 3, 4, 5]) (fin := [0, 24]) (sps := (⟨[5], [], [6], [(.slot 26)]⟩ :: ⟨[], [1], [7], [(.slot 27)]⟩ :: ⟨[3], [], [8], [(.slot 28)]⟩ :: ⟨[7, 8], [], [9], [(.slot 29)]⟩ :: ⟨[9, 7], [], [10], [(.slot 30)]⟩ :: ⟨[6, 10], [], [11], [(.slot 31)]⟩ :: ⟨[11], [], [12], [(.slot 32)]⟩ :: ⟨[12, 4], [], [13], [(.slot 33)]⟩ :: ⟨[12, 13, 4], [], [14], [(.slot 34)]⟩ :: ⟨[12], [2], [15], [(.slot 35)]⟩ :: ⟨[12, 3], [], [16], [(.slot 36)]⟩ :: ⟨[12, 15, 16], [], [17], [(.slot 37)]⟩ :: ⟨[12, 17, 15], [], [18], [(.slot 38)]⟩ :: ⟨[12, 14, 18], [], [19], [(.slot 39)]⟩ :: ⟨[12, 19], [], [20], [(.slot 40)]⟩ :: ⟨[20], [], [21], [(.slot 41)]⟩ :: ⟨[21, 0], [], [22], [(.slot 42)]⟩ :: ⟨[21, 22], [], [23], [(.slot 43)]⟩ :: ⟨[23], [], [24], [(.slot 2)]⟩ :: [])) (es' := [(_, _), (2, .v (.bool v12))]) (by kernel_rfl) rfl rfl
      ⟨st_plain rfl (op_move _ _ _ _ rfl rfl),
      st_plain rfl (op_move_take _ _ _ _ rfl),
      st_plain rfl (op_move _ _ _ _ rfl rfl),
      st_plain rfl (op_ix _ _ _ _ _ _ _ _ Tryd.underlying41 sz3 (by decide) rfl rfl rfl (ix_ok hv8).1 (map_lt (ix_ok hv8).2) rfl),
      st_plain rfl (op_load_e _ _ _ _ _ _ Tryd.underlying3 rfl rfl rfl (map_get hv9)),
      st_plain rfl (op_bin _ _ _ _ _ rfl rfl rfl),
      st_plain rfl (op_move _ _ _ _ (congrArg (fun b => AV.v (Value.bool b)) hg6_6) rfl),
      st_run 6 32 true rfl rfl rfl (List.Mem.head _) (op_fieldAddr _ _ _ _ 6 0 _ Tryd.underlying26 rfl sz3 rfl rfl (by decide)),
      st_run 6 32 true rfl rfl rfl (List.Mem.head _) (op_load _ _ _ _ _ _ Tryd.underlying3 rfl rfl rfl (Nat.le_of_ble_eq_true rfl) rfl rfl rfl),
      st_run 6 32 true rfl rfl rfl (List.Mem.head _) (op_move_take _ _ _ _ rfl),
      st_run 6 32 true rfl rfl rfl (List.Mem.head _) (op_move _ _ _ _ rfl rfl),
      st_run 6 32 true rfl rfl rfl (List.Mem.head _) (op_ix _ _ _ _ _ _ _ _ Tryd.underlying41 sz3 (by decide) rfl rfl rfl (ix_ok hv10).1 (map_lt (ix_ok hv10).2) rfl),
      st_run 6 32 true rfl rfl rfl (List.Mem.head _) (op_load_e _ _ _ _ _ _ Tryd.underlying3 rfl rfl rfl (map_get hv11)),
      st_run 6 32 true rfl rfl rfl (List.Mem.head _) (op_bin _ _ _ _ _ rfl rfl rfl),
      st_plain rfl (op_pick _ _ true _ rfl rfl),
      st_plain rfl (op_move _ _ _ _ (congrArg (fun b => AV.v (Value.bool b)) hg6_15) rfl),
      st_run 15 41 true rfl rfl rfl (List.Mem.head _) (op_callG _ _ 44 12 _ _ rfl Tryd.call12 rfl rfl (fun _ h => h) (ok_wherrylaw12_wakes mx  _ hv12) rfl rfl),
      st_plain rfl (op_pick _ _ true _ rfl rfl),
      st_plain rfl (op_assign _ _ _ _ rfl rfl),
      trivial⟩ ?_
     exact hl15 _ (Option.some.inj h).symm
    ·refine ht_anyR (by kernel_rfl) hn (El := (_ :: _ :: _ :: _ :: _ :: _ :: (26, .v (.int .i64 v7.2)) :: (27, .fl (.own 3) 1 (List.map (Value.int .i64) [0, 0, 501, 0, 0, 0, 0, 501, 0, 0, 501, 501, 0, 504, 501, 501, 0, 0, 501, 501, 500, 500, 500, 501, 501, 501])) :: (28, .v (.int .i64 v4)) :: (29, .eref (.slot 27) (v8 * 1)) :: (30, .v (.int .i64 v9)) :: (31, .v (.bool (v7.2 == v9))) :: (32, .v (.bool true)) :: (33, .ptr 6 0) :: (34, .v (.int .i64 v7.1.Kind)) :: (35, .fl (.own 3) 1 (List.map (Value.int .i64) [1, 4, 0, 5, 8, 7, 7, 0, 6, 9, 0, 0, 10, 0, 0, 0, 11, 11, 0, 0, 0, 0, 0, 0, 0, 0])) :: (36, .v (.int .i64 v4)) :: (37, .eref (.slot 35) (v10 * 1)) :: (38, .v (.int .i64 v11)) :: (39, .v (.bool (v7.1.Kind == v11))) :: (40, .v (.bool (v7.1.Kind == v11))) :: (41, .v (.bool false)) :: (42, .v undef) :: (43, .v (.bool false)) :: (2, .v (.bool false)) :: [])) (init := [0, 1, 2, 3, 4, 5]) (fin := [0, 24]) (sps := (⟨[5], [], [6], [(.slot 26)]⟩ :: ⟨[], [1], [7], [(.slot 27)]⟩ :: ⟨[3], [], [8], [(.slot 28)]⟩ :: ⟨[7, 8], [], [9], [(.slot 29)]⟩ :: ⟨[9, 7], [], [10], [(.slot 30)]⟩ :: ⟨[6, 10], [], [11], [(.slot 31)]⟩ :: ⟨[11], [], [12], [(.slot 32)]⟩ :: ⟨[12, 4], [], [13], [(.slot 33)]⟩ :: ⟨[12, 13, 4], [], [14], [(.slot 34)]⟩ :: ⟨[12], [2], [15], [(.slot 35)]⟩ :: ⟨[12, 3], [], [16], [(.slot 36)]⟩ :: ⟨[12, 15, 16], [], [17], [(.slot 37)]⟩ :: ⟨[12, 17, 15], [], [18], [(.slot 38)]⟩ :: ⟨[12, 14, 18], [], [19], [(.slot 39)]⟩ :: ⟨[12, 19], [], [20], [(.slot 40)]⟩ :: ⟨[20], [], [21], [(.slot 41)]⟩ :: ⟨[21], [], [22], [(.slot 42)]⟩ :: ⟨[21], [], [23], [(.slot 43)]⟩ :: ⟨[23], [], [24], [(.slot 2)]⟩ :: [])) (es' := [(_, _), (2, .v (.bool false))]) (by kernel_rfl) rfl rfl
      ⟨st_plain rfl (op_move _ _ _ _ rfl rfl),
      st_plain rfl (op_move_take _ _ _ _ rfl),
      st_plain rfl (op_move _ _ _ _ rfl rfl),
      st_plain rfl (op_ix _ _ _ _ _ _ _ _ Tryd.underlying41 sz3 (by decide) rfl rfl rfl (ix_ok hv8).1 (map_lt (ix_ok hv8).2) rfl),
      st_plain rfl (op_load_e _ _ _ _ _ _ Tryd.underlying3 rfl rfl rfl (map_get hv9)),
      st_plain rfl (op_bin _ _ _ _ _ rfl rfl rfl),
      st_plain rfl (op_move _ _ _ _ (congrArg (fun b => AV.v (Value.bool b)) hg6_6) rfl),
      st_run 6 32 true rfl rfl rfl (List.Mem.head _) (op_fieldAddr _ _ _ _ 6 0 _ Tryd.underlying26 rfl sz3 rfl rfl (by decide)),
      st_run 6 32 true rfl rfl rfl (List.Mem.head _) (op_load _ _ _ _ _ _ Tryd.underlying3 rfl rfl rfl (Nat.le_of_ble_eq_true rfl) rfl rfl rfl),
      st_run 6 32 true rfl rfl rfl (List.Mem.head _) (op_move_take _ _ _ _ rfl),
      st_run 6 32 true rfl rfl rfl (List.Mem.head _) (op_move _ _ _ _ rfl rfl),
      st_run 6 32 true rfl rfl rfl (List.Mem.head _) (op_ix _ _ _ _ _ _ _ _ Tryd.underlying41 sz3 (by decide) rfl rfl rfl (ix_ok hv10).1 (map_lt (ix_ok hv10).2) rfl),
      st_run 6 32 true rfl rfl rfl (List.Mem.head _) (op_load_e _ _ _ _ _ _ Tryd.underlying3 rfl rfl rfl (map_get hv11)),
      st_run 6 32 true rfl rfl rfl (List.Mem.head _) (op_bin _ _ _ _ _ rfl rfl rfl),
      st_plain rfl (op_pick _ _ true _ rfl rfl),
      st_plain rfl (op_move _ _ _ _ (congrArg (fun b => AV.v (Value.bool b)) hg6_15) rfl),
      st_skip 15 41 _ true rfl rfl rfl rfl (List.Mem.head _),
      st_plain rfl (op_pick _ _ false _ rfl rfl),
      st_plain rfl (op_assign _ _ _ _ rfl rfl),
      trivial⟩ ?_
     exact hl15 _ (Option.some.inj h).symm
   ·refine ht_anyR (by kernel_rfl) hn (El := (_ :: _ :: _ :: _ :: _ :: _ :: (26, .v (.int .i64 v7.2)) :: (27, .fl (.own 3) 1 (List.map (Value.int .i64) [0, 0, 501, 0, 0, 0, 0, 501, 0, 0, 501, 501, 0, 504, 501, 501, 0, 0, 501, 501, 500, 500, 500, 501, 501, 501])) :: (28, .v (.int .i64 v4)) :: (29, .eref (.slot 27) (v8 * 1)) :: (30, .v (.int .i64 v9)) :: (31, .v (.bool (v7.2 == v9))) :: (32, .v (.bool false)) :: (33, .v undef) :: (34, .v undef) :: (35, .v undef) :: (36, .v undef) :: (37, .v undef) :: (38, .v undef) :: (39, .v undef) :: (40, .v (.bool false)) :: (41, .v (.bool false)) :: (42, .v undef) :: (43, .v (.bool false)) :: (2, .v (.bool false)) :: [])) (init := [0, 1, 2, 3, 4, 5]) (fin := [0, 24]) (sps := (⟨[5], [], [6], [(.slot 26)]⟩ :: ⟨[], [1], [7], [(.slot 27)]⟩ :: ⟨[3], [], [8], [(.slot 28)]⟩ :: ⟨[7, 8], [], [9], [(.slot 29)]⟩ :: ⟨[9, 7], [], [10], [(.slot 30)]⟩ :: ⟨[6, 10], [], [11], [(.slot 31)]⟩ :: ⟨[11], [], [12], [(.slot 32)]⟩ :: ⟨[12], [], [13], [(.slot 33)]⟩ :: ⟨[12], [], [14], [(.slot 34)]⟩ :: ⟨[12], [], [15], [(.slot 35)]⟩ :: ⟨[12], [], [16], [(.slot 36)]⟩ :: ⟨[12], [], [17], [(.slot 37)]⟩ :: ⟨[12], [], [18], [(.slot 38)]⟩ :: ⟨[12], [], [19], [(.slot 39)]⟩ :: ⟨[12], [], [20], [(.slot 40)]⟩ :: ⟨[20], [], [21], [(.slot 41)]⟩ :: ⟨[21], [], [22], [(.slot 42)]⟩ :: ⟨[21], [], [23], [(.slot 43)]⟩ :: ⟨[23], [], [24], [(.slot 2)]⟩ :: [])) (es' := [(_, _), (2, .v (.bool false))]) (by kernel_rfl) rfl rfl
     ⟨st_plain rfl (op_move _ _ _ _ rfl rfl),
     st_plain rfl (op_move_take _ _ _ _ rfl),
     st_plain rfl (op_move _ _ _ _ rfl rfl),
     st_plain rfl (op_ix _ _ _ _ _ _ _ _ Tryd.underlying41 sz3 (by decide) rfl rfl rfl (ix_ok hv8).1 (map_lt (ix_ok hv8).2) rfl),
     st_plain rfl (op_load_e _ _ _ _ _ _ Tryd.underlying3 rfl rfl rfl (map_get hv9)),
     st_plain rfl (op_bin _ _ _ _ _ rfl rfl rfl),
     st_plain rfl (op_move _ _ _ _ (congrArg (fun b => AV.v (Value.bool b)) hg6_6) rfl),
     st_skip 6 32 _ true rfl rfl rfl rfl (List.Mem.head _),
     st_skip 6 32 _ true rfl rfl rfl rfl (List.Mem.head _),
     st_skip 6 32 _ true rfl rfl rfl rfl (List.Mem.head _),
     st_skip 6 32 _ true rfl rfl rfl rfl (List.Mem.head _),
     st_skip 6 32 _ true rfl rfl rfl rfl (List.Mem.head _),
     st_skip 6 32 _ true rfl rfl rfl rfl (List.Mem.head _),
     st_skip 6 32 _ true rfl rfl rfl rfl (List.Mem.head _),
     st_plain rfl (op_pick _ _ false _ rfl rfl),
     st_plain rfl (op_move _ _ _ _ rfl rfl),
     st_skip 15 41 _ true rfl rfl rfl rfl (List.Mem.head _),
     st_plain rfl (op_pick _ _ false _ rfl rfl),
     st_plain rfl (op_assign _ _ _ _ rfl rfl),
     trivial⟩ ?_
    exact hl15 _ (Option.some.inj h).symm

end Go.Proofs.YthfmdofkkkpbkaaDoor
