/-
  The model's runs are what is told in Lean.
-/
import Derived.Test.YtadkeipbkbkneaaDoorProg
import Derived.KernelRfl
import Derived.Test.YtadkeipbkbkneaaDoorShelf
import Derived.Test.YtadkeipbkbkneaaDoorSh
set_option linter.unusedVariables false
set_option linter.unusedSimpArgs false
namespace Go.Proofs.YtadkeipbkbkneaaDoor
open Go.Abs Go.Abs.Sh

def GL (mx : Int) : List (Nat × List Value) := [(0, (List.map (Value.int .u32) digest_sines)), (1, (List.map (Value.int .i64) digest_turns))]
theorem gl_mem0 (mx : Int) : (0, ((List.map (Value.int .u32) digest_sines) : List Value)) ∈ GL mx := .head _
theorem gl_mem1 (mx : Int) : (1, ((List.map (Value.int .i64) digest_turns) : List Value)) ∈ GL mx := .tail _ (.head _)
theorem el22 : ElemT Tryd.prog 22 5 1 1 := ⟨⟨Tryd.t5, .int .u8 0, Tryd.underlying22, by kernel_rfl, by kernel_rfl, by kernel_rfl, by kernel_rfl, by decide, by kernel_rfl⟩⟩
theorem za62 : ((Tryd.prog.info? 62).bind (·.zero)).map (·.cells.toList) = some (List.map Value.bool (List.replicate 256 false)) := by kernel_rfl
theorem sz62 : (Tryd.prog.info? 62).map (·.size) = some 256 := by kernel_rfl
theorem sz4 : (Tryd.prog.info? 4).map (·.size) = some 1 := by kernel_rfl
theorem sz5 : (Tryd.prog.info? 5).map (·.size) = some 1 := by kernel_rfl
theorem zr5 : (Tryd.prog.info? 5).bind (·.zero) = some (.int .u8 0) := by kernel_rfl
theorem zr48 : (Tryd.prog.info? 48).bind (·.zero) = some (.agg #[.pointer none, .slice none 0 0]) := by kernel_rfl
theorem sz22 : (Tryd.prog.info? 22).map (·.size) = some 1 := by kernel_rfl
theorem za37 : ((Tryd.prog.info? 37).bind (·.zero)).map (·.cells.toList) = some (List.map (Value.int .u8) (List.replicate 16 (0 : Int))) := by kernel_rfl
theorem sz49 : (Tryd.prog.info? 49).map (·.size) = some 1 := by kernel_rfl
theorem zr49 : (Tryd.prog.info? 49).bind (·.zero) = some (.int .u32 0) := by kernel_rfl
theorem sz36 : (Tryd.prog.info? 36).map (·.size) = some 1 := by kernel_rfl
theorem zr36 : (Tryd.prog.info? 36).bind (·.zero) = some (.int .u64 0) := by kernel_rfl
theorem sz37 : (Tryd.prog.info? 37).map (·.size) = some 16 := by kernel_rfl
theorem za57 : ((Tryd.prog.info? 57).bind (·.zero)).map (·.cells.toList) = some (List.map (Value.int .u8) (List.replicate 64 (0 : Int))) := by kernel_rfl
theorem zr74 : (Tryd.prog.info? 74).bind (·.zero) = some (.agg #[.int .u32 0, .int .u32 0, .int .u32 0, .int .u32 0]) := by kernel_rfl
theorem za74 : ((Tryd.prog.info? 74).bind (·.zero)).map (·.cells.toList) = some (List.map (Value.int .u32) (List.replicate 4 (0 : Int))) := by kernel_rfl
theorem sz74 : (Tryd.prog.info? 74).map (·.size) = some 4 := by kernel_rfl
theorem za92 : ((Tryd.prog.info? 92).bind (·.zero)).map (·.cells.toList) = some (List.map (Value.int .u32) (List.replicate 16 (0 : Int))) := by kernel_rfl
theorem sz93 : (Tryd.prog.info? 93).map (·.size) = some 64 := by kernel_rfl
theorem sz96 : (Tryd.prog.info? 96).map (·.size) = some 4 := by kernel_rfl
theorem sz3 : (Tryd.prog.info? 3).map (·.size) = some 1 := by kernel_rfl
theorem sz57 : (Tryd.prog.info? 57).map (·.size) = some 64 := by kernel_rfl
theorem sz9 : (Tryd.prog.info? 9).map (·.size) = some 1 := by kernel_rfl
theorem zr9 : (Tryd.prog.info? 9).bind (·.zero) = some (.string ByteArray.empty) := by kernel_rfl

set_option maxHeartbeats 1000000 in
theorem ok_wherrykeep_Twin (l : (List Int)) (r : (List Int)) (h : Sh.wherrykeep_Twin l = some r) : FnOK Tryd.prog 8 [.fl .shr 1 (List.map (Value.int .u8) l)] (.fl (.own 5) 1 (List.map (Value.int .u8) r)) := by
  unfold Sh.wherrykeep_Twin at h
  refine fn_ok Tryd.func8 rfl (Nat.le_of_ble_eq_true rfl) rfl rfl fun g0 hn hio => ?_
  refine ht_seq ?_
  refine ht_seqR hn (El := [_, (2, .v (.slice none 0 0))]) (init := [0]) (fin := [0]) (sps := [⟨[], [], [1], [(.slot 2)]⟩]) (es' := [(_, _)]) (by kernel_rfl) rfl rfl
   ⟨st_plain rfl (op_assign _ _ _ _ rfl rfl),
   trivial⟩ ?_
  refine pt_then ?_
  refine ht_seq ?_
  refine ht_seqR hn (El := [_, (3, .v (.slice none 0 0))]) (init := [0]) (fin := [0, 1]) (sps := [⟨[], [], [1], [(.slot 3)]⟩]) (es' := [(_, _), (3, .v (.slice none 0 0))]) (by kernel_rfl) rfl rfl
   ⟨st_plain rfl (op_assign _ _ _ _ rfl rfl),
   trivial⟩ ?_
  refine pt_then ?_
  refine ht_seq ?_
  obtain ⟨v1, hv1, h⟩ := bind_some h
  refine ht_seqR hn (El := [_, _, (4, .v (.slice none 0 0)), (5, .fl .shr 1 (List.map (Value.int .u8) l)), (6, .fl (.own 5) 1 (List.map (Value.int .u8) v1)), (2, .fl (.own 5) 1 (List.map (Value.int .u8) v1))]) (init := [0, 1]) (fin := [5]) (sps := [⟨[1], [], [2], [(.slot 4)]⟩, ⟨[0], [], [3], [(.slot 5)]⟩, ⟨[2, 3], [], [4], [(.slot 6)]⟩, ⟨[], [4], [5], [(.slot 2)]⟩]) (es' := [(2, .fl (.own 5) 1 (List.map (Value.int .u8) v1))]) (by kernel_rfl) rfl rfl
   ⟨st_plain rfl (op_move _ _ _ _ rfl rfl),
   st_plain rfl (op_move _ _ _ _ rfl rfl),
   st_plain rfl (op_app_nil _ _ _ _ el22 rfl rfl (map_len _) hv1 (congrArg (List.map _) (app_nil_eq hv1))),
   st_plain rfl (op_assign_take _ _ _ _ rfl),
   trivial⟩ ?_
  refine pt_then ?_
  refine ht_ret ?_
  obtain rfl := Option.some.inj h
  exact pt_ret hio rfl (.tmp _ _ .nil) rfl rfl

set_option maxHeartbeats 1000000 in
theorem ok_strings_trimRightByte (s : ByteArray) (c : Int) (r : ByteArray) (h : Sh.strings_trimRightByte s c = some r) : FnOK Tryd.prog 33 [.v (.string s), .v (.int .u8 c)] (.v (.string r)) := by
  unfold Sh.strings_trimRightByte at h
  refine fn_ok Tryd.func33 rfl (Nat.le_of_ble_eq_true rfl) rfl rfl fun g0 hn hio => ?_
  refine ht_seq ?_
  refine ht_seqR hn (El := [_, _, (4, .v (.string (⟨#[]⟩ : ByteArray)))]) (init := [0, 1]) (fin := [0, 1]) (sps := [⟨[], [], [2], [(.slot 4)]⟩]) (es' := [(_, _), (_, _)]) (by kernel_rfl) rfl rfl
   ⟨st_plain rfl (op_assign _ _ _ _ rfl rfl),
   trivial⟩ ?_
  refine pt_then ?_
  refine ht_seq ?_
  refine ht_loopS h (fun (s16 : ByteArray) => [(0, .v (.string s16)), (1, .v (.int .u8 c))]) (fun (s22 : ByteArray) => [(0, .v (.string s22))]) ?_ ?_
  ·rintro s22 h
   refine pt_then ?_
   refine ht_seq ?_
   refine ht_seqR hn (El := [_, (22, .v (.string s22)), (4, .v (.string s22))]) (init := [0]) (fin := [2]) (sps := [⟨[0], [], [1], [(.slot 22)]⟩, ⟨[1], [], [2], [(.slot 4)]⟩]) (es' := [(4, .v (.string s22))]) (by kernel_rfl) rfl rfl
    ⟨st_plain rfl (op_move _ _ _ _ rfl rfl),
    st_plain rfl (op_assign _ _ _ _ rfl rfl),
    trivial⟩ ?_
   refine pt_then ?_
   refine ht_ret ?_
   obtain rfl := Option.some.inj h
   exact pt_ret hio rfl (.tmp _ _ .nil) rfl rfl
  ·rintro u23 hl24 hr25 s16 rr28 h ho26
   refine ht_seq ?_
   refine ht_seq ?_
   refine ht_joinS h (fun (s29 : Bool) => [(0, .v (.string s16)), (1, .v (.int .u8 c)), (16, .v (.bool s29))]) ?_ ?_
   ·rintro s29 h
    refine pt_then ?_
    refine ht_cond _ rfl (fun hb33 => ?_) (fun hb33 => ?_)
    ·have h := cond_t hb33 h
     refine ht_skip ?_
     refine pt_then ?_
     refine ht_block ?_
     obtain ⟨v8, hv8, h⟩ := bind_some h
     obtain ⟨v9, hv9, h⟩ := bind_some h
     refine ht_seqR hn (El := [_, _, _, (17, .v (.string s16)), (18, .v (.string s16)), (19, .v (.int .i64 (s16.size : Int))), (20, .v (.int .i64 v8)), (21, .v (.string v9)), (0, .v (.string v9))]) (init := [0, 1, 2]) (fin := [1, 8]) (sps := [⟨[0], [], [3], [(.slot 17)]⟩, ⟨[0], [], [4], [(.slot 18)]⟩, ⟨[4], [], [5], [(.slot 19)]⟩, ⟨[5], [], [6], [(.slot 20)]⟩, ⟨[3, 6], [], [7], [(.slot 21)]⟩, ⟨[7], [0], [8], [(.slot 0)]⟩]) (es' := [(_, _), (0, .v (.string v9))]) (by kernel_rfl) rfl rfl
      ⟨st_plain rfl (op_move _ _ _ _ rfl rfl),
      st_plain rfl (op_move _ _ _ _ rfl rfl),
      st_plain rfl (op_len_str _ _ _ Tryd.underlying9 rfl),
      st_plain rfl (op_bin _ _ _ _ _ rfl rfl (ibind (f := Value.int .i64) (Option.some.inj hv8))),
      st_plain rfl (op_substr _ _ _ 0 v8 _ Tryd.underlying9 rfl rfl ⟨_, rfl⟩ hv9),
      st_plain rfl (LOp.drop [_] (op_assign _ _ _ _ rfl rfl)),
      trivial⟩ ?_
     refine pt_inb ?_
     refine pt_pick [1, 0] (by kernel_rfl) (es' := [(_, _), (_, _)]) rfl ?_
     exact pt_next _ (Option.some.inj h).symm rfl
    ·have h := cond_f hb33 h
     refine ht_exit ?_
     refine pt_x_then ?_
     refine pt_x_then ?_
     refine pt_x_in ?_
     refine pt_pick [0] (by kernel_rfl) (es' := [(_, _)]) rfl ?_
     exact hl24 _ (ho26 _ (Option.some.inj h).symm).symm
   ·intro u30 h hl31 hr32
    refine cond_some h (fun hg1_3 h => ?_) (fun hg1_3 h => ?_)
    ·obtain ⟨v1, hv1, h⟩ := bind_some h
     obtain ⟨v2, hv2, h⟩ := bind_some h
     refine ht_seqR hn (El := [_, _, (5, .v (.string s16)), (6, .v (.int .i64 (s16.size : Int))), (7, .v (.bool ((decide (0 < (s16.size : Int)))))), (8, .v (.bool true)), (9, .v (.string s16)), (10, .v (.string s16)), (11, .v (.int .i64 (s16.size : Int))), (12, .v (.int .i64 v1)), (13, .v (.int .u8 v2)), (14, .v (.int .u8 c)), (15, .v (.bool (v2 == c))), (16, .v (.bool (v2 == c)))]) (init := [0, 1]) (fin := [0, 1, 13]) (sps := [⟨[0], [], [2], [(.slot 5)]⟩, ⟨[2], [], [3], [(.slot 6)]⟩, ⟨[3], [], [4], [(.slot 7)]⟩, ⟨[4], [], [5], [(.slot 8)]⟩, ⟨[5, 0], [], [6], [(.slot 9)]⟩, ⟨[5, 0], [], [7], [(.slot 10)]⟩, ⟨[5, 7], [], [8], [(.slot 11)]⟩, ⟨[5, 8], [], [9], [(.slot 12)]⟩, ⟨[5, 6, 9], [], [10], [(.slot 13)]⟩, ⟨[5, 1], [], [11], [(.slot 14)]⟩, ⟨[5, 10, 11], [], [12], [(.slot 15)]⟩, ⟨[5, 12], [], [13], [(.slot 16)]⟩]) (es' := [(_, _), (_, _), (16, .v (.bool (v2 == c)))]) (by kernel_rfl) rfl rfl
      ⟨st_plain rfl (op_move _ _ _ _ rfl rfl),
      st_plain rfl (op_len_str _ _ _ Tryd.underlying9 rfl),
      st_plain rfl (op_bin _ _ _ _ _ rfl rfl rfl),
      st_plain rfl (op_move _ _ _ _ (congrArg (fun b => AV.v (Value.bool b)) hg1_3) rfl),
      st_run 3 8 true rfl rfl rfl (List.Mem.head _) (op_move _ _ _ _ rfl rfl),
      st_run 3 8 true rfl rfl rfl (List.Mem.head _) (op_move _ _ _ _ rfl rfl),
      st_run 3 8 true rfl rfl rfl (List.Mem.head _) (op_len_str _ _ _ Tryd.underlying9 rfl),
      st_run 3 8 true rfl rfl rfl (List.Mem.head _) (op_bin _ _ _ _ _ rfl rfl (ibind (f := Value.int .i64) (Option.some.inj hv1))),
      st_run 3 8 true rfl rfl rfl (List.Mem.head _) (op_chr _ _ _ v1 _ Tryd.underlying9 rfl rfl hv2),
      st_run 3 8 true rfl rfl rfl (List.Mem.head _) (op_move _ _ _ _ rfl rfl),
      st_run 3 8 true rfl rfl rfl (List.Mem.head _) (op_bin _ _ _ _ _ rfl rfl rfl),
      st_plain rfl (op_pick _ _ true _ rfl rfl),
      trivial⟩ ?_
     exact hl31 _ (Option.some.inj h).symm
    ·refine ht_seqR hn (El := [_, _, (5, .v (.string s16)), (6, .v (.int .i64 (s16.size : Int))), (7, .v (.bool ((decide (0 < (s16.size : Int)))))), (8, .v (.bool false)), (9, .v undef), (10, .v undef), (11, .v undef), (12, .v undef), (13, .v undef), (14, .v undef), (15, .v undef), (16, .v (.bool false))]) (init := [0, 1]) (fin := [0, 1, 13]) (sps := [⟨[0], [], [2], [(.slot 5)]⟩, ⟨[2], [], [3], [(.slot 6)]⟩, ⟨[3], [], [4], [(.slot 7)]⟩, ⟨[4], [], [5], [(.slot 8)]⟩, ⟨[5], [], [6], [(.slot 9)]⟩, ⟨[5], [], [7], [(.slot 10)]⟩, ⟨[5], [], [8], [(.slot 11)]⟩, ⟨[5], [], [9], [(.slot 12)]⟩, ⟨[5], [], [10], [(.slot 13)]⟩, ⟨[5], [], [11], [(.slot 14)]⟩, ⟨[5], [], [12], [(.slot 15)]⟩, ⟨[5], [], [13], [(.slot 16)]⟩]) (es' := [(_, _), (_, _), (16, .v (.bool false))]) (by kernel_rfl) rfl rfl
      ⟨st_plain rfl (op_move _ _ _ _ rfl rfl),
      st_plain rfl (op_len_str _ _ _ Tryd.underlying9 rfl),
      st_plain rfl (op_bin _ _ _ _ _ rfl rfl rfl),
      st_plain rfl (op_move _ _ _ _ (congrArg (fun b => AV.v (Value.bool b)) hg1_3) rfl),
      st_skip 3 8 _ true rfl rfl rfl rfl (List.Mem.head _),
      st_skip 3 8 _ true rfl rfl rfl rfl (List.Mem.head _),
      st_skip 3 8 _ true rfl rfl rfl rfl (List.Mem.head _),
      st_skip 3 8 _ true rfl rfl rfl rfl (List.Mem.head _),
      st_skip 3 8 _ true rfl rfl rfl rfl (List.Mem.head _),
      st_skip 3 8 _ true rfl rfl rfl rfl (List.Mem.head _),
      st_skip 3 8 _ true rfl rfl rfl rfl (List.Mem.head _),
      st_plain rfl (op_pick _ _ false _ rfl rfl),
      trivial⟩ ?_
     exact hl31 _ (Option.some.inj h).symm

set_option maxHeartbeats 1000000 in
theorem ok_strings_makeASCIISet (chars : ByteArray) (r : ((List Bool) × Bool)) (h : Sh.strings_makeASCIISet chars = some r) : FnOK Tryd.prog 34 [.v (.string chars)] (.tup [.v (.agg (List.map Value.bool r.1).toArray), .v (.bool r.2)]) := by
  unfold Sh.strings_makeASCIISet at h
  refine fn_ok Tryd.func34 rfl (Nat.le_of_ble_eq_true rfl) rfl rfl fun g0 hn hio => ?_
  refine ht_seq ?_
  refine ht_seqR hn (El := [_, (2, .arr 62 (List.map Value.bool (List.replicate 256 false))), (3, .v (.bool false))]) (init := [0]) (fin := [0, 1]) (sps := [⟨[], [], [1], [(.slot 2)]⟩, ⟨[], [], [2], [(.slot 3)]⟩]) (es' := [(_, _), (2, .arr 62 (List.map Value.bool (List.replicate 256 false)))]) (by kernel_rfl) rfl rfl
   ⟨st_plain rfl (op_alloc_arr _ za62),
   st_plain rfl (op_assign _ _ _ _ rfl rfl),
   trivial⟩ ?_
  refine pt_then ?_
  refine ht_seq ?_
  refine ht_seq ?_
  refine ht_seqR hn (El := [_, _, (4, .v (.int .i64 0))]) (init := [0, 1]) (fin := [0, 1, 2]) (sps := [⟨[], [], [2], [(.slot 4)]⟩]) (es' := [(_, _), (_, _), (4, .v (.int .i64 0))]) (by kernel_rfl) rfl rfl
   ⟨st_plain rfl (op_assign _ _ _ _ rfl rfl),
   trivial⟩ ?_
  refine pt_then ?_
  refine ht_loopS h (fun ((s16, s17) : (List Bool) × Int) => [(0, .v (.string chars)), (2, .arr 62 (List.map Value.bool s16)), (4, .v (.int .i64 s17))]) (fun (s21 : (List Bool)) => [(2, .arr 62 (List.map Value.bool s21))]) ?_ ?_
  ·rintro s21 h
   refine pt_then ?_
   refine ht_seq ?_
   obtain ⟨v31, hv31, h⟩ := bind_some h
   obtain ⟨v32, hv32, h⟩ := bind_some h
   obtain ⟨v33, hv33, h⟩ := bind_some h
   refine ht_seqR hn (El := [_, (20, .v (.agg (List.map Value.bool s21).toArray)), (2, .arr 62 (List.map Value.bool s21)), (3, .v (.bool true))]) (init := [0]) (fin := [2, 3]) (sps := [⟨[0], [], [1], [(.slot 20)]⟩, ⟨[1], [0], [2], []⟩, ⟨[], [], [3], [(.slot 3)]⟩]) (es' := [(2, .arr 62 (List.map Value.bool s21)), (3, .v (.bool true))]) (by kernel_rfl) rfl rfl
    ⟨st_plain rfl (op_loadA_arr _ _ _ _ Tryd.underlying62 rfl (sz62.trans (congrArg some (ln_len hv31))) rfl rfl),
    st_plain rfl (op_storeA_arr _ _ _ _ (sz62.trans (congrArg some (ln_len hv33))) rfl rfl (ln_ones (fun _ => rfl) _) ((ln_len (f := Value.bool) hv32).symm.trans (ln_len (f := Value.bool) hv33))),
    st_plain rfl (op_assign _ _ _ _ rfl rfl),
    trivial⟩ ?_
   refine pt_then ?_
   refine ht_ret ?_
   obtain ⟨v34, hv34, h⟩ := bind_some h
   obtain rfl := Option.some.inj h
   exact pt_ret hio rfl (.cellR _ _ _ _ Tryd.underlying62 rfl (sz62.trans (congrArg some (ln_len hv34))) (.tmp _ _ .nil)) rfl rfl
  ·rintro u22 hl23 hr24 ⟨s16, s17⟩ rr27 h ho25
   refine ht_seq ?_
   refine ht_seq ?_
   refine ht_seqR hn (El := [_, _, _, (6, .v (.int .i64 s17)), (7, .v (.string chars)), (8, .v (.int .i64 (chars.size : Int))), (9, .v (.bool ((decide (s17 < (chars.size : Int))))))]) (init := [0, 1, 2]) (fin := [0, 1, 2, 6]) (sps := [⟨[2], [], [3], [(.slot 6)]⟩, ⟨[0], [], [4], [(.slot 7)]⟩, ⟨[4], [], [5], [(.slot 8)]⟩, ⟨[3, 5], [], [6], [(.slot 9)]⟩]) (es' := [(_, _), (_, _), (_, _), (9, .v (.bool ((decide (s17 < (chars.size : Int))))))]) (by kernel_rfl) rfl rfl
    ⟨st_plain rfl (op_move _ _ _ _ rfl rfl),
    st_plain rfl (op_move _ _ _ _ rfl rfl),
    st_plain rfl (op_len_str _ _ _ Tryd.underlying9 rfl),
    st_plain rfl (op_bin _ _ _ _ _ rfl rfl rfl),
    trivial⟩ ?_
   refine pt_then ?_
   refine ht_cond _ rfl (fun hb28 => ?_) (fun hb28 => ?_)
   ·have h := cond_t hb28 h
    refine ht_skip ?_
    refine pt_then ?_
    refine ht_seq ?_
    refine ht_block ?_
    refine ht_seq ?_
    obtain ⟨v2, hv2, h⟩ := bind_some h
    refine ht_seqR hn (El := [_, _, _, _, (12, .v (.string chars)), (13, .v (.int .i64 s17)), (14, .v (.int .u8 v2)), (5, .v (.int .u8 v2))]) (init := [0, 1, 2, 3]) (fin := [0, 1, 2, 7]) (sps := [⟨[0], [], [4], [(.slot 12)]⟩, ⟨[2], [], [5], [(.slot 13)]⟩, ⟨[4, 5], [], [6], [(.slot 14)]⟩, ⟨[6], [], [7], [(.slot 5)]⟩]) (es' := [(_, _), (_, _), (_, _), (5, .v (.int .u8 v2))]) (by kernel_rfl) rfl rfl
     ⟨st_plain rfl (op_move _ _ _ _ rfl rfl),
     st_plain rfl (op_move _ _ _ _ rfl rfl),
     st_plain rfl (op_chr _ _ _ s17 _ Tryd.underlying9 rfl rfl hv2),
     st_plain rfl (op_assign _ _ _ _ rfl rfl),
     trivial⟩ ?_
    refine pt_then ?_
    refine ht_seq ?_
    refine ht_seq ?_
    refine ht_seqR hn (El := [_, _, _, _, (15, .v (.int .u8 v2)), (16, .v (.bool ((decide (128 ≤ v2)))))]) (init := [0, 1, 2, 3]) (fin := [0, 1, 2, 3, 5]) (sps := [⟨[3], [], [4], [(.slot 15)]⟩, ⟨[4], [], [5], [(.slot 16)]⟩]) (es' := [(_, _), (_, _), (_, _), (_, _), (16, .v (.bool ((decide (128 ≤ v2)))))]) (by kernel_rfl) rfl rfl
     ⟨st_plain rfl (op_move _ _ _ _ rfl rfl),
     st_plain rfl (op_bin _ _ _ _ _ rfl rfl rfl),
     trivial⟩ ?_
    refine pt_then ?_
    refine ht_cond _ rfl (fun hb29 => ?_) (fun hb29 => ?_)
    ·have h := cond_t hb29 h
     refine ht_seq ?_
     obtain ⟨v4, hv4, h⟩ := bind_some h
     obtain ⟨v5, hv5, h⟩ := bind_some h
     obtain ⟨v6, hv6, h⟩ := bind_some h
     refine ht_seqR hn (El := [_, _, _, _, _, (17, .v (.agg (List.map Value.bool s16).toArray)), (2, .arr 62 (List.map Value.bool s16)), (3, .v (.bool false))]) (init := [0, 1, 2, 3, 4]) (fin := [6, 7]) (sps := [⟨[1], [], [5], [(.slot 17)]⟩, ⟨[5], [1], [6], []⟩, ⟨[], [], [7], [(.slot 3)]⟩]) (es' := [(2, .arr 62 (List.map Value.bool s16)), (3, .v (.bool false))]) (by kernel_rfl) rfl rfl
      ⟨st_plain rfl (op_loadA_arr _ _ _ _ Tryd.underlying62 rfl (sz62.trans (congrArg some (ln_len hv4))) rfl rfl),
      st_plain rfl (op_storeA_arr _ _ _ _ (sz62.trans (congrArg some (ln_len hv6))) rfl rfl (ln_ones (fun _ => rfl) _) ((ln_len (f := Value.bool) hv5).symm.trans (ln_len (f := Value.bool) hv6))),
      st_plain rfl (op_assign _ _ _ _ rfl rfl),
      trivial⟩ ?_
     refine pt_then ?_
     refine ht_ret ?_
     obtain ⟨v30, hv30, h⟩ := bind_some h
     refine pt_r_then ?_
     refine pt_r_in ?_
     refine pt_r_then ?_
     refine pt_r_then ?_
     refine pt_r_in ?_
     refine pt_r_then ?_
     have h := hr24 _ (ho25 _ (Option.some.inj h).symm).symm
     obtain rfl := Option.some.inj h
     exact pt_ret hio rfl (.cellR _ _ _ _ Tryd.underlying62 rfl (sz62.trans (congrArg some (ln_len hv30))) (.tmp _ _ .nil)) rfl rfl
    ·have h := cond_f hb29 h
     refine ht_skip ?_
     refine pt_then ?_
     obtain ⟨v8, hv8, h⟩ := bind_some h
     obtain ⟨v9, hv9, h⟩ := bind_some h
     refine ht_seqR hn (El := [_, _, _, _, _, (18, .v (.int .u8 v2)), (19, .ptr 2 v8), (2, .arr 62 (List.map Value.bool v9))]) (init := [0, 1, 2, 3, 4]) (fin := [0, 7, 2]) (sps := [⟨[3], [], [5], [(.slot 18)]⟩, ⟨[1, 5], [], [6], [(.slot 19)]⟩, ⟨[6], [1], [7], []⟩]) (es' := [(_, _), (2, .arr 62 (List.map Value.bool v9)), (_, _)]) (by kernel_rfl) rfl rfl
      ⟨st_plain rfl (op_move _ _ _ _ rfl rfl),
      st_plain rfl (op_ix_arr _ _ _ _ 256 2 _ Tryd.underlying62 sz4 rfl rfl (ix_ok hv8).1 (ix_ok hv8).2 (by decide)),
      st_plain rfl (op_store_arr _ _ _ _ _ _ sz4 rfl rfl rfl rfl (set_lt hv9) (set_eq (f := Value.bool) hv9)),
      trivial⟩ ?_
     refine pt_inb ?_
     refine pt_then ?_
     obtain ⟨v10, hv10, h⟩ := bind_some h
     refine ht_seqR hn (El := [_, _, _, (10, .v (.int .i64 s17)), (11, .v (.int .i64 v10)), (4, .v (.int .i64 v10))]) (init := [0, 1, 2]) (fin := [0, 1, 5]) (sps := [⟨[2], [], [3], [(.slot 10)]⟩, ⟨[3], [], [4], [(.slot 11)]⟩, ⟨[4], [2], [5], [(.slot 4)]⟩]) (es' := [(_, _), (_, _), (4, .v (.int .i64 v10))]) (by kernel_rfl) rfl rfl
      ⟨st_plain rfl (op_move _ _ _ _ rfl rfl),
      st_plain rfl (op_bin _ _ _ _ _ rfl rfl (ibind (f := Value.int .i64) (Option.some.inj hv10))),
      st_plain rfl (LOp.drop [_] (op_assign _ _ _ _ rfl rfl)),
      trivial⟩ ?_
     exact pt_next _ (Option.some.inj h).symm rfl
   ·have h := cond_f hb28 h
    refine ht_exit ?_
    refine pt_x_then ?_
    refine pt_x_then ?_
    refine pt_x_in ?_
    refine pt_pick [1] (by kernel_rfl) (es' := [(_, _)]) rfl ?_
    exact hl23 _ (ho25 _ (Option.some.inj h).symm).symm

set_option maxHeartbeats 1000000 in
theorem ok_unicode_utf8_RuneStart (b : Int) (r : Bool) (h : Sh.unicode_utf8_RuneStart b = some r) : FnOK Tryd.prog 59 [.v (.int .u8 b)] (.v (.bool r)) := by
  unfold Sh.unicode_utf8_RuneStart at h
  refine fn_ok Tryd.func59 rfl (Nat.le_of_ble_eq_true rfl) rfl rfl fun g0 hn hio => ?_
  refine ht_seq ?_
  refine ht_seqR hn (El := [_, (2, .v (.bool false))]) (init := [0]) (fin := [0]) (sps := [⟨[], [], [1], [(.slot 2)]⟩]) (es' := [(_, _)]) (by kernel_rfl) rfl rfl
   ⟨st_plain rfl (op_assign _ _ _ _ rfl rfl),
   trivial⟩ ?_
  refine pt_then ?_
  refine ht_seq ?_
  obtain ⟨v1, hv1, h⟩ := bind_some h
  refine ht_seqR hn (El := [_, (3, .v (.int .u8 b)), (4, .v (.int .u8 v1)), (5, .v (.bool (v1 != 128))), (2, .v (.bool (v1 != 128)))]) (init := [0]) (fin := [4]) (sps := [⟨[0], [], [1], [(.slot 3)]⟩, ⟨[1], [], [2], [(.slot 4)]⟩, ⟨[2], [], [3], [(.slot 5)]⟩, ⟨[3], [], [4], [(.slot 2)]⟩]) (es' := [(2, .v (.bool (v1 != 128)))]) (by kernel_rfl) rfl rfl
   ⟨st_plain rfl (op_move _ _ _ _ rfl rfl),
   st_plain rfl (op_bin _ _ _ _ _ rfl rfl (ibind (f := Value.int .u8) (Option.some.inj hv1))),
   st_plain rfl (op_bin _ _ _ _ _ rfl rfl rfl),
   st_plain rfl (op_assign _ _ _ _ rfl rfl),
   trivial⟩ ?_
  refine pt_then ?_
  refine ht_ret ?_
  obtain rfl := Option.some.inj h
  exact pt_ret hio rfl (.tmp _ _ .nil) rfl rfl

set_option maxHeartbeats 1000000 in
theorem ok_unicode_utf8_decodeRuneInStringSlow (mx : Int) (s : ByteArray) (r : (Int × Int)) (h : Sh.unicode_utf8_decodeRuneInStringSlow s = some r) : FnG Tryd.prog (GL mx) 63 [.v (.string s)] (.tup [.v (.int .i32 r.1), .v (.int .i64 r.2)]) := by
  unfold Sh.unicode_utf8_decodeRuneInStringSlow at h
  refine fn_okG Tryd.func63 rfl (Nat.le_of_ble_eq_true rfl) rfl rfl fun g0 hn hio => ?_
  refine ht_seq ?_
  refine ht_seqR hn (El := [_, _, (2, .v (.int .i32 0)), (3, .v (.int .i64 0))]) (init := [0, 1]) (fin := [0, 1]) (sps := [⟨[], [], [2], [(.slot 2)]⟩, ⟨[], [], [3], [(.slot 3)]⟩]) (es' := [(_, _), (_, _)]) (by kernel_rfl) rfl rfl
   ⟨st_plain rfl (op_assign _ _ _ _ rfl rfl),
   st_plain rfl (op_assign _ _ _ _ rfl rfl),
   trivial⟩ ?_
  refine pt_then ?_
  refine ht_seq ?_
  refine ht_seqR hn (El := [_, _, (13, .v (.string s)), (14, .v (.int .i64 (s.size : Int))), (4, .v (.int .i64 (s.size : Int)))]) (init := [0, 1]) (fin := [0, 1, 4]) (sps := [⟨[0], [], [2], [(.slot 13)]⟩, ⟨[2], [], [3], [(.slot 14)]⟩, ⟨[3], [], [4], [(.slot 4)]⟩]) (es' := [(_, _), (_, _), (4, .v (.int .i64 (s.size : Int)))]) (by kernel_rfl) rfl rfl
   ⟨st_plain rfl (op_move _ _ _ _ rfl rfl),
   st_plain rfl (op_len_str _ _ _ Tryd.underlying9 rfl),
   st_plain rfl (op_assign _ _ _ _ rfl rfl),
   trivial⟩ ?_
  refine pt_then ?_
  refine ht_seq ?_
  refine ht_seq ?_
  refine ht_seqR hn (El := [_, _, _, (15, .v (.int .i64 (s.size : Int))), (16, .v (.bool ((decide ((s.size : Int) < 1)))))]) (init := [0, 1, 2]) (fin := [0, 1, 2, 4]) (sps := [⟨[2], [], [3], [(.slot 15)]⟩, ⟨[3], [], [4], [(.slot 16)]⟩]) (es' := [(_, _), (_, _), (_, _), (16, .v (.bool ((decide ((s.size : Int) < 1)))))]) (by kernel_rfl) rfl rfl
   ⟨st_plain rfl (op_move _ _ _ _ rfl rfl),
   st_plain rfl (op_bin _ _ _ _ _ rfl rfl rfl),
   trivial⟩ ?_
  refine pt_then ?_
  refine ht_cond _ rfl (fun hb1 => ?_) (fun hb1 => ?_)
  ·have h := cond_t hb1 h
   refine ht_seq ?_
   refine ht_seqR hn (El := [_, _, _, _, (2, .v (.int .i32 65533)), (3, .v (.int .i64 0))]) (init := [0, 1, 2, 3]) (fin := [1, 4, 5]) (sps := [⟨[], [], [4], [(.slot 2)]⟩, ⟨[], [], [5], [(.slot 3)]⟩]) (es' := [(_, _), (2, .v (.int .i32 65533)), (3, .v (.int .i64 0))]) (by kernel_rfl) rfl rfl
    ⟨st_plain rfl (op_assign _ _ _ _ rfl rfl),
    st_plain rfl (op_assign _ _ _ _ rfl rfl),
    trivial⟩ ?_
   refine pt_then ?_
   refine ht_ret ?_
   refine pt_pick [1, 2] (by kernel_rfl) (es' := [(_, _), (_, _)]) rfl ?_
   refine pt_r_then ?_
   obtain rfl := Option.some.inj h
   exact pt_ret hio rfl (.tmp _ _ (.tmp _ _ .nil)) rfl rfl
  ·have h := cond_f hb1 h
   cases h

set_option maxHeartbeats 1000000 in
theorem ok_unicode_utf8_DecodeRuneInString (mx : Int) (s : ByteArray) (r : (Int × Int)) (h : Sh.unicode_utf8_DecodeRuneInString s = some r) : FnG Tryd.prog (GL mx) 60 [.v (.string s)] (.tup [.v (.int .i32 r.1), .v (.int .i64 r.2)]) := by
  unfold Sh.unicode_utf8_DecodeRuneInString at h
  refine fn_okG Tryd.func60 rfl (Nat.le_of_ble_eq_true rfl) rfl rfl fun g0 hn hio => ?_
  refine ht_seq ?_
  refine ht_seqR hn (El := [_, _, (2, .v (.int .i32 0)), (3, .v (.int .i64 0))]) (init := [0, 1]) (fin := [0, 1]) (sps := [⟨[], [], [2], [(.slot 2)]⟩, ⟨[], [], [3], [(.slot 3)]⟩]) (es' := [(_, _), (_, _)]) (by kernel_rfl) rfl rfl
   ⟨st_plain rfl (op_assign _ _ _ _ rfl rfl),
   st_plain rfl (op_assign _ _ _ _ rfl rfl),
   trivial⟩ ?_
  refine pt_then ?_
  refine ht_seq ?_
  refine ht_seq ?_
  refine ht_joinS h (fun (s2 : Bool) => [(0, .v (.string s)), (19, .glob (GL mx)), (10, .v (.bool s2))]) ?_ ?_
  ·rintro s2 h
   refine pt_then ?_
   refine ht_cond _ rfl (fun hb6 => ?_) (fun hb6 => ?_)
   ·have h := cond_t hb6 h
    refine ht_seq ?_
    obtain ⟨v7, hv7, h⟩ := bind_some h
    obtain ⟨v8, hv8, h⟩ := bind_some h
    refine ht_seqR hn (El := [_, _, _, (11, .v (.string s)), (12, .v (.int .u8 v7)), (13, .v (.int .i32 v8)), (2, .v (.int .i32 v8)), (3, .v (.int .i64 1))]) (init := [0, 1, 2]) (fin := [1, 6, 7]) (sps := [⟨[0], [], [3], [(.slot 11)]⟩, ⟨[3], [], [4], [(.slot 12)]⟩, ⟨[4], [], [5], [(.slot 13)]⟩, ⟨[5], [], [6], [(.slot 2)]⟩, ⟨[], [], [7], [(.slot 3)]⟩]) (es' := [(_, _), (2, .v (.int .i32 v8)), (3, .v (.int .i64 1))]) (by kernel_rfl) rfl rfl
     ⟨st_plain rfl (op_move _ _ _ _ rfl rfl),
     st_plain rfl (op_chr _ _ _ 0 _ Tryd.underlying9 rfl rfl hv7),
     st_plain rfl ((Option.some.inj hv8) ▸ op_conv _ _ _ Tryd.underlying5 Tryd.underlying21 rfl),
     st_plain rfl (op_assign _ _ _ _ rfl rfl),
     st_plain rfl (op_assign _ _ _ _ rfl rfl),
     trivial⟩ ?_
    refine pt_then ?_
    refine ht_ret ?_
    refine pt_pick [1, 2] (by kernel_rfl) (es' := [(_, _), (_, _)]) rfl ?_
    refine pt_r_then ?_
    obtain rfl := Option.some.inj h
    exact pt_ret hio rfl (.tmp _ _ (.tmp _ _ .nil)) rfl rfl
   ·have h := cond_f hb6 h
    obtain ⟨v9, hv9, h⟩ := bind_some h
    refine ht_seqR hn (El := [_, _, _, (15, .v (.string s)), (16, .tup [.v (.int .i32 v9.1), .v (.int .i64 v9.2)]), (14, .tup [.v (.int .i32 v9.1), .v (.int .i64 v9.2)]), (17, .v (.int .i32 v9.1)), (18, .v (.int .i64 v9.2)), (2, .v (.int .i32 v9.1)), (3, .v (.int .i64 v9.2))]) (init := [0, 1, 2]) (fin := [1, 8, 9]) (sps := [⟨[0], [], [3], [(.slot 15)]⟩, ⟨[3, 1], [], [4], [(.slot 16)]⟩, ⟨[], [4], [5], [(.slot 14)]⟩, ⟨[5], [], [6], [(.slot 17)]⟩, ⟨[5], [], [7], [(.slot 18)]⟩, ⟨[6], [], [8], [(.slot 2)]⟩, ⟨[7], [], [9], [(.slot 3)]⟩]) (es' := [(_, _), (2, .v (.int .i32 v9.1)), (3, .v (.int .i64 v9.2))]) (by kernel_rfl) rfl rfl
     ⟨st_plain rfl (op_move _ _ _ _ rfl rfl),
     st_plain rfl (op_callG _ _ 19 63 _ _ rfl Tryd.call63 rfl rfl (fun _ h => h) (ok_unicode_utf8_decodeRuneInStringSlow mx s _ hv9) rfl rfl),
     st_plain rfl (op_move_take _ _ _ _ rfl),
     st_plain rfl (op_extract _ _ _ _ _ rfl rfl (Nat.le_of_ble_eq_true rfl) rfl rfl),
     st_plain rfl (op_extract _ _ _ _ _ rfl rfl (Nat.le_of_ble_eq_true rfl) rfl rfl),
     st_plain rfl (op_assign _ _ _ _ rfl rfl),
     st_plain rfl (op_assign _ _ _ _ rfl rfl),
     trivial⟩ ?_
    refine pt_then ?_
    refine ht_ret ?_
    refine pt_pick [1, 2] (by kernel_rfl) (es' := [(_, _), (_, _)]) rfl ?_
    obtain rfl := Option.some.inj h
    exact pt_ret hio rfl (.tmp _ _ (.tmp _ _ .nil)) rfl rfl
  ·intro u3 h hl4 hr5
   refine cond_some h (fun hg1_2 h => ?_) (fun hg1_2 h => ?_)
   ·obtain ⟨v1, hv1, h⟩ := bind_some h
    refine ht_seqR hn (El := [_, _, (4, .v (.string s)), (5, .v (.bool ((!(s.toList == (⟨#[]⟩ : ByteArray).toList))))), (6, .v (.bool true)), (7, .v (.string s)), (8, .v (.int .u8 v1)), (9, .v (.bool ((decide (v1 < 128))))), (10, .v (.bool ((decide (v1 < 128)))))]) (init := [0, 1]) (fin := [0, 1, 8]) (sps := [⟨[0], [], [2], [(.slot 4)]⟩, ⟨[2], [], [3], [(.slot 5)]⟩, ⟨[3], [], [4], [(.slot 6)]⟩, ⟨[4, 0], [], [5], [(.slot 7)]⟩, ⟨[4, 5], [], [6], [(.slot 8)]⟩, ⟨[4, 6], [], [7], [(.slot 9)]⟩, ⟨[4, 7], [], [8], [(.slot 10)]⟩]) (es' := [(_, _), (_, _), (10, .v (.bool ((decide (v1 < 128)))))]) (by kernel_rfl) rfl rfl
     ⟨st_plain rfl (op_move _ _ _ _ rfl rfl),
     st_plain rfl (op_bin _ _ _ _ _ rfl rfl rfl),
     st_plain rfl (op_move _ _ _ _ (congrArg (fun b => AV.v (Value.bool b)) hg1_2) rfl),
     st_run 2 6 true rfl rfl rfl (List.Mem.head _) (op_move _ _ _ _ rfl rfl),
     st_run 2 6 true rfl rfl rfl (List.Mem.head _) (op_chr _ _ _ 0 _ Tryd.underlying9 rfl rfl hv1),
     st_run 2 6 true rfl rfl rfl (List.Mem.head _) (op_bin _ _ _ _ _ rfl rfl rfl),
     st_plain rfl (op_pick _ _ true _ rfl rfl),
     trivial⟩ ?_
    exact hl4 _ (Option.some.inj h).symm
   ·refine ht_seqR hn (El := [_, _, (4, .v (.string s)), (5, .v (.bool ((!(s.toList == (⟨#[]⟩ : ByteArray).toList))))), (6, .v (.bool false)), (7, .v undef), (8, .v undef), (9, .v undef), (10, .v (.bool false))]) (init := [0, 1]) (fin := [0, 1, 8]) (sps := [⟨[0], [], [2], [(.slot 4)]⟩, ⟨[2], [], [3], [(.slot 5)]⟩, ⟨[3], [], [4], [(.slot 6)]⟩, ⟨[4], [], [5], [(.slot 7)]⟩, ⟨[4], [], [6], [(.slot 8)]⟩, ⟨[4], [], [7], [(.slot 9)]⟩, ⟨[4], [], [8], [(.slot 10)]⟩]) (es' := [(_, _), (_, _), (10, .v (.bool false))]) (by kernel_rfl) rfl rfl
     ⟨st_plain rfl (op_move _ _ _ _ rfl rfl),
     st_plain rfl (op_bin _ _ _ _ _ rfl rfl rfl),
     st_plain rfl (op_move _ _ _ _ (congrArg (fun b => AV.v (Value.bool b)) hg1_2) rfl),
     st_skip 2 6 _ true rfl rfl rfl rfl (List.Mem.head _),
     st_skip 2 6 _ true rfl rfl rfl rfl (List.Mem.head _),
     st_skip 2 6 _ true rfl rfl rfl rfl (List.Mem.head _),
     st_plain rfl (op_pick _ _ false _ rfl rfl),
     trivial⟩ ?_
    exact hl4 _ (Option.some.inj h).symm

set_option maxHeartbeats 1000000 in
theorem ok_unicode_utf8_DecodeLastRuneInString (mx : Int) (s : ByteArray) (r : (Int × Int)) (h : Sh.unicode_utf8_DecodeLastRuneInString s = some r) : FnG Tryd.prog (GL mx) 47 [.v (.string s)] (.tup [.v (.int .i32 r.1), .v (.int .i64 r.2)]) := by
  unfold Sh.unicode_utf8_DecodeLastRuneInString at h
  refine fn_okG Tryd.func47 rfl (Nat.le_of_ble_eq_true rfl) rfl rfl fun g0 hn hio => ?_
  refine ht_seq ?_
  refine ht_seqR hn (El := [_, _, (2, .v (.int .i32 0)), (3, .v (.int .i64 0))]) (init := [0, 1]) (fin := [0, 1]) (sps := [⟨[], [], [2], [(.slot 2)]⟩, ⟨[], [], [3], [(.slot 3)]⟩]) (es' := [(_, _), (_, _)]) (by kernel_rfl) rfl rfl
   ⟨st_plain rfl (op_assign _ _ _ _ rfl rfl),
   st_plain rfl (op_assign _ _ _ _ rfl rfl),
   trivial⟩ ?_
  refine pt_then ?_
  refine ht_seq ?_
  refine ht_seqR hn (El := [_, _, (7, .v (.string s)), (8, .v (.int .i64 (s.size : Int))), (4, .v (.int .i64 (s.size : Int)))]) (init := [0, 1]) (fin := [0, 1, 4]) (sps := [⟨[0], [], [2], [(.slot 7)]⟩, ⟨[2], [], [3], [(.slot 8)]⟩, ⟨[3], [], [4], [(.slot 4)]⟩]) (es' := [(_, _), (_, _), (4, .v (.int .i64 (s.size : Int)))]) (by kernel_rfl) rfl rfl
   ⟨st_plain rfl (op_move _ _ _ _ rfl rfl),
   st_plain rfl (op_len_str _ _ _ Tryd.underlying9 rfl),
   st_plain rfl (op_assign _ _ _ _ rfl rfl),
   trivial⟩ ?_
  refine pt_then ?_
  refine ht_seq ?_
  refine ht_seq ?_
  refine ht_seqR hn (El := [_, _, _, (9, .v (.int .i64 (s.size : Int))), (10, .v (.bool (((s.size : Int) == 0))))]) (init := [0, 1, 2]) (fin := [0, 1, 2, 4]) (sps := [⟨[2], [], [3], [(.slot 9)]⟩, ⟨[3], [], [4], [(.slot 10)]⟩]) (es' := [(_, _), (_, _), (_, _), (10, .v (.bool (((s.size : Int) == 0))))]) (by kernel_rfl) rfl rfl
   ⟨st_plain rfl (op_move _ _ _ _ rfl rfl),
   st_plain rfl (op_bin _ _ _ _ _ rfl rfl rfl),
   trivial⟩ ?_
  refine pt_then ?_
  refine ht_cond _ rfl (fun hb1 => ?_) (fun hb1 => ?_)
  ·have h := cond_t hb1 h
   refine ht_seq ?_
   refine ht_seqR hn (El := [_, _, _, _, (2, .v (.int .i32 65533)), (3, .v (.int .i64 0))]) (init := [0, 1, 2, 3]) (fin := [1, 4, 5]) (sps := [⟨[], [], [4], [(.slot 2)]⟩, ⟨[], [], [5], [(.slot 3)]⟩]) (es' := [(_, _), (2, .v (.int .i32 65533)), (3, .v (.int .i64 0))]) (by kernel_rfl) rfl rfl
    ⟨st_plain rfl (op_assign _ _ _ _ rfl rfl),
    st_plain rfl (op_assign _ _ _ _ rfl rfl),
    trivial⟩ ?_
   refine pt_then ?_
   refine ht_ret ?_
   refine pt_pick [1, 2] (by kernel_rfl) (es' := [(_, _), (_, _)]) rfl ?_
   refine pt_r_then ?_
   obtain rfl := Option.some.inj h
   exact pt_ret hio rfl (.tmp _ _ (.tmp _ _ .nil)) rfl rfl
  ·have h := cond_f hb1 h
   refine ht_skip ?_
   refine pt_then ?_
   refine ht_seq ?_
   obtain ⟨v2, hv2, h⟩ := bind_some h
   refine ht_seqR hn (El := [_, _, _, _, (11, .v (.int .i64 (s.size : Int))), (12, .v (.int .i64 v2)), (5, .v (.int .i64 v2))]) (init := [0, 1, 2, 3]) (fin := [0, 1, 2, 6]) (sps := [⟨[2], [], [4], [(.slot 11)]⟩, ⟨[4], [], [5], [(.slot 12)]⟩, ⟨[5], [], [6], [(.slot 5)]⟩]) (es' := [(_, _), (_, _), (_, _), (5, .v (.int .i64 v2))]) (by kernel_rfl) rfl rfl
    ⟨st_plain rfl (op_move _ _ _ _ rfl rfl),
    st_plain rfl (op_bin _ _ _ _ _ rfl rfl (ibind (f := Value.int .i64) (Option.some.inj hv2))),
    st_plain rfl (op_assign _ _ _ _ rfl rfl),
    trivial⟩ ?_
   refine pt_then ?_
   refine ht_seq ?_
   obtain ⟨v3, hv3, h⟩ := bind_some h
   obtain ⟨v4, hv4, h⟩ := bind_some h
   refine ht_seqR hn (El := [_, _, _, _, (13, .v (.string s)), (14, .v (.int .i64 v2)), (15, .v (.int .u8 v3)), (16, .v (.int .i32 v4)), (2, .v (.int .i32 v4))]) (init := [0, 1, 2, 3]) (fin := [0, 1, 2, 3, 8]) (sps := [⟨[0], [], [4], [(.slot 13)]⟩, ⟨[3], [], [5], [(.slot 14)]⟩, ⟨[4, 5], [], [6], [(.slot 15)]⟩, ⟨[6], [], [7], [(.slot 16)]⟩, ⟨[7], [], [8], [(.slot 2)]⟩]) (es' := [(_, _), (_, _), (_, _), (_, _), (2, .v (.int .i32 v4))]) (by kernel_rfl) rfl rfl
    ⟨st_plain rfl (op_move _ _ _ _ rfl rfl),
    st_plain rfl (op_move _ _ _ _ rfl rfl),
    st_plain rfl (op_chr _ _ _ v2 _ Tryd.underlying9 rfl rfl hv3),
    st_plain rfl ((Option.some.inj hv4) ▸ op_conv _ _ _ Tryd.underlying5 Tryd.underlying21 rfl),
    st_plain rfl (op_assign _ _ _ _ rfl rfl),
    trivial⟩ ?_
   refine pt_then ?_
   refine ht_seq ?_
   refine ht_seq ?_
   refine ht_seqR hn (El := [_, _, _, _, _, (17, .v (.int .i32 v4)), (18, .v (.bool ((decide (v4 < 128)))))]) (init := [0, 1, 2, 3, 4]) (fin := [0, 1, 2, 3, 4, 6]) (sps := [⟨[4], [], [5], [(.slot 17)]⟩, ⟨[5], [], [6], [(.slot 18)]⟩]) (es' := [(_, _), (_, _), (_, _), (_, _), (_, _), (18, .v (.bool ((decide (v4 < 128)))))]) (by kernel_rfl) rfl rfl
    ⟨st_plain rfl (op_move _ _ _ _ rfl rfl),
    st_plain rfl (op_bin _ _ _ _ _ rfl rfl rfl),
    trivial⟩ ?_
   refine pt_then ?_
   refine ht_cond _ rfl (fun hb5 => ?_) (fun hb5 => ?_)
   ·have h := cond_t hb5 h
    refine ht_seq ?_
    refine ht_seqR hn (El := [_, _, _, _, _, _, (19, .v (.int .i32 v4)), (2, .v (.int .i32 v4)), (3, .v (.int .i64 1))]) (init := [0, 1, 2, 3, 4, 5]) (fin := [1, 7, 8]) (sps := [⟨[4], [], [6], [(.slot 19)]⟩, ⟨[6], [4], [7], [(.slot 2)]⟩, ⟨[], [], [8], [(.slot 3)]⟩]) (es' := [(_, _), (2, .v (.int .i32 v4)), (3, .v (.int .i64 1))]) (by kernel_rfl) rfl rfl
     ⟨st_plain rfl (op_move _ _ _ _ rfl rfl),
     st_plain rfl (LOp.drop [_] (op_assign _ _ _ _ rfl rfl)),
     st_plain rfl (op_assign _ _ _ _ rfl rfl),
     trivial⟩ ?_
    refine pt_then ?_
    refine ht_ret ?_
    refine pt_pick [1, 2] (by kernel_rfl) (es' := [(_, _), (_, _)]) rfl ?_
    refine pt_r_then ?_
    obtain rfl := Option.some.inj h
    exact pt_ret hio rfl (.tmp _ _ (.tmp _ _ .nil)) rfl rfl
   ·have h := cond_f hb5 h
    refine ht_skip ?_
    refine pt_then ?_
    refine ht_seq ?_
    obtain ⟨v6, hv6, h⟩ := bind_some h
    obtain ⟨v7, hv7, h⟩ := bind_some h
    refine ht_seqR hn (El := [_, _, _, _, _, _, (20, .v (.int .i64 (s.size : Int))), (21, .v (.int .i64 v6)), (22, .v (.int .i64 v7)), (6, .v (.int .i64 v7))]) (init := [0, 1, 2, 3, 4, 5]) (fin := [0, 1, 2, 3, 9]) (sps := [⟨[2], [], [6], [(.slot 20)]⟩, ⟨[6], [], [7], [(.slot 21)]⟩, ⟨[7], [], [8], [(.slot 22)]⟩, ⟨[8], [], [9], [(.slot 6)]⟩]) (es' := [(_, _), (_, _), (_, _), (_, _), (6, .v (.int .i64 v7))]) (by kernel_rfl) rfl rfl
     ⟨st_plain rfl (op_move _ _ _ _ rfl rfl),
     st_plain rfl (op_bin _ _ _ _ _ rfl rfl (ibind (f := Value.int .i64) (Option.some.inj hv6))),
     st_plain rfl ((Option.some.inj hv7) ▸ op_max _ _ _ _ rfl rfl),
     st_plain rfl (op_assign _ _ _ _ rfl rfl),
     trivial⟩ ?_
    refine pt_then ?_
    refine ht_seq ?_
    refine ht_joinS h (fun (s29 : Int) => [(0, .v (.string s)), (51, .glob (GL mx)), (4, .v (.int .i64 (s.size : Int))), (5, .v (.int .i64 s29))]) ?_ ?_
    ·rintro s29 h
     refine pt_then ?_
     refine ht_seq ?_
     refine ht_joinS h (fun (s51 : Int) => [(0, .v (.string s)), (51, .glob (GL mx)), (4, .v (.int .i64 (s.size : Int))), (5, .v (.int .i64 s51))]) ?_ ?_
     ·rintro s51 h
      refine pt_then ?_
      refine ht_seq ?_
      obtain ⟨v56, hv56, h⟩ := bind_some h
      obtain ⟨v57, hv57, h⟩ := bind_some h
      refine ht_seqR hn (El := [_, _, _, _, (37, .v (.string s)), (38, .v (.int .i64 s51)), (39, .v (.int .i64 (s.size : Int))), (40, .v (.string v56)), (41, .tup [.v (.int .i32 v57.1), .v (.int .i64 v57.2)]), (36, .tup [.v (.int .i32 v57.1), .v (.int .i64 v57.2)]), (42, .v (.int .i32 v57.1)), (43, .v (.int .i64 v57.2)), (2, .v (.int .i32 v57.1)), (3, .v (.int .i64 v57.2))]) (init := [0, 1, 2, 3]) (fin := [1, 2, 3, 12, 13]) (sps := [⟨[0], [], [4], [(.slot 37)]⟩, ⟨[3], [], [5], [(.slot 38)]⟩, ⟨[2], [], [6], [(.slot 39)]⟩, ⟨[4, 5, 6], [], [7], [(.slot 40)]⟩, ⟨[7, 1], [], [8], [(.slot 41)]⟩, ⟨[], [8], [9], [(.slot 36)]⟩, ⟨[9], [], [10], [(.slot 42)]⟩, ⟨[9], [], [11], [(.slot 43)]⟩, ⟨[10], [], [12], [(.slot 2)]⟩, ⟨[11], [], [13], [(.slot 3)]⟩]) (es' := [(_, _), (_, _), (_, _), (2, .v (.int .i32 v57.1)), (3, .v (.int .i64 v57.2))]) (by kernel_rfl) rfl rfl
       ⟨st_plain rfl (op_move _ _ _ _ rfl rfl),
       st_plain rfl (op_move _ _ _ _ rfl rfl),
       st_plain rfl (op_move _ _ _ _ rfl rfl),
       st_plain rfl (op_substr _ _ _ s51 (s.size : Int) _ Tryd.underlying9 rfl ⟨_, rfl⟩ ⟨_, rfl⟩ hv56),
       st_plain rfl (op_callG _ _ 51 60 _ _ rfl Tryd.call60 rfl rfl (fun _ h => h) (ok_unicode_utf8_DecodeRuneInString mx v56 _ hv57) rfl rfl),
       st_plain rfl (op_move_take _ _ _ _ rfl),
       st_plain rfl (op_extract _ _ _ _ _ rfl rfl (Nat.le_of_ble_eq_true rfl) rfl rfl),
       st_plain rfl (op_extract _ _ _ _ _ rfl rfl (Nat.le_of_ble_eq_true rfl) rfl rfl),
       st_plain rfl (op_assign _ _ _ _ rfl rfl),
       st_plain rfl (op_assign _ _ _ _ rfl rfl),
       trivial⟩ ?_
      refine pt_then ?_
      refine ht_seq ?_
      refine ht_seq ?_
      obtain ⟨v58, hv58, h⟩ := bind_some h
      refine ht_seqR hn (El := [_, _, _, _, _, (44, .v (.int .i64 s51)), (45, .v (.int .i64 v57.2)), (46, .v (.int .i64 v58)), (47, .v (.int .i64 (s.size : Int))), (48, .v (.bool ((v58 != (s.size : Int)))))]) (init := [0, 1, 2, 3, 4]) (fin := [0, 3, 4, 9]) (sps := [⟨[2], [], [5], [(.slot 44)]⟩, ⟨[4], [], [6], [(.slot 45)]⟩, ⟨[5, 6], [], [7], [(.slot 46)]⟩, ⟨[1], [], [8], [(.slot 47)]⟩, ⟨[7, 8], [], [9], [(.slot 48)]⟩]) (es' := [(_, _), (_, _), (_, _), (48, .v (.bool ((v58 != (s.size : Int)))))]) (by kernel_rfl) rfl rfl
       ⟨st_plain rfl (op_move _ _ _ _ rfl rfl),
       st_plain rfl (op_move _ _ _ _ rfl rfl),
       st_plain rfl (op_bin _ _ _ _ _ rfl rfl (ibind (f := Value.int .i64) (Option.some.inj hv58))),
       st_plain rfl (op_move _ _ _ _ rfl rfl),
       st_plain rfl (op_bin _ _ _ _ _ rfl rfl rfl),
       trivial⟩ ?_
      refine pt_then ?_
      refine ht_cond _ rfl (fun hb59 => ?_) (fun hb59 => ?_)
      ·have h := cond_t hb59 h
       refine ht_seq ?_
       refine ht_seqR hn (El := [_, _, _, _, (2, .v (.int .i32 65533)), (3, .v (.int .i64 1))]) (init := [0, 1, 2, 3]) (fin := [0, 4, 5]) (sps := [⟨[], [1], [4], [(.slot 2)]⟩, ⟨[], [2], [5], [(.slot 3)]⟩]) (es' := [(_, _), (2, .v (.int .i32 65533)), (3, .v (.int .i64 1))]) (by kernel_rfl) rfl rfl
        ⟨st_plain rfl (LOp.drop [_] (op_assign _ _ _ _ rfl rfl)),
        st_plain rfl (LOp.drop [_] (op_assign _ _ _ _ rfl rfl)),
        trivial⟩ ?_
       refine pt_then ?_
       refine ht_ret ?_
       refine pt_pick [1, 2] (by kernel_rfl) (es' := [(_, _), (_, _)]) rfl ?_
       refine pt_r_then ?_
       obtain rfl := Option.some.inj h
       exact pt_ret hio rfl (.tmp _ _ (.tmp _ _ .nil)) rfl rfl
      ·have h := cond_f hb59 h
       refine ht_skip ?_
       refine pt_then ?_
       refine ht_seq ?_
       refine ht_seqR hn (El := [_, _, _, _, (49, .v (.int .i32 v57.1)), (50, .v (.int .i64 v57.2)), (2, .v (.int .i32 v57.1)), (3, .v (.int .i64 v57.2))]) (init := [0, 1, 2, 3]) (fin := [0, 6, 7]) (sps := [⟨[1], [], [4], [(.slot 49)]⟩, ⟨[2], [], [5], [(.slot 50)]⟩, ⟨[4], [1], [6], [(.slot 2)]⟩, ⟨[5], [2], [7], [(.slot 3)]⟩]) (es' := [(_, _), (2, .v (.int .i32 v57.1)), (3, .v (.int .i64 v57.2))]) (by kernel_rfl) rfl rfl
        ⟨st_plain rfl (op_move _ _ _ _ rfl rfl),
        st_plain rfl (op_move _ _ _ _ rfl rfl),
        st_plain rfl (LOp.drop [_] (op_assign _ _ _ _ rfl rfl)),
        st_plain rfl (LOp.drop [_] (op_assign _ _ _ _ rfl rfl)),
        trivial⟩ ?_
       refine pt_then ?_
       refine ht_ret ?_
       refine pt_pick [1, 2] (by kernel_rfl) (es' := [(_, _), (_, _)]) rfl ?_
       obtain rfl := Option.some.inj h
       exact pt_ret hio rfl (.tmp _ _ (.tmp _ _ .nil)) rfl rfl
     ·intro u52 h hl53 hr54
      refine ht_seq ?_
      refine ht_seqR hn (El := [_, _, _, _, (34, .v (.int .i64 s29)), (35, .v (.bool ((decide (s29 < 0)))))]) (init := [0, 1, 2, 3]) (fin := [0, 1, 2, 3, 5]) (sps := [⟨[3], [], [4], [(.slot 34)]⟩, ⟨[4], [], [5], [(.slot 35)]⟩]) (es' := [(_, _), (_, _), (_, _), (_, _), (35, .v (.bool ((decide (s29 < 0)))))]) (by kernel_rfl) rfl rfl
       ⟨st_plain rfl (op_move _ _ _ _ rfl rfl),
       st_plain rfl (op_bin _ _ _ _ _ rfl rfl rfl),
       trivial⟩ ?_
      refine pt_then ?_
      refine ht_cond _ rfl (fun hb55 => ?_) (fun hb55 => ?_)
      ·have h := cond_t hb55 h
       refine ht_seqR hn (El := [_, _, _, _, _, (5, .v (.int .i64 0))]) (init := [0, 1, 2, 3, 4]) (fin := [0, 1, 2, 5]) (sps := [⟨[], [3], [5], [(.slot 5)]⟩]) (es' := [(_, _), (_, _), (_, _), (5, .v (.int .i64 0))]) (by kernel_rfl) rfl rfl
        ⟨st_plain rfl (LOp.drop [_] (op_assign _ _ _ _ rfl rfl)),
        trivial⟩ ?_
       exact hl53 _ (Option.some.inj h).symm
      ·have h := cond_f hb55 h
       refine ht_skip ?_
       refine pt_pick [0, 1, 2, 3] (by kernel_rfl) (es' := [(_, _), (_, _), (_, _), (_, _)]) rfl ?_
       exact hl53 _ (Option.some.inj h).symm
    ·intro u30 h hl31 hr32
     refine ht_seq ?_
     obtain ⟨v8, hv8, h⟩ := bind_some h
     refine ht_seqR hn (El := [_, _, _, _, _, (23, .v (.int .i64 v2)), (24, .v (.int .i64 v8)), (5, .v (.int .i64 v8))]) (init := [0, 1, 2, 3, 4]) (fin := [0, 1, 2, 4, 7]) (sps := [⟨[3], [], [5], [(.slot 23)]⟩, ⟨[5], [], [6], [(.slot 24)]⟩, ⟨[6], [3], [7], [(.slot 5)]⟩]) (es' := [(_, _), (_, _), (_, _), (_, _), (5, .v (.int .i64 v8))]) (by kernel_rfl) rfl rfl
      ⟨st_plain rfl (op_move _ _ _ _ rfl rfl),
      st_plain rfl (op_bin _ _ _ _ _ rfl rfl (ibind (f := Value.int .i64) (Option.some.inj hv8))),
      st_plain rfl (LOp.drop [_] (op_assign _ _ _ _ rfl rfl)),
      trivial⟩ ?_
     refine pt_then ?_
     refine ht_loopS h (fun (s38 : Int) => [(0, .v (.string s)), (51, .glob (GL mx)), (4, .v (.int .i64 (s.size : Int))), (6, .v (.int .i64 v7)), (5, .v (.int .i64 s38))]) (fun (s41 : Int) => [(0, .v (.string s)), (51, .glob (GL mx)), (4, .v (.int .i64 (s.size : Int))), (5, .v (.int .i64 s41))]) ?_ ?_
     ·rintro s41 h
      exact hl31 _ (Option.some.inj h).symm
     ·rintro u42 hl43 hr44 s38 rr47 h ho45
      refine ht_seq ?_
      refine ht_seq ?_
      refine ht_seqR hn (El := [_, _, _, _, _, (25, .v (.int .i64 s38)), (26, .v (.int .i64 v7)), (27, .v (.bool ((decide (v7 ≤ s38)))))]) (init := [0, 1, 2, 3, 4]) (fin := [0, 1, 2, 3, 4, 7]) (sps := [⟨[4], [], [5], [(.slot 25)]⟩, ⟨[3], [], [6], [(.slot 26)]⟩, ⟨[5, 6], [], [7], [(.slot 27)]⟩]) (es' := [(_, _), (_, _), (_, _), (_, _), (_, _), (27, .v (.bool ((decide (v7 ≤ s38)))))]) (by kernel_rfl) rfl rfl
       ⟨st_plain rfl (op_move _ _ _ _ rfl rfl),
       st_plain rfl (op_move _ _ _ _ rfl rfl),
       st_plain rfl (op_bin _ _ _ _ _ rfl rfl rfl),
       trivial⟩ ?_
      refine pt_then ?_
      refine ht_cond _ rfl (fun hb48 => ?_) (fun hb48 => ?_)
      ·have h := cond_t hb48 h
       refine ht_skip ?_
       refine pt_then ?_
       refine ht_seq ?_
       refine ht_block ?_
       refine ht_seq ?_
       obtain ⟨v10, hv10, h⟩ := bind_some h
       obtain ⟨v11, hv11, h⟩ := bind_some h
       refine ht_seqR hn (El := [_, _, _, _, _, _, (30, .v (.string s)), (31, .v (.int .i64 s38)), (32, .v (.int .u8 v10)), (33, .v (.bool v11))]) (init := [0, 1, 2, 3, 4, 5]) (fin := [0, 1, 2, 3, 4, 9]) (sps := [⟨[0], [], [6], [(.slot 30)]⟩, ⟨[4], [], [7], [(.slot 31)]⟩, ⟨[6, 7], [], [8], [(.slot 32)]⟩, ⟨[8], [], [9], [(.slot 33)]⟩]) (es' := [(_, _), (_, _), (_, _), (_, _), (_, _), (33, .v (.bool v11))]) (by kernel_rfl) rfl rfl
        ⟨st_plain rfl (op_move _ _ _ _ rfl rfl),
        st_plain rfl (op_move _ _ _ _ rfl rfl),
        st_plain rfl (op_chr _ _ _ s38 _ Tryd.underlying9 rfl rfl hv10),
        st_plain rfl (op_call _ _ 59 _ _ rfl Tryd.call59 rfl (ok_unicode_utf8_RuneStart v10 _ hv11) rfl rfl),
        trivial⟩ ?_
       refine pt_then ?_
       refine ht_cond _ rfl (fun hb49 => ?_) (fun hb49 => ?_)
       ·have h := cond_t hb49 h
        refine ht_exit ?_
        refine pt_x_out (by decide) ?_
        refine pt_x_then ?_
        refine pt_x_then ?_
        refine pt_x_in ?_
        refine pt_pick [0, 1, 2, 4] (by kernel_rfl) (es' := [(_, _), (_, _), (_, _), (_, _)]) rfl ?_
        exact hl43 _ (ho45 _ (Option.some.inj h).symm).symm
       ·have h := cond_f hb49 h
        refine ht_skip ?_
        refine pt_inb ?_
        refine pt_then ?_
        obtain ⟨v13, hv13, h⟩ := bind_some h
        refine ht_seqR hn (El := [_, _, _, _, _, _, (28, .v (.int .i64 s38)), (29, .v (.int .i64 v13)), (5, .v (.int .i64 v13))]) (init := [0, 1, 2, 3, 4, 5]) (fin := [0, 1, 2, 3, 8]) (sps := [⟨[4], [], [6], [(.slot 28)]⟩, ⟨[6], [], [7], [(.slot 29)]⟩, ⟨[7], [4], [8], [(.slot 5)]⟩]) (es' := [(_, _), (_, _), (_, _), (_, _), (5, .v (.int .i64 v13))]) (by kernel_rfl) rfl rfl
         ⟨st_plain rfl (op_move _ _ _ _ rfl rfl),
         st_plain rfl (op_bin _ _ _ _ _ rfl rfl (ibind (f := Value.int .i64) (Option.some.inj hv13))),
         st_plain rfl (LOp.drop [_] (op_assign _ _ _ _ rfl rfl)),
         trivial⟩ ?_
        exact pt_next _ (Option.some.inj h).symm rfl
      ·have h := cond_f hb48 h
       refine ht_exit ?_
       refine pt_x_then ?_
       refine pt_x_then ?_
       refine pt_x_in ?_
       refine pt_pick [0, 1, 2, 4] (by kernel_rfl) (es' := [(_, _), (_, _), (_, _), (_, _)]) rfl ?_
       exact hl43 _ (ho45 _ (Option.some.inj h).symm).symm

set_option maxHeartbeats 1000000 in
theorem ok_strings_trimRightUnicode (mx : Int) (s : ByteArray) (cutset : ByteArray) (r : ByteArray) (h : Sh.strings_trimRightUnicode s cutset = some r) : FnG Tryd.prog (GL mx) 36 [.v (.string s), .v (.string cutset)] (.v (.string r)) := by
  unfold Sh.strings_trimRightUnicode at h
  refine fn_okG Tryd.func36 rfl (Nat.le_of_ble_eq_true rfl) rfl rfl fun g0 hn hio => ?_
  refine ht_seq ?_
  refine ht_seqR hn (El := [_, _, _, (4, .v (.string (⟨#[]⟩ : ByteArray)))]) (init := [0, 1, 2]) (fin := [0, 1, 2]) (sps := [⟨[], [], [3], [(.slot 4)]⟩]) (es' := [(_, _), (_, _), (_, _)]) (by kernel_rfl) rfl rfl
   ⟨st_plain rfl (op_assign _ _ _ _ rfl rfl),
   trivial⟩ ?_
  refine pt_then ?_
  refine ht_seq ?_
  refine ht_loopS h (fun (() : Unit) => [(0, .v (.string s)), (1, .v (.string cutset)), (34, .glob (GL mx))]) (fun (() : Unit) => [(0, .v (.string s)), (34, .glob (GL mx))]) ?_ ?_
  ·rintro ⟨⟩ h
   refine pt_then ?_
   refine ht_seq ?_
   refine ht_seqR hn (El := [_, _, (33, .v (.string s)), (4, .v (.string s))]) (init := [0, 1]) (fin := [1, 3]) (sps := [⟨[0], [], [2], [(.slot 33)]⟩, ⟨[2], [], [3], [(.slot 4)]⟩]) (es' := [(_, _), (4, .v (.string s))]) (by kernel_rfl) rfl rfl
    ⟨st_plain rfl (op_move _ _ _ _ rfl rfl),
    st_plain rfl (op_assign _ _ _ _ rfl rfl),
    trivial⟩ ?_
   refine pt_then ?_
   refine ht_ret ?_
   refine pt_pick [1] (by kernel_rfl) (es' := [(_, _)]) rfl ?_
   obtain rfl := Option.some.inj h
   exact pt_ret hio rfl (.tmp _ _ .nil) rfl rfl
  ·rintro u21 hl22 hr23 ⟨⟩ rr26 h ho24
   refine ht_seq ?_
   refine ht_seq ?_
   refine ht_seqR hn (El := [_, _, _, (7, .v (.string s)), (8, .v (.int .i64 (s.size : Int))), (9, .v (.bool ((decide (0 < (s.size : Int))))))]) (init := [0, 1, 2]) (fin := [0, 1, 2, 5]) (sps := [⟨[0], [], [3], [(.slot 7)]⟩, ⟨[3], [], [4], [(.slot 8)]⟩, ⟨[4], [], [5], [(.slot 9)]⟩]) (es' := [(_, _), (_, _), (_, _), (9, .v (.bool ((decide (0 < (s.size : Int))))))]) (by kernel_rfl) rfl rfl
    ⟨st_plain rfl (op_move _ _ _ _ rfl rfl),
    st_plain rfl (op_len_str _ _ _ Tryd.underlying9 rfl),
    st_plain rfl (op_bin _ _ _ _ _ rfl rfl rfl),
    trivial⟩ ?_
   refine pt_then ?_
   refine ht_cond _ rfl (fun hb27 => ?_) (fun hb27 => ?_)
   ·have h := cond_t hb27 h
    cases h
   ·have h := cond_f hb27 h
    refine ht_exit ?_
    refine pt_x_then ?_
    refine pt_x_then ?_
    refine pt_x_in ?_
    refine pt_pick [0, 2] (by kernel_rfl) (es' := [(_, _), (_, _)]) rfl ?_
    exact hl22 _ (ho24 _ (Option.some.inj h).symm).symm

set_option maxHeartbeats 1000000 in
theorem ok_strings_TrimRight (mx : Int) (s : ByteArray) (cutset : ByteArray) (r : ByteArray) (h : Sh.strings_TrimRight s cutset = some r) : FnG Tryd.prog (GL mx) 23 [.v (.string s), .v (.string cutset)] (.v (.string r)) := by
  unfold Sh.strings_TrimRight at h
  refine fn_okG Tryd.func23 rfl (Nat.le_of_ble_eq_true rfl) rfl rfl fun g0 hn hio => ?_
  refine ht_seq ?_
  refine ht_seqR hn (El := [_, _, _, (4, .v (.string (⟨#[]⟩ : ByteArray)))]) (init := [0, 1, 2]) (fin := [0, 1, 2]) (sps := [⟨[], [], [3], [(.slot 4)]⟩]) (es' := [(_, _), (_, _), (_, _)]) (by kernel_rfl) rfl rfl
   ⟨st_plain rfl (op_assign _ _ _ _ rfl rfl),
   trivial⟩ ?_
  refine pt_then ?_
  refine ht_seq ?_
  refine ht_seq ?_
  refine ht_joinS h (fun (s1 : Bool) => [(0, .v (.string s)), (1, .v (.string cutset)), (37, .glob (GL mx)), (12, .v (.bool s1))]) ?_ ?_
  ·rintro s1 h
   refine pt_then ?_
   refine ht_cond _ rfl (fun hb5 => ?_) (fun hb5 => ?_)
   ·have h := cond_t hb5 h
    refine ht_seq ?_
    refine ht_seqR hn (El := [_, _, _, _, (13, .v (.string s)), (4, .v (.string s))]) (init := [0, 1, 2, 3]) (fin := [2, 5]) (sps := [⟨[0], [], [4], [(.slot 13)]⟩, ⟨[4], [], [5], [(.slot 4)]⟩]) (es' := [(_, _), (4, .v (.string s))]) (by kernel_rfl) rfl rfl
     ⟨st_plain rfl (op_move _ _ _ _ rfl rfl),
     st_plain rfl (op_assign _ _ _ _ rfl rfl),
     trivial⟩ ?_
    refine pt_then ?_
    refine ht_ret ?_
    refine pt_pick [1] (by kernel_rfl) (es' := [(_, _)]) rfl ?_
    refine pt_r_then ?_
    obtain rfl := Option.some.inj h
    exact pt_ret hio rfl (.tmp _ _ .nil) rfl rfl
   ·have h := cond_f hb5 h
    refine ht_skip ?_
    refine pt_then ?_
    refine ht_seq ?_
    refine ht_seq ?_
    refine ht_joinS h (fun (s7 : Bool) => [(0, .v (.string s)), (1, .v (.string cutset)), (37, .glob (GL mx)), (21, .v (.bool s7))]) ?_ ?_
    ·rintro s7 h
     refine pt_then ?_
     refine ht_cond _ rfl (fun hb11 => ?_) (fun hb11 => ?_)
     ·have h := cond_t hb11 h
      refine ht_seq ?_
      obtain ⟨v12, hv12, h⟩ := bind_some h
      obtain ⟨v13, hv13, h⟩ := bind_some h
      refine ht_seqR hn (El := [_, _, _, _, (22, .v (.string s)), (23, .v (.string cutset)), (24, .v (.int .u8 v12)), (25, .v (.string v13)), (4, .v (.string v13))]) (init := [0, 1, 2, 3]) (fin := [2, 8]) (sps := [⟨[0], [], [4], [(.slot 22)]⟩, ⟨[1], [], [5], [(.slot 23)]⟩, ⟨[5], [], [6], [(.slot 24)]⟩, ⟨[4, 6], [], [7], [(.slot 25)]⟩, ⟨[7], [], [8], [(.slot 4)]⟩]) (es' := [(_, _), (4, .v (.string v13))]) (by kernel_rfl) rfl rfl
       ⟨st_plain rfl (op_move _ _ _ _ rfl rfl),
       st_plain rfl (op_move _ _ _ _ rfl rfl),
       st_plain rfl (op_chr _ _ _ 0 _ Tryd.underlying9 rfl rfl hv12),
       st_plain rfl (op_call _ _ 33 _ _ rfl Tryd.call33 rfl (ok_strings_trimRightByte s v12 _ hv13) rfl rfl),
       st_plain rfl (op_assign _ _ _ _ rfl rfl),
       trivial⟩ ?_
      refine pt_then ?_
      refine ht_ret ?_
      refine pt_pick [1] (by kernel_rfl) (es' := [(_, _)]) rfl ?_
      refine pt_r_then ?_
      obtain rfl := Option.some.inj h
      exact pt_ret hio rfl (.tmp _ _ .nil) rfl rfl
     ·have h := cond_f hb11 h
      refine ht_skip ?_
      refine pt_then ?_
      refine ht_seq ?_
      refine ht_seq ?_
      obtain ⟨v14, hv14, h⟩ := bind_some h
      obtain ⟨v15, hv15, h⟩ := bind_some h
      obtain ⟨v16, hv16, h⟩ := bind_some h
      refine ht_seqR hn (El := [_, _, _, _, (27, .v (.string cutset)), (28, .tup [.v (.agg (List.map Value.bool v14.1).toArray), .v (.bool v14.2)]), (26, .tup [.v (.agg (List.map Value.bool v14.1).toArray), .v (.bool v14.2)]), (29, .v (.agg (List.map Value.bool v14.1).toArray)), (30, .v (.bool v14.2)), (5, .arr 62 (List.map Value.bool (List.replicate 256 false))), (5, .arr 62 (List.map Value.bool v14.1)), (6, .v (.bool v14.2))]) (init := [0, 1, 2, 3]) (fin := [0, 1, 2, 10, 11]) (sps := [⟨[1], [], [4], [(.slot 27)]⟩, ⟨[4], [], [5], [(.slot 28)]⟩, ⟨[], [5], [6], [(.slot 26)]⟩, ⟨[6], [], [7], [(.slot 29)]⟩, ⟨[6], [], [8], [(.slot 30)]⟩, ⟨[], [], [9], [(.slot 5)]⟩, ⟨[7], [9], [10], []⟩, ⟨[8], [], [11], [(.slot 6)]⟩]) (es' := [(_, _), (_, _), (_, _), (5, .arr 62 (List.map Value.bool v14.1)), (6, .v (.bool v14.2))]) (by kernel_rfl) rfl rfl
       ⟨st_plain rfl (op_move _ _ _ _ rfl rfl),
       st_plain rfl (op_call _ _ 34 _ _ rfl Tryd.call34 rfl (ok_strings_makeASCIISet cutset _ hv14) rfl rfl),
       st_plain rfl (op_move_take _ _ _ _ rfl),
       st_plain rfl (op_extract _ _ _ _ _ rfl rfl (Nat.le_of_ble_eq_true rfl) rfl rfl),
       st_plain rfl (op_extract _ _ _ _ _ rfl rfl (Nat.le_of_ble_eq_true rfl) rfl rfl),
       st_plain rfl (op_alloc_arr _ za62),
       st_plain rfl (op_storeA_arr _ _ _ _ (sz62.trans (congrArg some (ln_len hv16))) rfl rfl (ln_ones (fun _ => rfl) _) ((ln_len (f := Value.bool) hv15).symm.trans (ln_len (f := Value.bool) hv16))),
       st_plain rfl (op_assign _ _ _ _ rfl rfl),
       trivial⟩ ?_
      refine pt_then ?_
      refine ht_seq ?_
      refine ht_seqR hn (El := [_, _, _, _, _, (31, .v (.bool v14.2))]) (init := [0, 1, 2, 3, 4]) (fin := [0, 1, 2, 3, 5]) (sps := [⟨[4], [], [5], [(.slot 31)]⟩]) (es' := [(_, _), (_, _), (_, _), (_, _), (31, .v (.bool v14.2))]) (by kernel_rfl) rfl rfl
       ⟨st_plain rfl (op_move _ _ _ _ rfl rfl),
       trivial⟩ ?_
      refine pt_then ?_
      refine ht_cond _ rfl (fun hb17 => ?_) (fun hb17 => ?_)
      ·have h := cond_t hb17 h
       cases h
      ·have h := cond_f hb17 h
       refine ht_skip ?_
       refine pt_then ?_
       refine ht_seq ?_
       obtain ⟨v18, hv18, h⟩ := bind_some h
       refine ht_seqR hn (El := [_, _, _, _, _, (34, .v (.string s)), (35, .v (.string cutset)), (36, .v (.string v18)), (4, .v (.string v18))]) (init := [0, 1, 2, 3, 4]) (fin := [2, 8]) (sps := [⟨[0], [], [5], [(.slot 34)]⟩, ⟨[1], [], [6], [(.slot 35)]⟩, ⟨[5, 6, 2], [], [7], [(.slot 36)]⟩, ⟨[7], [], [8], [(.slot 4)]⟩]) (es' := [(_, _), (4, .v (.string v18))]) (by kernel_rfl) rfl rfl
        ⟨st_plain rfl (op_move _ _ _ _ rfl rfl),
        st_plain rfl (op_move _ _ _ _ rfl rfl),
        st_plain rfl (op_callG _ _ 37 36 _ _ rfl Tryd.call36 rfl rfl (fun _ h => h) (ok_strings_trimRightUnicode mx s cutset _ hv18) rfl rfl),
        st_plain rfl (op_assign _ _ _ _ rfl rfl),
        trivial⟩ ?_
       refine pt_then ?_
       refine ht_ret ?_
       refine pt_pick [1] (by kernel_rfl) (es' := [(_, _)]) rfl ?_
       obtain rfl := Option.some.inj h
       exact pt_ret hio rfl (.tmp _ _ .nil) rfl rfl
    ·intro u8 h hl9 hr10
     refine cond_some h (fun hg3_3 h => ?_) (fun hg3_3 h => ?_)
     ·obtain ⟨v6, hv6, h⟩ := bind_some h
      refine ht_seqR hn (El := [_, _, _, _, (14, .v (.string cutset)), (15, .v (.int .i64 (cutset.size : Int))), (16, .v (.bool (((cutset.size : Int) == 1)))), (17, .v (.bool true)), (18, .v (.string cutset)), (19, .v (.int .u8 v6)), (20, .v (.bool ((decide (v6 < 128))))), (21, .v (.bool ((decide (v6 < 128)))))]) (init := [0, 1, 2, 3]) (fin := [0, 1, 2, 11]) (sps := [⟨[1], [], [4], [(.slot 14)]⟩, ⟨[4], [], [5], [(.slot 15)]⟩, ⟨[5], [], [6], [(.slot 16)]⟩, ⟨[6], [], [7], [(.slot 17)]⟩, ⟨[7, 1], [], [8], [(.slot 18)]⟩, ⟨[7, 8], [], [9], [(.slot 19)]⟩, ⟨[7, 9], [], [10], [(.slot 20)]⟩, ⟨[7, 10], [], [11], [(.slot 21)]⟩]) (es' := [(_, _), (_, _), (_, _), (21, .v (.bool ((decide (v6 < 128)))))]) (by kernel_rfl) rfl rfl
       ⟨st_plain rfl (op_move _ _ _ _ rfl rfl),
       st_plain rfl (op_len_str _ _ _ Tryd.underlying9 rfl),
       st_plain rfl (op_bin _ _ _ _ _ rfl rfl rfl),
       st_plain rfl (op_move _ _ _ _ (congrArg (fun b => AV.v (Value.bool b)) hg3_3) rfl),
       st_run 3 17 true rfl rfl rfl (List.Mem.head _) (op_move _ _ _ _ rfl rfl),
       st_run 3 17 true rfl rfl rfl (List.Mem.head _) (op_chr _ _ _ 0 _ Tryd.underlying9 rfl rfl hv6),
       st_run 3 17 true rfl rfl rfl (List.Mem.head _) (op_bin _ _ _ _ _ rfl rfl rfl),
       st_plain rfl (op_pick _ _ true _ rfl rfl),
       trivial⟩ ?_
      exact hl9 _ (Option.some.inj h).symm
     ·refine ht_seqR hn (El := [_, _, _, _, (14, .v (.string cutset)), (15, .v (.int .i64 (cutset.size : Int))), (16, .v (.bool (((cutset.size : Int) == 1)))), (17, .v (.bool false)), (18, .v undef), (19, .v undef), (20, .v undef), (21, .v (.bool false))]) (init := [0, 1, 2, 3]) (fin := [0, 1, 2, 11]) (sps := [⟨[1], [], [4], [(.slot 14)]⟩, ⟨[4], [], [5], [(.slot 15)]⟩, ⟨[5], [], [6], [(.slot 16)]⟩, ⟨[6], [], [7], [(.slot 17)]⟩, ⟨[7], [], [8], [(.slot 18)]⟩, ⟨[7], [], [9], [(.slot 19)]⟩, ⟨[7], [], [10], [(.slot 20)]⟩, ⟨[7], [], [11], [(.slot 21)]⟩]) (es' := [(_, _), (_, _), (_, _), (21, .v (.bool false))]) (by kernel_rfl) rfl rfl
       ⟨st_plain rfl (op_move _ _ _ _ rfl rfl),
       st_plain rfl (op_len_str _ _ _ Tryd.underlying9 rfl),
       st_plain rfl (op_bin _ _ _ _ _ rfl rfl rfl),
       st_plain rfl (op_move _ _ _ _ (congrArg (fun b => AV.v (Value.bool b)) hg3_3) rfl),
       st_skip 3 17 _ true rfl rfl rfl rfl (List.Mem.head _),
       st_skip 3 17 _ true rfl rfl rfl rfl (List.Mem.head _),
       st_skip 3 17 _ true rfl rfl rfl rfl (List.Mem.head _),
       st_plain rfl (op_pick _ _ false _ rfl rfl),
       trivial⟩ ?_
      exact hl9 _ (Option.some.inj h).symm
  ·intro u2 h hl3 hr4
   refine cond_some h (fun hg1_2 h => ?_) (fun hg1_2 h => ?_)
   ·refine ht_seqR hn (El := [_, _, _, (7, .v (.string s)), (8, .v (.bool ((s.toList == (⟨#[]⟩ : ByteArray).toList)))), (9, .v (.bool true)), (10, .v undef), (11, .v undef), (12, .v (.bool true))]) (init := [0, 1, 2]) (fin := [0, 1, 2, 8]) (sps := [⟨[0], [], [3], [(.slot 7)]⟩, ⟨[3], [], [4], [(.slot 8)]⟩, ⟨[4], [], [5], [(.slot 9)]⟩, ⟨[5], [], [6], [(.slot 10)]⟩, ⟨[5], [], [7], [(.slot 11)]⟩, ⟨[5], [], [8], [(.slot 12)]⟩]) (es' := [(_, _), (_, _), (_, _), (12, .v (.bool true))]) (by kernel_rfl) rfl rfl
     ⟨st_plain rfl (op_move _ _ _ _ rfl rfl),
     st_plain rfl (op_bin _ _ _ _ _ rfl rfl rfl),
     st_plain rfl (op_move _ _ _ _ (congrArg (fun b => AV.v (Value.bool b)) hg1_2) rfl),
     st_skip 2 9 _ false rfl rfl rfl rfl (List.Mem.head _),
     st_skip 2 9 _ false rfl rfl rfl rfl (List.Mem.head _),
     st_plain rfl (op_pick _ _ true _ rfl rfl),
     trivial⟩ ?_
    exact hl3 _ (Option.some.inj h).symm
   ·refine ht_seqR hn (El := [_, _, _, (7, .v (.string s)), (8, .v (.bool ((s.toList == (⟨#[]⟩ : ByteArray).toList)))), (9, .v (.bool false)), (10, .v (.string cutset)), (11, .v (.bool ((cutset.toList == (⟨#[]⟩ : ByteArray).toList)))), (12, .v (.bool ((cutset.toList == (⟨#[]⟩ : ByteArray).toList))))]) (init := [0, 1, 2]) (fin := [0, 1, 2, 8]) (sps := [⟨[0], [], [3], [(.slot 7)]⟩, ⟨[3], [], [4], [(.slot 8)]⟩, ⟨[4], [], [5], [(.slot 9)]⟩, ⟨[5, 1], [], [6], [(.slot 10)]⟩, ⟨[5, 6], [], [7], [(.slot 11)]⟩, ⟨[5, 7], [], [8], [(.slot 12)]⟩]) (es' := [(_, _), (_, _), (_, _), (12, .v (.bool ((cutset.toList == (⟨#[]⟩ : ByteArray).toList))))]) (by kernel_rfl) rfl rfl
     ⟨st_plain rfl (op_move _ _ _ _ rfl rfl),
     st_plain rfl (op_bin _ _ _ _ _ rfl rfl rfl),
     st_plain rfl (op_move _ _ _ _ (congrArg (fun b => AV.v (Value.bool b)) hg1_2) rfl),
     st_run 2 9 false rfl rfl rfl (List.Mem.head _) (op_move _ _ _ _ rfl rfl),
     st_run 2 9 false rfl rfl rfl (List.Mem.head _) (op_bin _ _ _ _ _ rfl rfl rfl),
     st_plain rfl (op_pick _ _ false _ rfl rfl),
     trivial⟩ ?_
    exact hl3 _ (Option.some.inj h).symm

theorem ok_strings_IndexByte (s : ByteArray) (c r : Int) (h : Sh.strings_IndexByte s c = some r) : FnOK Tryd.prog 32 [.v (.string s), .v (.int .u8 c)] (.v (.int .i64 r)) := lib_strings_IndexByte Tryd.strings_IndexByte s c r h

set_option maxHeartbeats 1000000 in
theorem ok_cram_decodeGroup (s : ByteArray) (r : (List Int)) (h : Sh.cram_decodeGroup s = some r) : FnOK Tryd.prog 22 [.v (.string s)] (.fl (.own 5) 1 (List.map (Value.int .u8) r)) := by
  unfold Sh.cram_decodeGroup at h
  refine fn_ok Tryd.func22 rfl (Nat.le_of_ble_eq_true rfl) rfl rfl fun g0 hn hio => ?_
  refine ht_seq ?_
  refine ht_seqR hn (El := [_, (2, .v (.slice none 0 0))]) (init := [0]) (fin := [0]) (sps := [⟨[], [], [1], [(.slot 2)]⟩]) (es' := [(_, _)]) (by kernel_rfl) rfl rfl
   ⟨st_plain rfl (op_assign _ _ _ _ rfl rfl),
   trivial⟩ ?_
  refine pt_then ?_
  refine ht_seq ?_
  refine ht_seqR hn (El := [_, (3, .v (.int .u32 0))]) (init := [0]) (fin := [0, 1]) (sps := [⟨[], [], [1], [(.slot 3)]⟩]) (es' := [(_, _), (3, .v (.int .u32 0))]) (by kernel_rfl) rfl rfl
   ⟨st_plain rfl (op_assign _ _ _ _ rfl rfl),
   trivial⟩ ?_
  refine pt_then ?_
  refine ht_seq ?_
  refine ht_seq ?_
  refine ht_seqR hn (El := [_, _, (7, .v (.string s)), (8, .v (.int .i64 (s.size : Int))), (9, .v (.int .i64 0))]) (init := [0, 1]) (fin := [0, 1, 3, 4]) (sps := [⟨[0], [], [2], [(.slot 7)]⟩, ⟨[2], [], [3], [(.slot 8)]⟩, ⟨[], [], [4], [(.slot 9)]⟩]) (es' := [(_, _), (_, _), (8, .v (.int .i64 (s.size : Int))), (9, .v (.int .i64 0))]) (by kernel_rfl) rfl rfl
   ⟨st_plain rfl (op_move _ _ _ _ rfl rfl),
   st_plain rfl (op_len_str _ _ _ Tryd.underlying9 rfl),
   st_plain rfl (op_move _ _ _ _ rfl rfl),
   trivial⟩ ?_
  refine pt_then ?_
  refine ht_loopS h (fun ((s14, s15) : Int × Int) => [(0, .v (.string s)), (3, .v (.int .u32 s14)), (8, .v (.int .i64 (s.size : Int))), (9, .v (.int .i64 s15))]) (fun (s17 : Int) => [(0, .v (.string s)), (3, .v (.int .u32 s17))]) ?_ ?_
  ·rintro s17 h
   refine pt_then ?_
   refine ht_seq ?_
   refine ht_seqR hn (El := [_, _, (5, .v (.slice none 0 0))]) (init := [0, 1]) (fin := [0, 1, 2]) (sps := [⟨[], [], [2], [(.slot 5)]⟩]) (es' := [(_, _), (_, _), (5, .v (.slice none 0 0))]) (by kernel_rfl) rfl rfl
    ⟨st_plain rfl (op_assign _ _ _ _ rfl rfl),
    trivial⟩ ?_
   refine pt_then ?_
   refine ht_seq ?_
   refine ht_seq ?_
   obtain ⟨v25, hv25, h⟩ := bind_some h
   refine ht_seqR hn (El := [_, _, _, (25, .v (.string s)), (26, .v (.int .i64 (s.size : Int))), (27, .v (.int .i64 v25)), (28, .v (.int .i64 0))]) (init := [0, 1, 2]) (fin := [1, 2, 5, 6]) (sps := [⟨[0], [], [3], [(.slot 25)]⟩, ⟨[3], [], [4], [(.slot 26)]⟩, ⟨[4], [], [5], [(.slot 27)]⟩, ⟨[], [], [6], [(.slot 28)]⟩]) (es' := [(_, _), (_, _), (27, .v (.int .i64 v25)), (28, .v (.int .i64 0))]) (by kernel_rfl) rfl rfl
    ⟨st_plain rfl (op_move _ _ _ _ rfl rfl),
    st_plain rfl (op_len_str _ _ _ Tryd.underlying9 rfl),
    st_plain rfl (op_bin _ _ _ _ _ rfl rfl (ibind (f := Value.int .i64) (Option.some.inj hv25))),
    st_plain rfl (op_move _ _ _ _ rfl rfl),
    trivial⟩ ?_
   refine pt_then ?_
   refine ht_sub (fs := [(3, .v (.int .u32 s17)), (5, .fl (.own 5) 1 (List.map (Value.int .u8) [])), (27, .v (.int .i64 v25)), (28, .v (.int .i64 0))]) (.same _ (.sub _ (sub_nil 5 1) rfl (.same _ (.same _ .nil)))) ?_
   refine ht_loopS h (fun ((s36, s37) : (List Int) × Int) => [(3, .v (.int .u32 s17)), (5, .fl (.own 5) 1 (List.map (Value.int .u8) s36)), (27, .v (.int .i64 v25)), (28, .v (.int .i64 s37))]) (fun (s39 : (List Int)) => [(5, .fl (.own 5) 1 (List.map (Value.int .u8) s39))]) ?_ ?_
   ·rintro s39 h
    refine pt_then ?_
    refine ht_seq ?_
    refine ht_seqR hn (El := [_, (41, .fl (.own 5) 1 (List.map (Value.int .u8) s39)), (2, .fl (.own 5) 1 (List.map (Value.int .u8) s39))]) (init := [0]) (fin := [2]) (sps := [⟨[], [0], [1], [(.slot 41)]⟩, ⟨[], [1], [2], [(.slot 2)]⟩]) (es' := [(2, .fl (.own 5) 1 (List.map (Value.int .u8) s39))]) (by kernel_rfl) rfl rfl
     ⟨st_plain rfl (op_move_take _ _ _ _ rfl),
     st_plain rfl (op_assign_take _ _ _ _ rfl),
     trivial⟩ ?_
    refine pt_then ?_
    refine ht_ret ?_
    obtain rfl := Option.some.inj h
    exact pt_ret hio rfl (.tmp _ _ .nil) rfl rfl
   ·rintro u40 hl41 hr42 ⟨s36, s37⟩ rr45 h ho43
    refine ht_seq ?_
    refine ht_seqR hn (El := [_, _, _, _, (29, .v (.bool ((decide (s37 < v25)))))]) (init := [0, 1, 2, 3]) (fin := [0, 1, 2, 3, 4]) (sps := [⟨[3, 2], [], [4], [(.slot 29)]⟩]) (es' := [(_, _), (_, _), (_, _), (_, _), (29, .v (.bool ((decide (s37 < v25)))))]) (by kernel_rfl) rfl rfl
     ⟨st_plain rfl (op_bin _ _ _ _ _ rfl rfl rfl),
     trivial⟩ ?_
    refine pt_then ?_
    refine ht_seq ?_
    refine ht_cond _ rfl (fun hb46 => ?_) (fun hb46 => ?_)
    ·have h := cond_t hb46 h
     refine ht_skip ?_
     refine pt_then ?_
     refine ht_seq ?_
     refine ht_block ?_
     refine ht_seq ?_
     refine ht_seqR hn (El := [_, _, _, _, _, (30, .v (.int .i64 s37)), (6, .v (.int .i64 s37))]) (init := [0, 1, 2, 3, 4]) (fin := [0, 1, 2, 3, 6]) (sps := [⟨[3], [], [5], [(.slot 30)]⟩, ⟨[5], [], [6], [(.slot 6)]⟩]) (es' := [(_, _), (_, _), (_, _), (_, _), (6, .v (.int .i64 s37))]) (by kernel_rfl) rfl rfl
      ⟨st_plain rfl (op_move _ _ _ _ rfl rfl),
      st_plain rfl (op_assign _ _ _ _ rfl rfl),
      trivial⟩ ?_
     refine pt_then ?_
     obtain ⟨v27, hv27, h⟩ := bind_some h
     obtain ⟨v28, hv28, h⟩ := bind_some h
     obtain ⟨v29, hv29, h⟩ := bind_some h
     obtain ⟨v30, hv30, h⟩ := bind_some h
     obtain ⟨v31, hv31, h⟩ := bind_some h
     refine ht_seqR hn (El := (_ :: _ :: _ :: _ :: _ :: (31, .fl (.own 5) 1 (List.map (Value.int .u8) s36)) :: (32, .v (.int .u32 s17)) :: (33, .v (.int .i64 s37)) :: (34, .v (.int .i64 v27)) :: (35, .v (.int .i64 v28)) :: (36, .v (.int .u32 v29)) :: (37, .v (.int .u8 v30)) :: (38, .fl (.own 5) 1 (List.map (Value.int .u8) [v30])) :: (39, .fl (.own 5) 1 (List.map (Value.int .u8) v31)) :: (31, .any) :: (5, .fl (.own 5) 1 (List.map (Value.int .u8) v31)) :: [])) (init := [0, 1, 2, 3, 4]) (fin := [0, 2, 3, 15]) (sps := [⟨[], [1], [5], [(.slot 31)]⟩, ⟨[0], [], [6], [(.slot 32)]⟩, ⟨[4], [], [7], [(.slot 33)]⟩, ⟨[7], [], [8], [(.slot 34)]⟩, ⟨[8], [], [9], [(.slot 35)]⟩, ⟨[6, 9], [], [10], [(.slot 36)]⟩, ⟨[10], [], [11], [(.slot 37)]⟩, ⟨[11], [], [12], [(.slot 38)]⟩, ⟨[12], [5], [14, 13], [(.slot 39)]⟩, ⟨[], [13], [15], [(.slot 5)]⟩]) (es' := [(_, _), (_, _), (_, _), (5, .fl (.own 5) 1 (List.map (Value.int .u8) v31))]) (by kernel_rfl) rfl rfl
      ⟨st_plain rfl (op_move_take _ _ _ _ rfl),
      st_plain rfl (op_move _ _ _ _ rfl rfl),
      st_plain rfl (op_move _ _ _ _ rfl rfl),
      st_plain rfl (op_bin _ _ _ _ _ rfl rfl (ibind (f := Value.int .i64) (Option.some.inj hv27))),
      st_plain rfl (op_bin _ _ _ _ _ rfl rfl (ibind (f := Value.int .i64) (Option.some.inj hv28))),
      st_plain rfl (op_bin _ _ _ _ _ rfl rfl (shr_ok hv29)),
      st_plain rfl ((Option.some.inj hv30) ▸ op_conv _ _ _ Tryd.underlying49 Tryd.underlying5 rfl),
      st_plain rfl (op_buildSlice _ _ 1 (.int .u8 0) (List.map (Value.int .u8) [v30]) [(0, .int .u8 v30)] Tryd.underlying22 sz5 zr5 (fun _ V w o a hv hes => by have e0 := rd_v hv hes (x := .tmp 37) rfl; simp only [List.map_toArray, List.map_cons, List.map_nil, e0]; try rfl) (litfill (by simp [Instr.fill, Value.cells]; rfl) (by simp [List.range, List.range.loop] <;> rfl)) (by simp [Value.oneCell']) rfl (by decide) (by decide) (by decide)),
      st_plain rfl (op_app _ _ _ _ _ el22 rfl rfl (map_len _) (map_len _) hv31 ((List.map_append).symm.trans (congrArg (List.map _) (app_eq hv31)))),
      st_plain rfl (op_assign_take _ _ _ _ rfl),
      trivial⟩ ?_
     refine pt_inb ?_
     refine pt_then ?_
     obtain ⟨v32, hv32, h⟩ := bind_some h
     refine ht_seqR hn (El := [_, _, _, _, (40, .v (.int .i64 v32)), (28, .v (.int .i64 v32))]) (init := [0, 1, 2, 3]) (fin := [0, 1, 3, 5]) (sps := [⟨[2], [], [4], [(.slot 40)]⟩, ⟨[4], [2], [5], [(.slot 28)]⟩]) (es' := [(_, _), (_, _), (_, _), (28, .v (.int .i64 v32))]) (by kernel_rfl) rfl rfl
      ⟨st_plain rfl (op_bin _ _ _ _ _ rfl rfl (ibind (f := Value.int .i64) (Option.some.inj hv32))),
      st_plain rfl (LOp.drop [_] (op_move _ _ _ _ rfl rfl)),
      trivial⟩ ?_
     refine pt_pick [0, 2, 1, 3] (by kernel_rfl) (es' := [(_, _), (_, _), (_, _), (_, _)]) rfl ?_
     exact pt_next _ (Option.some.inj h).symm rfl
    ·have h := cond_f hb46 h
     refine ht_exit ?_
     refine pt_x_then ?_
     refine pt_x_then ?_
     refine pt_x_in ?_
     refine pt_pick [1] (by kernel_rfl) (es' := [(_, _)]) rfl ?_
     exact hl41 _ (ho43 _ (Option.some.inj h).symm).symm
  ·rintro u18 hl19 hr20 ⟨s14, s15⟩ rr23 h ho21
   refine ht_seq ?_
   refine ht_seqR hn (El := [_, _, _, _, (10, .v (.bool ((decide (s15 < (s.size : Int))))))]) (init := [0, 1, 2, 3]) (fin := [0, 1, 2, 3, 4]) (sps := [⟨[3, 2], [], [4], [(.slot 10)]⟩]) (es' := [(_, _), (_, _), (_, _), (_, _), (10, .v (.bool ((decide (s15 < (s.size : Int))))))]) (by kernel_rfl) rfl rfl
    ⟨st_plain rfl (op_bin _ _ _ _ _ rfl rfl rfl),
    trivial⟩ ?_
   refine pt_then ?_
   refine ht_seq ?_
   refine ht_cond _ rfl (fun hb24 => ?_) (fun hb24 => ?_)
   ·have h := cond_t hb24 h
    refine ht_skip ?_
    refine pt_then ?_
    refine ht_seq ?_
    refine ht_block ?_
    refine ht_seq ?_
    refine ht_seqR hn (El := [_, _, _, _, _, (11, .v (.int .i64 s15)), (4, .v (.int .i64 s15))]) (init := [0, 1, 2, 3, 4]) (fin := [0, 1, 2, 3, 6]) (sps := [⟨[3], [], [5], [(.slot 11)]⟩, ⟨[5], [], [6], [(.slot 4)]⟩]) (es' := [(_, _), (_, _), (_, _), (_, _), (4, .v (.int .i64 s15))]) (by kernel_rfl) rfl rfl
     ⟨st_plain rfl (op_move _ _ _ _ rfl rfl),
     st_plain rfl (op_assign _ _ _ _ rfl rfl),
     trivial⟩ ?_
    refine pt_then ?_
    obtain ⟨v2, hv2, h⟩ := bind_some h
    obtain ⟨v3, hv3, h⟩ := bind_some h
    obtain ⟨v4, hv4, h⟩ := bind_some h
    obtain ⟨v5, hv5, h⟩ := bind_some h
    obtain ⟨v6, hv6, h⟩ := bind_some h
    obtain ⟨v7, hv7, h⟩ := bind_some h
    obtain ⟨v8, hv8, h⟩ := bind_some h
    obtain ⟨v9, hv9, h⟩ := bind_some h
    refine ht_seqR hn (El := (_ :: _ :: _ :: _ :: _ :: (12, .v (.int .u32 s14)) :: (13, .v (.string s)) :: (14, .v (.int .i64 s15)) :: (15, .v (.int .u8 v2)) :: (16, .v (.int .i64 v3)) :: (17, .v (.int .i64 v4)) :: (18, .v (.int .u32 v5)) :: (19, .v (.int .i64 s15)) :: (20, .v (.int .i64 v6)) :: (21, .v (.int .i64 v7)) :: (22, .v (.int .u32 v8)) :: (23, .v (.int .u32 v9)) :: (3, .v (.int .u32 v9)) :: [])) (init := [0, 1, 2, 3, 4]) (fin := [0, 2, 3, 17]) (sps := [⟨[1], [], [5], [(.slot 12)]⟩, ⟨[0], [], [6], [(.slot 13)]⟩, ⟨[4], [], [7], [(.slot 14)]⟩, ⟨[6, 7], [], [8], [(.slot 15)]⟩, ⟨[8], [], [9], [(.slot 16)]⟩, ⟨[9], [], [10], [(.slot 17)]⟩, ⟨[10], [], [11], [(.slot 18)]⟩, ⟨[4], [], [12], [(.slot 19)]⟩, ⟨[12], [], [13], [(.slot 20)]⟩, ⟨[13], [], [14], [(.slot 21)]⟩, ⟨[11, 14], [], [15], [(.slot 22)]⟩, ⟨[5, 15], [], [16], [(.slot 23)]⟩, ⟨[16], [1], [17], [(.slot 3)]⟩]) (es' := [(_, _), (_, _), (_, _), (3, .v (.int .u32 v9))]) (by kernel_rfl) rfl rfl
     ⟨st_plain rfl (op_move _ _ _ _ rfl rfl),
     st_plain rfl (op_move _ _ _ _ rfl rfl),
     st_plain rfl (op_move _ _ _ _ rfl rfl),
     st_plain rfl (op_chr _ _ _ s15 _ Tryd.underlying9 rfl rfl hv2),
     st_plain rfl (op_call _ _ 32 _ _ rfl Tryd.call32 rfl (ok_strings_IndexByte (⟨#[65, 66, 67, 68, 69, 70, 71, 72, 73, 74, 75, 76, 77, 78, 79, 80, 81, 82, 83, 84, 85, 86, 87, 88, 89, 90, 97, 98, 99, 100, 101, 102, 103, 104, 105, 106, 107, 108, 109, 110, 111, 112, 113, 114, 115, 116, 117, 118, 119, 120, 121, 122, 48, 49, 50, 51, 52, 53, 54, 55, 56, 57, 43, 47]⟩ : ByteArray) v2 _ hv3) rfl rfl),
     st_plain rfl (op_bin _ _ _ _ _ rfl rfl (ibind (f := Value.int .i64) (Option.some.inj hv4))),
     st_plain rfl ((Option.some.inj hv5) ▸ op_conv _ _ _ Tryd.underlying3 Tryd.underlying49 rfl),
     st_plain rfl (op_move _ _ _ _ rfl rfl),
     st_plain rfl (op_bin _ _ _ _ _ rfl rfl (ibind (f := Value.int .i64) (Option.some.inj hv6))),
     st_plain rfl (op_bin _ _ _ _ _ rfl rfl (ibind (f := Value.int .i64) (Option.some.inj hv7))),
     st_plain rfl (op_bin _ _ _ _ _ rfl rfl (shl_ok hv8)),
     st_plain rfl (op_bin _ _ _ _ _ rfl rfl (ibind (f := Value.int .u32) (Option.some.inj hv9))),
     st_plain rfl (LOp.drop [_] (op_assign _ _ _ _ rfl rfl)),
     trivial⟩ ?_
    refine pt_inb ?_
    refine pt_then ?_
    obtain ⟨v10, hv10, h⟩ := bind_some h
    refine ht_seqR hn (El := [_, _, _, _, (24, .v (.int .i64 v10)), (9, .v (.int .i64 v10))]) (init := [0, 1, 2, 3]) (fin := [0, 1, 3, 5]) (sps := [⟨[2], [], [4], [(.slot 24)]⟩, ⟨[4], [2], [5], [(.slot 9)]⟩]) (es' := [(_, _), (_, _), (_, _), (9, .v (.int .i64 v10))]) (by kernel_rfl) rfl rfl
     ⟨st_plain rfl (op_bin _ _ _ _ _ rfl rfl (ibind (f := Value.int .i64) (Option.some.inj hv10))),
     st_plain rfl (LOp.drop [_] (op_move _ _ _ _ rfl rfl)),
     trivial⟩ ?_
    refine pt_pick [0, 2, 1, 3] (by kernel_rfl) (es' := [(_, _), (_, _), (_, _), (_, _)]) rfl ?_
    exact pt_next _ (Option.some.inj h).symm rfl
   ·have h := cond_f hb24 h
    refine ht_exit ?_
    refine pt_x_then ?_
    refine pt_x_then ?_
    refine pt_x_in ?_
    refine pt_pick [0, 1] (by kernel_rfl) (es' := [(_, _), (_, _)]) rfl ?_
    exact hl19 _ (ho21 _ (Option.some.inj h).symm).symm

theorem ok_strings_Builder_copyCheck (xs : List Value) : FnP Tryd.prog 38 [.hid (bldT 48 5 false xs)] [.hid (bldT 48 5 true xs)] (.tup []) :=
  bld_check (by decide) (fun b w h1 h2 h3 => Tryd.Builder_copyCheck_fresh b w h1 h2 h3) (fun b w h => Tryd.Builder_copyCheck_used b w h)

set_option maxHeartbeats 1000000 in
theorem ok_strings_Builder_WriteByte (xs : List Int) (c : Int) (r : List Int) (h : appO 1 xs [c] = some r) : FnP Tryd.prog 26 [.hid (bldT 48 5 false (List.map (Value.int .u8) xs)), .v (.int .u8 c)] [.hid (bldT 48 5 false (List.map (Value.int .u8) r))] (.v .nilIface) := by
  refine FnP.bldW ?_
  refine fn_okP Tryd.func26 rfl (Nat.le_of_ble_eq_true rfl) rfl (Nat.le_of_ble_eq_true rfl) fun args0 hargs0 g0 hn hio => ?_
  refine ht_seq ?_
  refine ht_seqR hn (El := [_, _, _, (4, .v .nilIface)]) (init := [0, 1, 2]) (fin := [0, 1, 2]) (sps := [⟨[], [], [3], [(.slot 4)]⟩]) (es' := [(_, _), (_, _), (_, _)]) (by kernel_rfl) rfl rfl
   ⟨st_plain rfl (op_assign _ _ _ _ rfl rfl),
   trivial⟩ ?_
  refine pt_then ?_
  refine ht_seq ?_
  refine ht_seqR hn (El := [_, _, _, (5, .same (.slot 0)), (0, .hid (bldT 48 5 true (List.map (Value.int .u8) xs))), (6, .tup [])]) (init := [0, 1, 2]) (fin := [4, 1, 2]) (sps := [⟨[], [], [3], [(.slot 5)]⟩, ⟨[3], [0], [4, 5], [(.slot 6)]⟩]) (es' := [(0, .hid (bldT 48 5 true (List.map (Value.int .u8) xs))), (_, _), (_, _)]) (by kernel_rfl) rfl rfl
   ⟨st_plain rfl (op_move_name _ _ _ rfl),
   st_plain rfl (op_callPS _ _ _ _ 6 38 [.tmp 5] [] _ _ _ rfl Tryd.call38 rfl rfl rfl (ok_strings_Builder_copyCheck _) (Nat.le_of_ble_eq_true rfl) rfl rfl rfl rfl rfl rfl rfl),
   trivial⟩ ?_
  refine pt_then ?_
  refine ht_bld_box 0 rfl ?_
  refine ht_seq ?_
  refine ht_seqR hn (El := (_ :: _ :: _ :: (7, .ptr 0 0) :: (8, .ptr 0 0) :: (9, .ptr 0 0) :: (10, .ptr 0 1) :: (11, .same (.cell 0 1)) :: (12, .v (.int .u8 c)) :: (13, .fl (.own 5) 1 (List.map (Value.int .u8) [c])) :: (14, .fl (.own 5) 1 (List.map (Value.int .u8) r)) :: (0, .box 48 [.ptr 0 0, .any]) :: (15, .ptr 0 0) :: (16, .ptr 0 1) :: (0, .box 48 [.ptr 0 0, .fl (.own 5) 1 (List.map (Value.int .u8) r)]) :: [])) (init := [0, 1, 2]) (fin := [14, 2]) (sps := [⟨[0], [], [3], [(.slot 7)]⟩, ⟨[0], [], [4], [(.slot 8)]⟩, ⟨[4, 0], [], [5], [(.slot 9)]⟩, ⟨[5, 0], [], [6], [(.slot 10)]⟩, ⟨[6, 0], [], [7], [(.slot 11)]⟩, ⟨[1], [], [8], [(.slot 12)]⟩, ⟨[8], [], [9], [(.slot 13)]⟩, ⟨[7, 9], [0], [11, 10], [(.slot 14)]⟩, ⟨[3, 11], [], [12], [(.slot 15)]⟩, ⟨[12, 11], [], [13], [(.slot 16)]⟩, ⟨[13], [7, 10, 11], [14], [.cell 0 1]⟩]) (es' := [(0, .box 48 [.ptr 0 0, .fl (.own 5) 1 (List.map (Value.int .u8) r)]), (_, _)]) (by kernel_rfl) rfl rfl
   ⟨st_plain rfl (op_move _ _ _ _ rfl rfl),
   st_plain rfl (op_move _ _ _ _ rfl rfl),
   st_plain rfl (op_nilCheck _ _ _ 0 0 rfl (by decide)),
   st_plain rfl (op_fieldAddr _ _ _ _ 0 0 _ Tryd.underlying48 rfl sz22 rfl rfl (by decide)),
   st_plain rfl (op_load _ _ _ _ _ _ Tryd.underlying22 rfl rfl rfl (Nat.le_of_ble_eq_true rfl) rfl rfl rfl),
   st_plain rfl (op_move _ _ _ _ rfl rfl),
   st_plain rfl (op_buildSlice _ _ 1 (.int .u8 0) (List.map (Value.int .u8) [c]) [(0, .int .u8 c)] Tryd.underlying22 sz5 zr5 (fun _ V w o a hv hes => by have e0 := rd_v hv hes (x := .tmp 12) rfl; simp only [List.map_toArray, List.map_cons, List.map_nil, e0]; try rfl) (litfill (by simp [Instr.fill, Value.cells]; rfl) (by simp [List.range, List.range.loop])) (by simp [Value.oneCell']) rfl (by decide) (by decide) (by decide)),
   st_plain rfl (op_app_cell _ _ _ _ _ _ el22 rfl rfl (Nat.le_of_ble_eq_true rfl) rfl (map_len _) (map_len _) h ((List.map_append).symm.trans (congrArg (List.map _) (app_eq h))) (by decide) rfl rfl),
   st_plain rfl (op_nilCheck _ _ _ 0 0 rfl (by decide)),
   st_plain rfl (op_fieldAddr _ _ _ _ 0 0 _ Tryd.underlying48 rfl sz22 rfl rfl (by decide)),
   st_plain rfl (LOp.drop [_] (op_store_take _ _ _ _ _ _ _ _ sz22 rfl rfl rfl (Nat.le_of_ble_eq_true rfl) rfl rfl)),
   trivial⟩ ?_
  refine pt_then ?_
  refine ht_seq ?_
  refine ht_seqR hn (El := [_, _, (4, .v .nilIface)]) (init := [0, 1]) (fin := [0, 1, 2]) (sps := [⟨[], [], [2], [(.slot 4)]⟩]) (es' := [(_, _), (_, _), (4, .v .nilIface)]) (by kernel_rfl) rfl rfl
   ⟨st_plain rfl (op_assign _ _ _ _ rfl rfl),
   trivial⟩ ?_
  refine pt_then ?_
  refine ht_ret ?_
  refine pt_bld 0 ?_
  refine pt_pick [2, 0, 1] (by kernel_rfl) (es' := [(_, _), (_, _), (_, _)]) rfl ?_
  exact pt_retP (es := [(4, .v .nilIface)]) (posts := [.hid (bldT 48 5 true (List.map (Value.int .u8) r))]) hio rfl rfl (.tmp _ _ .nil) rfl rfl hargs0 rfl

theorem ok_strings_Repeat (s : ByteArray) (c : Int) (r : ByteArray) (h : Sh.strings_Repeat s c = some r) : FnOK Tryd.prog 28 [.v (.string s), .v (.int .i64 c)] (.v (.string r)) := lib_strings_Repeat Tryd.strings_Repeat s c r h

set_option maxHeartbeats 1000000 in
theorem ok_strings_Builder_WriteString (xs : List Int) (s : ByteArray) (r : List Int) (h : appO 1 xs (sbytes s) = some r) : FnP Tryd.prog 27 [.hid (bldT 48 5 false (List.map (Value.int .u8) xs)), .v (.string s)] [.hid (bldT 48 5 false (List.map (Value.int .u8) r))] (.tup [.v (.int .i64 (s.size : Int)), .v .nilIface]) := by
  refine FnP.bldW ?_
  refine fn_okP Tryd.func27 rfl (Nat.le_of_ble_eq_true rfl) rfl (Nat.le_of_ble_eq_true rfl) fun args0 hargs0 g0 hn hio => ?_
  refine ht_seq ?_
  refine ht_seqR hn (El := [_, _, _, (4, .v (.int .i64 0)), (5, .v .nilIface)]) (init := [0, 1, 2]) (fin := [0, 1, 2]) (sps := [⟨[], [], [3], [(.slot 4)]⟩, ⟨[], [], [4], [(.slot 5)]⟩]) (es' := [(_, _), (_, _), (_, _)]) (by kernel_rfl) rfl rfl
   ⟨st_plain rfl (op_assign _ _ _ _ rfl rfl),
   st_plain rfl (op_assign _ _ _ _ rfl rfl),
   trivial⟩ ?_
  refine pt_then ?_
  refine ht_seq ?_
  refine ht_seqR hn (El := [_, _, _, (6, .same (.slot 0)), (0, .hid (bldT 48 5 true (List.map (Value.int .u8) xs))), (7, .tup [])]) (init := [0, 1, 2]) (fin := [4, 1, 2]) (sps := [⟨[], [], [3], [(.slot 6)]⟩, ⟨[3], [0], [4, 5], [(.slot 7)]⟩]) (es' := [(0, .hid (bldT 48 5 true (List.map (Value.int .u8) xs))), (_, _), (_, _)]) (by kernel_rfl) rfl rfl
   ⟨st_plain rfl (op_move_name _ _ _ rfl),
   st_plain rfl (op_callPS _ _ _ _ 7 38 [.tmp 6] [] _ _ _ rfl Tryd.call38 rfl rfl rfl (ok_strings_Builder_copyCheck _) (Nat.le_of_ble_eq_true rfl) rfl rfl rfl rfl rfl rfl rfl),
   trivial⟩ ?_
  refine pt_then ?_
  refine ht_bld_box 0 rfl ?_
  refine ht_seq ?_
  refine ht_seqR hn (El := (_ :: _ :: _ :: (8, .ptr 0 0) :: (9, .ptr 0 0) :: (10, .ptr 0 0) :: (11, .ptr 0 1) :: (12, .same (.cell 0 1)) :: (13, .v (.string s)) :: (14, .fl (.own 5) 1 (List.map (Value.int .u8) r)) :: (0, .box 48 [.ptr 0 0, .any]) :: (15, .ptr 0 0) :: (16, .ptr 0 1) :: (0, .box 48 [.ptr 0 0, .fl (.own 5) 1 (List.map (Value.int .u8) r)]) :: [])) (init := [0, 1, 2]) (fin := [13, 1, 2]) (sps := [⟨[0], [], [3], [(.slot 8)]⟩, ⟨[0], [], [4], [(.slot 9)]⟩, ⟨[4, 0], [], [5], [(.slot 10)]⟩, ⟨[5, 0], [], [6], [(.slot 11)]⟩, ⟨[6, 0], [], [7], [(.slot 12)]⟩, ⟨[1], [], [8], [(.slot 13)]⟩, ⟨[7, 8], [0], [10, 9], [(.slot 14)]⟩, ⟨[3, 10], [], [11], [(.slot 15)]⟩, ⟨[11, 10], [], [12], [(.slot 16)]⟩, ⟨[12], [7, 9, 10], [13], [.cell 0 1]⟩]) (es' := [(0, .box 48 [.ptr 0 0, .fl (.own 5) 1 (List.map (Value.int .u8) r)]), (_, _), (_, _)]) (by kernel_rfl) rfl rfl
   ⟨st_plain rfl (op_move _ _ _ _ rfl rfl),
   st_plain rfl (op_move _ _ _ _ rfl rfl),
   st_plain rfl (op_nilCheck _ _ _ 0 0 rfl (by decide)),
   st_plain rfl (op_fieldAddr _ _ _ _ 0 0 _ Tryd.underlying48 rfl sz22 rfl rfl (by decide)),
   st_plain rfl (op_load _ _ _ _ _ _ Tryd.underlying22 rfl rfl rfl (Nat.le_of_ble_eq_true rfl) rfl rfl rfl),
   st_plain rfl (op_move _ _ _ _ rfl rfl),
   st_plain rfl (op_apps_cell _ _ _ _ _ _ el22 zr5 Tryd.underlying9 rfl rfl (Nat.le_of_ble_eq_true rfl) rfl rfl h rfl (by decide) rfl rfl),
   st_plain rfl (op_nilCheck _ _ _ 0 0 rfl (by decide)),
   st_plain rfl (op_fieldAddr _ _ _ _ 0 0 _ Tryd.underlying48 rfl sz22 rfl rfl (by decide)),
   st_plain rfl (LOp.drop [_] (op_store_take _ _ _ _ _ _ _ _ sz22 rfl rfl rfl (Nat.le_of_ble_eq_true rfl) rfl rfl)),
   trivial⟩ ?_
  refine pt_then ?_
  refine ht_seq ?_
  refine ht_seqR hn (El := [_, _, _, (17, .v (.string s)), (18, .v (.int .i64 (s.size : Int))), (4, .v (.int .i64 (s.size : Int))), (5, .v .nilIface)]) (init := [0, 1, 2]) (fin := [0, 2, 5, 6]) (sps := [⟨[1], [], [3], [(.slot 17)]⟩, ⟨[3], [], [4], [(.slot 18)]⟩, ⟨[4], [], [5], [(.slot 4)]⟩, ⟨[], [], [6], [(.slot 5)]⟩]) (es' := [(_, _), (_, _), (4, .v (.int .i64 (s.size : Int))), (5, .v .nilIface)]) (by kernel_rfl) rfl rfl
   ⟨st_plain rfl (op_move _ _ _ _ rfl rfl),
   st_plain rfl (op_len_str _ _ _ Tryd.underlying9 rfl),
   st_plain rfl (op_assign _ _ _ _ rfl rfl),
   st_plain rfl (op_assign _ _ _ _ rfl rfl),
   trivial⟩ ?_
  refine pt_then ?_
  refine ht_ret ?_
  refine pt_bld 0 ?_
  refine pt_pick [2, 3, 0, 1] (by kernel_rfl) (es' := [(_, _), (_, _), (_, _), (_, _)]) rfl ?_
  exact pt_retP (es := [(4, .v (.int .i64 (s.size : Int))), (5, .v .nilIface)]) (posts := [.hid (bldT 48 5 true (List.map (Value.int .u8) r))]) hio rfl rfl (.tmp _ _ (.tmp _ _ .nil)) rfl rfl hargs0 rfl

set_option maxHeartbeats 1000000 in
theorem ok_strings_Builder_String (xs : List Int) (s : ByteArray) (h : strO xs = some s) : FnP Tryd.prog 29 [.hid (bldT 48 5 false (List.map (Value.int .u8) xs))] [] (.v (.string s)) := by
  refine fn_okP Tryd.func29 rfl (Nat.le_of_ble_eq_true rfl) rfl (Nat.le_of_ble_eq_true rfl) fun args0 hargs0 g0 hn hio => ?_
  refine ht_bld_row 0 fun v => ?_
  refine ht_seq ?_
  refine ht_seqR hn (El := [_, (2, .v (.string ByteArray.empty))]) (init := [0]) (fin := [0]) (sps := [⟨[], [], [1], [(.slot 2)]⟩]) (es' := [(_, _)]) (by kernel_rfl) rfl rfl
   ⟨st_plain rfl (op_assign _ _ _ _ rfl rfl),
   trivial⟩ ?_
  refine pt_then ?_
  refine ht_seq ?_
  refine ht_anyR (by kernel_rfl) hn (El := [_, (3, .same (.slot 0)), (4, .ptr 0 0), (5, .ptr 0 1), (6, .v v), (7, .hid (usdT v)), (8, .same (.slot 0)), (9, .ptr 0 0), (10, .ptr 0 1), (11, .v v), (12, .v (.int .i64 ((List.map (Value.int .u8) xs).length : Int))), (13, .v (.string s)), (2, .v (.string s))]) (init := [0]) (fin := [12]) (sps := [⟨[], [], [1], [(.slot 3)]⟩, ⟨[1, 0], [], [2], [(.slot 4)]⟩, ⟨[2], [], [3], [(.slot 5)]⟩, ⟨[3, 0], [], [4], [(.slot 6)]⟩, ⟨[4, 0], [], [5], [(.slot 7)]⟩, ⟨[], [], [6], [(.slot 8)]⟩, ⟨[6, 0], [], [7], [(.slot 9)]⟩, ⟨[7], [], [8], [(.slot 10)]⟩, ⟨[8, 0], [], [9], [(.slot 11)]⟩, ⟨[9, 0], [], [10], [(.slot 12)]⟩, ⟨[5, 10], [0], [11], [(.slot 13)]⟩, ⟨[11], [], [12], [(.slot 2)]⟩]) (es' := [(2, .v (.string s))]) (by kernel_rfl) rfl rfl
   ⟨st_plain rfl (op_move_name _ _ _ rfl),
   st_plain rfl (op_nilCheck_bld _ _ _ 0 rfl rfl (by decide)),
   st_plain rfl (op_fieldAddr _ _ _ _ 0 0 _ Tryd.underlying48 rfl sz22 rfl rfl (by decide)),
   st_plain rfl (op_load_bld _ _ _ 0 Tryd.underlying22 rfl rfl rfl),
   st_plain rfl (op_usd _ _ 0 Tryd.underlying72 rfl rfl),
   st_plain rfl (op_move_name _ _ _ rfl),
   st_plain rfl (op_nilCheck_bld _ _ _ 0 rfl rfl (by decide)),
   st_plain rfl (op_fieldAddr _ _ _ _ 0 0 _ Tryd.underlying48 rfl sz22 rfl rfl (by decide)),
   st_plain rfl (op_load_bld _ _ _ 0 Tryd.underlying22 rfl rfl rfl),
   st_plain rfl (op_len_bld _ _ 0 Tryd.underlying22 rfl rfl),
   st_plain rfl (op_ustr _ _ 0 Tryd.underlying72 (by kernel_rfl) rfl rfl h),
   st_plain rfl (op_assign _ _ _ _ rfl rfl),
   trivial⟩ ?_
  refine pt_then ?_
  refine ht_ret ?_
  exact pt_retP (es := [(2, .v (.string s))]) (posts := []) hio rfl rfl (.tmp _ _ .nil) rfl rfl hargs0 rfl

set_option maxHeartbeats 1000000 in
theorem ok_cram_Encode (b : (List Int)) (r : ByteArray) (h : Sh.cram_Encode b = some r) : FnOK Tryd.prog 12 [.fl .shr 1 (List.map (Value.int .u8) b)] (.v (.string r)) := by
  unfold Sh.cram_Encode at h
  refine fn_ok Tryd.func12 rfl (Nat.le_of_ble_eq_true rfl) rfl rfl fun g0 hn hio => ?_
  refine ht_seq ?_
  refine ht_seqR hn (El := [_, (2, .v (.string (⟨#[]⟩ : ByteArray)))]) (init := [0]) (fin := [0]) (sps := [⟨[], [], [1], [(.slot 2)]⟩]) (es' := [(_, _)]) (by kernel_rfl) rfl rfl
   ⟨st_plain rfl (op_assign _ _ _ _ rfl rfl),
   trivial⟩ ?_
  refine pt_then ?_
  refine ht_seq ?_
  refine ht_seqR hn (El := [_, (3, .hid (bldT 48 5 false (List.map (Value.int .u8) ([] : List Int))))]) (init := [0]) (fin := [0, 1]) (sps := [⟨[], [], [1], [(.slot 3)]⟩]) (es' := [(_, _), (3, .hid (bldT 48 5 false (List.map (Value.int .u8) ([] : List Int))))]) (by kernel_rfl) rfl rfl
   ⟨st_plain rfl (LOp.bld0 (op_alloc _ _ zr48)),
   trivial⟩ ?_
  refine pt_then ?_
  refine ht_seq ?_
  refine ht_seq ?_
  refine ht_seqR hn (El := [_, _, (4, .v (.int .i64 0))]) (init := [0, 1]) (fin := [0, 1, 2]) (sps := [⟨[], [], [2], [(.slot 4)]⟩]) (es' := [(_, _), (_, _), (4, .v (.int .i64 0))]) (by kernel_rfl) rfl rfl
   ⟨st_plain rfl (op_assign _ _ _ _ rfl rfl),
   trivial⟩ ?_
  refine pt_then ?_
  refine ht_loopS h (fun ((s89, s90) : (List Int) × Int) => [(0, .fl .shr 1 (List.map (Value.int .u8) b)), (3, .hid (bldT 48 5 false (List.map (Value.int .u8) s89))), (4, .v (.int .i64 s90))]) (fun (s122 : (List Int)) => [(3, .hid (bldT 48 5 false (List.map (Value.int .u8) s122)))]) ?_ ?_
  ·rintro s122 h
   refine pt_then ?_
   refine ht_seq ?_
   obtain ⟨v160, hv160, h⟩ := bind_some h
   refine ht_seqR hn (El := [_, (60, .v (.string v160)), (2, .v (.string v160))]) (init := [0]) (fin := [2]) (sps := [⟨[], [0], [1], [(.slot 60)]⟩, ⟨[1], [], [2], [(.slot 2)]⟩]) (es' := [(2, .v (.string v160))]) (by kernel_rfl) rfl rfl
    ⟨st_plain rfl (op_callPS _ _ _ _ 60 29 [.tmp 3] [] _ _ _ rfl Tryd.call29 rfl rfl rfl (ok_strings_Builder_String s122 _ hv160) (Nat.le_of_ble_eq_true rfl) rfl rfl rfl rfl rfl rfl rfl),
    st_plain rfl (op_assign _ _ _ _ rfl rfl),
    trivial⟩ ?_
   refine pt_then ?_
   refine ht_ret ?_
   obtain rfl := Option.some.inj h
   exact pt_ret hio rfl (.tmp _ _ .nil) rfl rfl
  ·rintro u123 hl124 hr125 ⟨s89, s90⟩ rr128 h ho126
   refine ht_seq ?_
   refine ht_seq ?_
   refine ht_seqR hn (El := [_, _, _, (10, .v (.int .i64 s90)), (11, .fl .shr 1 (List.map (Value.int .u8) b)), (12, .v (.int .i64 (b.length : Int))), (13, .v (.bool ((decide (s90 < (b.length : Int))))))]) (init := [0, 1, 2]) (fin := [0, 1, 2, 6]) (sps := [⟨[2], [], [3], [(.slot 10)]⟩, ⟨[0], [], [4], [(.slot 11)]⟩, ⟨[4], [], [5], [(.slot 12)]⟩, ⟨[3, 5], [], [6], [(.slot 13)]⟩]) (es' := [(_, _), (_, _), (_, _), (13, .v (.bool ((decide (s90 < (b.length : Int))))))]) (by kernel_rfl) rfl rfl
    ⟨st_plain rfl (op_move _ _ _ _ rfl rfl),
    st_plain rfl (op_move _ _ _ _ rfl rfl),
    st_plain rfl (op_len_fl _ _ _ Tryd.underlying22 rfl (by decide) (map_len _)),
    st_plain rfl (op_bin _ _ _ _ _ rfl rfl rfl),
    trivial⟩ ?_
   refine pt_then ?_
   refine ht_cond _ rfl (fun hb129 => ?_) (fun hb129 => ?_)
   ·have h := cond_t hb129 h
    refine ht_skip ?_
    refine pt_then ?_
    refine ht_seq ?_
    refine ht_block ?_
    refine ht_seq ?_
    obtain ⟨v2, hv2, h⟩ := bind_some h
    obtain ⟨v3, hv3, h⟩ := bind_some h
    refine ht_seqR hn (El := [_, _, _, _, (16, .fl .shr 1 (List.map (Value.int .u8) b)), (17, .v (.int .i64 (b.length : Int))), (18, .v (.int .i64 s90)), (19, .v (.int .i64 v2)), (20, .v (.int .i64 v3)), (5, .v (.int .i64 v3))]) (init := [0, 1, 2, 3]) (fin := [0, 1, 2, 9]) (sps := [⟨[0], [], [4], [(.slot 16)]⟩, ⟨[4], [], [5], [(.slot 17)]⟩, ⟨[2], [], [6], [(.slot 18)]⟩, ⟨[5, 6], [], [7], [(.slot 19)]⟩, ⟨[7], [], [8], [(.slot 20)]⟩, ⟨[8], [], [9], [(.slot 5)]⟩]) (es' := [(_, _), (_, _), (_, _), (5, .v (.int .i64 v3))]) (by kernel_rfl) rfl rfl
     ⟨st_plain rfl (op_move _ _ _ _ rfl rfl),
     st_plain rfl (op_len_fl _ _ _ Tryd.underlying22 rfl (by decide) (map_len _)),
     st_plain rfl (op_move _ _ _ _ rfl rfl),
     st_plain rfl (op_bin _ _ _ _ _ rfl rfl (ibind (f := Value.int .i64) (Option.some.inj hv2))),
     st_plain rfl ((Option.some.inj hv3) ▸ op_min _ _ _ _ rfl rfl),
     st_plain rfl (op_assign _ _ _ _ rfl rfl),
     trivial⟩ ?_
    refine pt_then ?_
    refine ht_seq ?_
    refine ht_seqR hn (El := [_, _, _, _, (6, .v (.int .u32 0))]) (init := [0, 1, 2, 3]) (fin := [0, 1, 2, 3, 4]) (sps := [⟨[], [], [4], [(.slot 6)]⟩]) (es' := [(_, _), (_, _), (_, _), (_, _), (6, .v (.int .u32 0))]) (by kernel_rfl) rfl rfl
     ⟨st_plain rfl (op_assign _ _ _ _ rfl rfl),
     trivial⟩ ?_
    refine pt_then ?_
    refine ht_seq ?_
    refine ht_seq ?_
    obtain ⟨v4, hv4, h⟩ := bind_some h
    obtain ⟨v5, hv5, h⟩ := bind_some h
    refine ht_seqR hn (El := [_, _, _, _, _, (21, .fl .shr 1 (List.map (Value.int .u8) b)), (22, .v (.int .i64 s90)), (23, .v (.int .i64 s90)), (24, .v (.int .i64 v3)), (25, .v (.int .i64 v4)), (26, .fl .shr 1 (List.map (Value.int .u8) v5)), (27, .v (.int .i64 (v5.length : Int))), (28, .v (.int .i64 0))]) (init := [0, 1, 2, 3, 4]) (fin := [0, 1, 2, 3, 4, 10, 11, 12]) (sps := [⟨[0], [], [5], [(.slot 21)]⟩, ⟨[2], [], [6], [(.slot 22)]⟩, ⟨[2], [], [7], [(.slot 23)]⟩, ⟨[3], [], [8], [(.slot 24)]⟩, ⟨[7, 8], [], [9], [(.slot 25)]⟩, ⟨[5, 6, 9], [], [10], [(.slot 26)]⟩, ⟨[10], [], [11], [(.slot 27)]⟩, ⟨[], [], [12], [(.slot 28)]⟩]) (es' := [(_, _), (_, _), (_, _), (_, _), (_, _), (26, .fl .shr 1 (List.map (Value.int .u8) v5)), (27, .v (.int .i64 (v5.length : Int))), (28, .v (.int .i64 0))]) (by kernel_rfl) rfl rfl
     ⟨st_plain rfl (op_move _ _ _ _ rfl rfl),
     st_plain rfl (op_move _ _ _ _ rfl rfl),
     st_plain rfl (op_move _ _ _ _ rfl rfl),
     st_plain rfl (op_move _ _ _ _ rfl rfl),
     st_plain rfl (op_bin _ _ _ _ _ rfl rfl (ibind (f := Value.int .i64) (Option.some.inj hv4))),
     st_plain rfl (op_sl _ _ _ s90 v4 _ Tryd.underlying22 sz5 rfl rfl ⟨_, rfl⟩ ⟨_, rfl⟩ hv5),
     st_plain rfl (op_len_fl _ _ _ Tryd.underlying22 rfl (by decide) (map_len _)),
     st_plain rfl (op_move _ _ _ _ rfl rfl),
     trivial⟩ ?_
    refine pt_then ?_
    refine ht_loopS h (fun ((s134, s135) : Int × Int) => [(0, .fl .shr 1 (List.map (Value.int .u8) b)), (3, .hid (bldT 48 5 false (List.map (Value.int .u8) s89))), (4, .v (.int .i64 s90)), (5, .v (.int .i64 v3)), (6, .v (.int .u32 s134)), (26, .fl .shr 1 (List.map (Value.int .u8) v5)), (27, .v (.int .i64 (v5.length : Int))), (28, .v (.int .i64 s135))]) (fun (s137 : Int) => [(0, .fl .shr 1 (List.map (Value.int .u8) b)), (3, .hid (bldT 48 5 false (List.map (Value.int .u8) s89))), (4, .v (.int .i64 s90)), (5, .v (.int .i64 v3)), (6, .v (.int .u32 s137))]) ?_ ?_
    ·rintro s137 h
     refine pt_then ?_
     refine ht_seq ?_
     refine ht_seq ?_
     obtain ⟨v29, hv29, h⟩ := bind_some h
     refine ht_seqR hn (El := [_, _, _, _, _, (42, .v (.int .i64 v3)), (43, .v (.int .i64 v29)), (44, .v (.int .i64 0))]) (init := [0, 1, 2, 3, 4]) (fin := [0, 1, 2, 3, 4, 6, 7]) (sps := [⟨[3], [], [5], [(.slot 42)]⟩, ⟨[5], [], [6], [(.slot 43)]⟩, ⟨[], [], [7], [(.slot 44)]⟩]) (es' := [(_, _), (_, _), (_, _), (_, _), (_, _), (43, .v (.int .i64 v29)), (44, .v (.int .i64 0))]) (by kernel_rfl) rfl rfl
      ⟨st_plain rfl (op_move _ _ _ _ rfl rfl),
      st_plain rfl (op_bin _ _ _ _ _ rfl rfl (ibind (f := Value.int .i64) (Option.some.inj hv29))),
      st_plain rfl (op_move _ _ _ _ rfl rfl),
      trivial⟩ ?_
     refine pt_then ?_
     refine ht_loopS h (fun ((s149, s150) : (List Int) × Int) => [(0, .fl .shr 1 (List.map (Value.int .u8) b)), (3, .hid (bldT 48 5 false (List.map (Value.int .u8) s149))), (4, .v (.int .i64 s90)), (5, .v (.int .i64 v3)), (6, .v (.int .u32 s137)), (43, .v (.int .i64 v29)), (44, .v (.int .i64 s150))]) (fun (s152 : (List Int)) => [(0, .fl .shr 1 (List.map (Value.int .u8) b)), (3, .hid (bldT 48 5 false (List.map (Value.int .u8) s152))), (4, .v (.int .i64 s90)), (5, .v (.int .i64 v3))]) ?_ ?_
     ·rintro s152 h
      refine pt_then ?_
      obtain ⟨v52, hv52, h⟩ := bind_some h
      obtain ⟨v53, hv53, h⟩ := bind_some h
      obtain ⟨v54, hv54, h⟩ := bind_some h
      refine ht_seqR hn (El := [_, _, _, _, (56, .v (.int .i64 v3)), (57, .v (.int .i64 v52)), (58, .v (.string v53)), (59, .tup [.v (.int .i64 (v53.size : Int)), .v (.nilIface)]), (3, .hid (bldT 48 5 false (List.map (Value.int .u8) v54)))]) (init := [0, 1, 2, 3]) (fin := [0, 8, 2]) (sps := [⟨[3], [], [4], [(.slot 56)]⟩, ⟨[4], [], [5], [(.slot 57)]⟩, ⟨[5], [], [6], [(.slot 58)]⟩, ⟨[6], [1], [8, 7], [(.slot 59)]⟩]) (es' := [(_, _), (3, .hid (bldT 48 5 false (List.map (Value.int .u8) v54))), (_, _)]) (by kernel_rfl) rfl rfl
       ⟨st_plain rfl (op_move _ _ _ _ rfl rfl),
       st_plain rfl (op_bin _ _ _ _ _ rfl rfl (ibind (f := Value.int .i64) (Option.some.inj hv52))),
       st_plain rfl (op_call _ _ 28 _ _ rfl Tryd.call28 rfl (ok_strings_Repeat (⟨#[61]⟩ : ByteArray) v52 _ hv53) rfl rfl),
       st_plain rfl (op_callPS _ _ _ _ 59 27 [.tmp 3] [.tmp 58] _ _ _ rfl Tryd.call27 rfl rfl rfl (ok_strings_Builder_WriteString s152 v53 _ hv54) (Nat.le_of_ble_eq_true rfl) rfl rfl rfl rfl rfl rfl rfl),
       trivial⟩ ?_
      refine pt_inb ?_
      refine pt_then ?_
      obtain ⟨v55, hv55, h⟩ := bind_some h
      refine ht_seqR hn (El := [_, _, _, (14, .v (.int .i64 s90)), (15, .v (.int .i64 v55)), (4, .v (.int .i64 v55))]) (init := [0, 1, 2]) (fin := [0, 1, 5]) (sps := [⟨[2], [], [3], [(.slot 14)]⟩, ⟨[3], [], [4], [(.slot 15)]⟩, ⟨[4], [2], [5], [(.slot 4)]⟩]) (es' := [(_, _), (_, _), (4, .v (.int .i64 v55))]) (by kernel_rfl) rfl rfl
       ⟨st_plain rfl (op_move _ _ _ _ rfl rfl),
       st_plain rfl (op_bin _ _ _ _ _ rfl rfl (ibind (f := Value.int .i64) (Option.some.inj hv55))),
       st_plain rfl (LOp.drop [_] (op_assign _ _ _ _ rfl rfl)),
       trivial⟩ ?_
      exact pt_next _ (Option.some.inj h).symm rfl
     ·rintro u153 hl154 hr155 ⟨s149, s150⟩ rr158 h ho156
      refine ht_seq ?_
      refine ht_seqR hn (El := [_, _, _, _, _, _, _, (45, .v (.bool ((decide (s150 < v29)))))]) (init := [0, 1, 2, 3, 4, 5, 6]) (fin := [0, 1, 2, 3, 4, 5, 6, 7]) (sps := [⟨[6, 5], [], [7], [(.slot 45)]⟩]) (es' := [(_, _), (_, _), (_, _), (_, _), (_, _), (_, _), (_, _), (45, .v (.bool ((decide (s150 < v29)))))]) (by kernel_rfl) rfl rfl
       ⟨st_plain rfl (op_bin _ _ _ _ _ rfl rfl rfl),
       trivial⟩ ?_
      refine pt_then ?_
      refine ht_seq ?_
      refine ht_cond _ rfl (fun hb159 => ?_) (fun hb159 => ?_)
      ·have h := cond_t hb159 h
       refine ht_skip ?_
       refine pt_then ?_
       refine ht_seq ?_
       refine ht_block ?_
       refine ht_seq ?_
       refine ht_seqR hn (El := [_, _, _, _, _, _, _, _, (46, .v (.int .i64 s150)), (9, .v (.int .i64 s150))]) (init := [0, 1, 2, 3, 4, 5, 6, 7]) (fin := [0, 1, 2, 3, 4, 5, 6, 9]) (sps := [⟨[6], [], [8], [(.slot 46)]⟩, ⟨[8], [], [9], [(.slot 9)]⟩]) (es' := [(_, _), (_, _), (_, _), (_, _), (_, _), (_, _), (_, _), (9, .v (.int .i64 s150))]) (by kernel_rfl) rfl rfl
        ⟨st_plain rfl (op_move _ _ _ _ rfl rfl),
        st_plain rfl (op_assign _ _ _ _ rfl rfl),
        trivial⟩ ?_
       refine pt_then ?_
       obtain ⟨v31, hv31, h⟩ := bind_some h
       obtain ⟨v32, hv32, h⟩ := bind_some h
       obtain ⟨v33, hv33, h⟩ := bind_some h
       obtain ⟨v34, hv34, h⟩ := bind_some h
       obtain ⟨v35, hv35, h⟩ := bind_some h
       obtain ⟨v36, hv36, h⟩ := bind_some h
       refine ht_seqR hn (El := (_ :: _ :: _ :: _ :: _ :: _ :: _ :: _ :: (47, .v (.int .u32 s137)) :: (48, .v (.int .i64 s150)) :: (49, .v (.int .i64 v31)) :: (50, .v (.int .i64 v32)) :: (51, .v (.int .u32 v33)) :: (52, .v (.int .u32 v34)) :: (53, .v (.int .u8 v35)) :: (54, .v (.nilIface)) :: (3, .hid (bldT 48 5 false (List.map (Value.int .u8) v36))) :: [])) (init := [0, 1, 2, 3, 4, 5, 6, 7]) (fin := [0, 16, 2, 3, 4, 5, 6]) (sps := [⟨[4], [], [8], [(.slot 47)]⟩, ⟨[7], [], [9], [(.slot 48)]⟩, ⟨[9], [], [10], [(.slot 49)]⟩, ⟨[10], [], [11], [(.slot 50)]⟩, ⟨[8, 11], [], [12], [(.slot 51)]⟩, ⟨[12], [], [13], [(.slot 52)]⟩, ⟨[13], [], [14], [(.slot 53)]⟩, ⟨[14], [1], [16, 15], [(.slot 54)]⟩]) (es' := [(_, _), (3, .hid (bldT 48 5 false (List.map (Value.int .u8) v36))), (_, _), (_, _), (_, _), (_, _), (_, _)]) (by kernel_rfl) rfl rfl
        ⟨st_plain rfl (op_move _ _ _ _ rfl rfl),
        st_plain rfl (op_move _ _ _ _ rfl rfl),
        st_plain rfl (op_bin _ _ _ _ _ rfl rfl (ibind (f := Value.int .i64) (Option.some.inj hv31))),
        st_plain rfl (op_bin _ _ _ _ _ rfl rfl (ibind (f := Value.int .i64) (Option.some.inj hv32))),
        st_plain rfl (op_bin _ _ _ _ _ rfl rfl (shr_ok hv33)),
        st_plain rfl (op_bin _ _ _ _ _ rfl rfl (ibind (f := Value.int .u32) (Option.some.inj hv34))),
        st_plain rfl (op_chr _ _ _ v34 _ Tryd.underlying9 rfl rfl hv35),
        st_plain rfl (op_callPS _ _ _ _ 54 26 [.tmp 3] [.tmp 53] _ _ _ rfl Tryd.call26 rfl rfl rfl (ok_strings_Builder_WriteByte s149 v35 _ hv36) (Nat.le_of_ble_eq_true rfl) rfl rfl rfl rfl rfl rfl rfl),
        trivial⟩ ?_
       refine pt_inb ?_
       refine pt_then ?_
       obtain ⟨v37, hv37, h⟩ := bind_some h
       refine ht_seqR hn (El := [_, _, _, _, _, _, _, (55, .v (.int .i64 v37)), (44, .v (.int .i64 v37))]) (init := [0, 1, 2, 3, 4, 5, 6]) (fin := [0, 1, 2, 3, 4, 5, 8]) (sps := [⟨[6], [], [7], [(.slot 55)]⟩, ⟨[7], [6], [8], [(.slot 44)]⟩]) (es' := [(_, _), (_, _), (_, _), (_, _), (_, _), (_, _), (44, .v (.int .i64 v37))]) (by kernel_rfl) rfl rfl
        ⟨st_plain rfl (op_bin _ _ _ _ _ rfl rfl (ibind (f := Value.int .i64) (Option.some.inj hv37))),
        st_plain rfl (LOp.drop [_] (op_move _ _ _ _ rfl rfl)),
        trivial⟩ ?_
       exact pt_next _ (Option.some.inj h).symm rfl
      ·have h := cond_f hb159 h
       refine ht_exit ?_
       refine pt_x_then ?_
       refine pt_x_then ?_
       refine pt_x_in ?_
       refine pt_pick [0, 1, 2, 3] (by kernel_rfl) (es' := [(_, _), (_, _), (_, _), (_, _)]) rfl ?_
       exact hl154 _ (ho156 _ (Option.some.inj h).symm).symm
    ·rintro u138 hl139 hr140 ⟨s134, s135⟩ rr143 h ho141
     refine ht_seq ?_
     refine ht_seqR hn (El := [_, _, _, _, _, _, _, _, (29, .v (.bool ((decide (s135 < (v5.length : Int))))))]) (init := [0, 1, 2, 3, 4, 5, 6, 7]) (fin := [0, 1, 2, 3, 4, 5, 6, 7, 8]) (sps := [⟨[7, 6], [], [8], [(.slot 29)]⟩]) (es' := [(_, _), (_, _), (_, _), (_, _), (_, _), (_, _), (_, _), (_, _), (29, .v (.bool ((decide (s135 < (v5.length : Int))))))]) (by kernel_rfl) rfl rfl
      ⟨st_plain rfl (op_bin _ _ _ _ _ rfl rfl rfl),
      trivial⟩ ?_
     refine pt_then ?_
     refine ht_seq ?_
     refine ht_cond _ rfl (fun hb144 => ?_) (fun hb144 => ?_)
     ·have h := cond_t hb144 h
      refine ht_skip ?_
      refine pt_then ?_
      refine ht_seq ?_
      refine ht_block ?_
      refine ht_seq ?_
      obtain ⟨v7, hv7, h⟩ := bind_some h
      obtain ⟨v8, hv8, h⟩ := bind_some h
      refine ht_seqR hn (El := [_, _, _, _, _, _, _, _, _, (30, .v (.int .i64 s135)), (31, .eref (.slot 26) (v7 * 1)), (32, .v (.int .u8 v8)), (7, .v (.int .i64 s135)), (8, .v (.int .u8 v8))]) (init := [0, 1, 2, 3, 4, 5, 6, 7, 8]) (fin := [0, 1, 2, 3, 4, 5, 6, 7, 12, 13]) (sps := [⟨[7], [], [9], [(.slot 30)]⟩, ⟨[5, 7], [], [10], [(.slot 31)]⟩, ⟨[10, 5], [], [11], [(.slot 32)]⟩, ⟨[9], [], [12], [(.slot 7)]⟩, ⟨[11], [], [13], [(.slot 8)]⟩]) (es' := [(_, _), (_, _), (_, _), (_, _), (_, _), (_, _), (_, _), (_, _), (7, .v (.int .i64 s135)), (8, .v (.int .u8 v8))]) (by kernel_rfl) rfl rfl
       ⟨st_plain rfl (op_move _ _ _ _ rfl rfl),
       st_plain rfl (op_ix _ _ _ _ _ _ _ _ Tryd.underlying22 sz5 (by decide) rfl rfl rfl (ix_ok hv7).1 (map_lt (ix_ok hv7).2) rfl),
       st_plain rfl (op_load_e _ _ _ _ _ _ Tryd.underlying5 rfl rfl rfl (map_get hv8)),
       st_plain rfl (op_assign _ _ _ _ rfl rfl),
       st_plain rfl (op_assign _ _ _ _ rfl rfl),
       trivial⟩ ?_
      refine pt_then ?_
      obtain ⟨v9, hv9, h⟩ := bind_some h
      obtain ⟨v10, hv10, h⟩ := bind_some h
      obtain ⟨v11, hv11, h⟩ := bind_some h
      obtain ⟨v12, hv12, h⟩ := bind_some h
      obtain ⟨v13, hv13, h⟩ := bind_some h
      refine ht_seqR hn (El := (_ :: _ :: _ :: _ :: _ :: _ :: _ :: _ :: _ :: _ :: (33, .v (.int .u32 s134)) :: (34, .v (.int .u8 v8)) :: (35, .v (.int .u32 v9)) :: (36, .v (.int .i64 s135)) :: (37, .v (.int .i64 v10)) :: (38, .v (.int .i64 v11)) :: (39, .v (.int .u32 v12)) :: (40, .v (.int .u32 v13)) :: (6, .v (.int .u32 v13)) :: [])) (init := [0, 1, 2, 3, 4, 5, 6, 7, 8, 9]) (fin := [0, 1, 2, 3, 5, 6, 7, 18]) (sps := [⟨[4], [], [10], [(.slot 33)]⟩, ⟨[9], [], [11], [(.slot 34)]⟩, ⟨[11], [], [12], [(.slot 35)]⟩, ⟨[8], [], [13], [(.slot 36)]⟩, ⟨[13], [], [14], [(.slot 37)]⟩, ⟨[14], [], [15], [(.slot 38)]⟩, ⟨[12, 15], [], [16], [(.slot 39)]⟩, ⟨[10, 16], [], [17], [(.slot 40)]⟩, ⟨[17], [4], [18], [(.slot 6)]⟩]) (es' := [(_, _), (_, _), (_, _), (_, _), (_, _), (_, _), (_, _), (6, .v (.int .u32 v13))]) (by kernel_rfl) rfl rfl
       ⟨st_plain rfl (op_move _ _ _ _ rfl rfl),
       st_plain rfl (op_move _ _ _ _ rfl rfl),
       st_plain rfl ((Option.some.inj hv9) ▸ op_conv _ _ _ Tryd.underlying5 Tryd.underlying49 rfl),
       st_plain rfl (op_move _ _ _ _ rfl rfl),
       st_plain rfl (op_bin _ _ _ _ _ rfl rfl (ibind (f := Value.int .i64) (Option.some.inj hv10))),
       st_plain rfl (op_bin _ _ _ _ _ rfl rfl (ibind (f := Value.int .i64) (Option.some.inj hv11))),
       st_plain rfl (op_bin _ _ _ _ _ rfl rfl (shl_ok hv12)),
       st_plain rfl (op_bin _ _ _ _ _ rfl rfl (ibind (f := Value.int .u32) (Option.some.inj hv13))),
       st_plain rfl (LOp.drop [_] (op_assign _ _ _ _ rfl rfl)),
       trivial⟩ ?_
      refine pt_inb ?_
      refine pt_then ?_
      obtain ⟨v14, hv14, h⟩ := bind_some h
      refine ht_seqR hn (El := [_, _, _, _, _, _, _, _, (41, .v (.int .i64 v14)), (28, .v (.int .i64 v14))]) (init := [0, 1, 2, 3, 4, 5, 6, 7]) (fin := [0, 1, 2, 3, 4, 5, 7, 9]) (sps := [⟨[6], [], [8], [(.slot 41)]⟩, ⟨[8], [6], [9], [(.slot 28)]⟩]) (es' := [(_, _), (_, _), (_, _), (_, _), (_, _), (_, _), (_, _), (28, .v (.int .i64 v14))]) (by kernel_rfl) rfl rfl
       ⟨st_plain rfl (op_bin _ _ _ _ _ rfl rfl (ibind (f := Value.int .i64) (Option.some.inj hv14))),
       st_plain rfl (LOp.drop [_] (op_move _ _ _ _ rfl rfl)),
       trivial⟩ ?_
      refine pt_pick [0, 1, 2, 3, 6, 4, 5, 7] (by kernel_rfl) (es' := [(_, _), (_, _), (_, _), (_, _), (_, _), (_, _), (_, _), (_, _)]) rfl ?_
      exact pt_next _ (Option.some.inj h).symm rfl
     ·have h := cond_f hb144 h
      refine ht_exit ?_
      refine pt_x_then ?_
      refine pt_x_then ?_
      refine pt_x_in ?_
      refine pt_pick [0, 1, 2, 3, 4] (by kernel_rfl) (es' := [(_, _), (_, _), (_, _), (_, _), (_, _)]) rfl ?_
      exact hl139 _ (ho141 _ (Option.some.inj h).symm).symm
   ·have h := cond_f hb129 h
    refine ht_exit ?_
    refine pt_x_then ?_
    refine pt_x_then ?_
    refine pt_x_in ?_
    refine pt_pick [1] (by kernel_rfl) (es' := [(_, _)]) rfl ?_
    exact hl124 _ (ho126 _ (Option.some.inj h).symm).symm

set_option maxHeartbeats 1000000 in
theorem ok_cram_Decode (mx : Int) (s : ByteArray) (r : ((List Int) × Int)) (h : Sh.cram_Decode s = some r) : FnG Tryd.prog (GL mx) 9 [.v (.string s)] (.tup [.fl (.own 5) 1 (List.map (Value.int .u8) r.1), .v (.int .i64 r.2)]) := by
  unfold Sh.cram_Decode at h
  refine fn_okG Tryd.func9 rfl (Nat.le_of_ble_eq_true rfl) rfl rfl fun g0 hn hio => ?_
  refine ht_seq ?_
  refine ht_seqR hn (El := [_, _, (2, .v (.slice none 0 0)), (3, .v (.int .i64 0))]) (init := [0, 1]) (fin := [0, 1]) (sps := [⟨[], [], [2], [(.slot 2)]⟩, ⟨[], [], [3], [(.slot 3)]⟩]) (es' := [(_, _), (_, _)]) (by kernel_rfl) rfl rfl
   ⟨st_plain rfl (op_assign _ _ _ _ rfl rfl),
   st_plain rfl (op_assign _ _ _ _ rfl rfl),
   trivial⟩ ?_
  refine pt_then ?_
  refine ht_seq ?_
  refine ht_seqR hn (El := [_, _, (4, .v (.slice none 0 0))]) (init := [0, 1]) (fin := [0, 1, 2]) (sps := [⟨[], [], [2], [(.slot 4)]⟩]) (es' := [(_, _), (_, _), (4, .v (.slice none 0 0))]) (by kernel_rfl) rfl rfl
   ⟨st_plain rfl (op_assign _ _ _ _ rfl rfl),
   trivial⟩ ?_
  refine pt_then ?_
  refine ht_seq ?_
  refine ht_seq ?_
  refine ht_seqR hn (El := [_, _, _, (5, .v (.int .i64 0))]) (init := [0, 1, 2]) (fin := [0, 1, 2, 3]) (sps := [⟨[], [], [3], [(.slot 5)]⟩]) (es' := [(_, _), (_, _), (_, _), (5, .v (.int .i64 0))]) (by kernel_rfl) rfl rfl
   ⟨st_plain rfl (op_assign _ _ _ _ rfl rfl),
   trivial⟩ ?_
  refine pt_then ?_
  refine ht_sub (fs := [(0, .v (.string s)), (27, .glob (GL mx)), (4, .fl (.own 5) 1 (List.map (Value.int .u8) [])), (5, .v (.int .i64 0))]) (.same _ (.same _ (.sub _ (sub_nil 5 1) rfl (.same _ .nil)))) ?_
  refine ht_loopS h (fun ((s12, s13) : (List Int) × Int) => [(0, .v (.string s)), (27, .glob (GL mx)), (4, .fl (.own 5) 1 (List.map (Value.int .u8) s12)), (5, .v (.int .i64 s13))]) (fun (s15 : (List Int)) => [(0, .v (.string s)), (27, .glob (GL mx)), (4, .fl (.own 5) 1 (List.map (Value.int .u8) s15))]) ?_ ?_
  ·rintro s15 h
   refine pt_then ?_
   refine ht_seq ?_
   refine ht_seq ?_
   obtain ⟨v23, hv23, h⟩ := bind_some h
   refine ht_seqR hn (El := [_, _, _, (22, .same (.slot 4)), (23, .v (.string v23)), (24, .v (.string s)), (25, .v (.bool ((!(v23.toList == s.toList)))))]) (init := [0, 1, 2]) (fin := [1, 2, 6]) (sps := [⟨[2], [], [3], [(.slot 22)]⟩, ⟨[3, 2], [], [4], [(.slot 23)]⟩, ⟨[0], [], [5], [(.slot 24)]⟩, ⟨[4, 5], [], [6], [(.slot 25)]⟩]) (es' := [(_, _), (_, _), (25, .v (.bool ((!(v23.toList == s.toList)))))]) (by kernel_rfl) rfl rfl
    ⟨st_plain rfl (op_move _ _ _ _ rfl rfl),
    st_plain rfl (op_call _ _ 12 _ _ rfl Tryd.call12 rfl (ok_cram_Encode s15 _ hv23) rfl rfl),
    st_plain rfl (op_move _ _ _ _ rfl rfl),
    st_plain rfl (op_bin _ _ _ _ _ rfl rfl rfl),
    trivial⟩ ?_
   refine pt_then ?_
   refine ht_cond _ rfl (fun hb24 => ?_) (fun hb24 => ?_)
   ·have h := cond_t hb24 h
    refine ht_seq ?_
    refine ht_seqR hn (El := [_, _, _, (2, .v (.slice none 0 0)), (3, .v (.int .i64 5))]) (init := [0, 1, 2]) (fin := [0, 3, 4]) (sps := [⟨[], [], [3], [(.slot 2)]⟩, ⟨[], [], [4], [(.slot 3)]⟩]) (es' := [(_, _), (2, .v (.slice none 0 0)), (3, .v (.int .i64 5))]) (by kernel_rfl) rfl rfl
     ⟨st_plain rfl (op_assign _ _ _ _ rfl rfl),
     st_plain rfl (op_assign _ _ _ _ rfl rfl),
     trivial⟩ ?_
    refine pt_then ?_
    refine ht_ret ?_
    refine pt_pick [1, 2] (by kernel_rfl) (es' := [(_, _), (_, _)]) rfl ?_
    refine pt_sub (fs := [(2, .fl (.own 5) 1 (List.map (Value.int .u8) [])), (3, .v (.int .i64 5))]) (.sub _ (sub_nil 5 1) rfl (.same _ .nil)) ?_
    refine pt_r_then ?_
    obtain rfl := Option.some.inj h
    exact pt_ret hio rfl (.tmp _ _ (.tmp _ _ .nil)) rfl rfl
   ·have h := cond_f hb24 h
    refine ht_skip ?_
    refine pt_then ?_
    refine ht_seq ?_
    refine ht_seqR hn (El := [_, _, _, (26, .fl (.own 5) 1 (List.map (Value.int .u8) s15)), (2, .fl (.own 5) 1 (List.map (Value.int .u8) s15)), (3, .v (.int .i64 0))]) (init := [0, 1, 2]) (fin := [0, 4, 5]) (sps := [⟨[], [1], [3], [(.slot 26)]⟩, ⟨[], [3], [4], [(.slot 2)]⟩, ⟨[], [], [5], [(.slot 3)]⟩]) (es' := [(_, _), (2, .fl (.own 5) 1 (List.map (Value.int .u8) s15)), (3, .v (.int .i64 0))]) (by kernel_rfl) rfl rfl
     ⟨st_plain rfl (op_move_take _ _ _ _ rfl),
     st_plain rfl (op_assign_take _ _ _ _ rfl),
     st_plain rfl (op_assign _ _ _ _ rfl rfl),
     trivial⟩ ?_
    refine pt_then ?_
    refine ht_ret ?_
    refine pt_pick [1, 2] (by kernel_rfl) (es' := [(_, _), (_, _)]) rfl ?_
    obtain rfl := Option.some.inj h
    exact pt_ret hio rfl (.tmp _ _ (.tmp _ _ .nil)) rfl rfl
  ·rintro u16 hl17 hr18 ⟨s12, s13⟩ rr21 h ho19
   refine ht_seq ?_
   refine ht_seq ?_
   obtain ⟨v1, hv1, h⟩ := bind_some h
   refine ht_seqR hn (El := [_, _, _, _, (6, .v (.int .i64 s13)), (7, .v (.int .i64 v1)), (8, .v (.string s)), (9, .v (.int .i64 (s.size : Int))), (10, .v (.bool ((decide (v1 ≤ (s.size : Int))))))]) (init := [0, 1, 2, 3]) (fin := [0, 1, 2, 3, 8]) (sps := [⟨[3], [], [4], [(.slot 6)]⟩, ⟨[4], [], [5], [(.slot 7)]⟩, ⟨[0], [], [6], [(.slot 8)]⟩, ⟨[6], [], [7], [(.slot 9)]⟩, ⟨[5, 7], [], [8], [(.slot 10)]⟩]) (es' := [(_, _), (_, _), (_, _), (_, _), (10, .v (.bool ((decide (v1 ≤ (s.size : Int))))))]) (by kernel_rfl) rfl rfl
    ⟨st_plain rfl (op_move _ _ _ _ rfl rfl),
    st_plain rfl (op_bin _ _ _ _ _ rfl rfl (ibind (f := Value.int .i64) (Option.some.inj hv1))),
    st_plain rfl (op_move _ _ _ _ rfl rfl),
    st_plain rfl (op_len_str _ _ _ Tryd.underlying9 rfl),
    st_plain rfl (op_bin _ _ _ _ _ rfl rfl rfl),
    trivial⟩ ?_
   refine pt_then ?_
   refine ht_cond _ rfl (fun hb22 => ?_) (fun hb22 => ?_)
   ·have h := cond_t hb22 h
    refine ht_skip ?_
    refine pt_then ?_
    refine ht_seq ?_
    refine ht_block ?_
    obtain ⟨v3, hv3, h⟩ := bind_some h
    obtain ⟨v4, hv4, h⟩ := bind_some h
    obtain ⟨v5, hv5, h⟩ := bind_some h
    obtain ⟨v6, hv6, h⟩ := bind_some h
    obtain ⟨v7, hv7, h⟩ := bind_some h
    refine ht_seqR hn (El := (_ :: _ :: _ :: _ :: _ :: (13, .fl (.own 5) 1 (List.map (Value.int .u8) s12)) :: (14, .v (.string s)) :: (15, .v (.int .i64 s13)) :: (16, .v (.int .i64 s13)) :: (17, .v (.int .i64 v3)) :: (18, .v (.string v4)) :: (19, .v (.string v5)) :: (20, .fl (.own 5) 1 (List.map (Value.int .u8) v6)) :: (21, .fl (.own 5) 1 (List.map (Value.int .u8) v7)) :: (13, .any) :: (4, .fl (.own 5) 1 (List.map (Value.int .u8) v7)) :: [])) (init := [0, 1, 2, 3, 4]) (fin := [0, 1, 3, 15]) (sps := [⟨[], [2], [5], [(.slot 13)]⟩, ⟨[0], [], [6], [(.slot 14)]⟩, ⟨[3], [], [7], [(.slot 15)]⟩, ⟨[3], [], [8], [(.slot 16)]⟩, ⟨[8], [], [9], [(.slot 17)]⟩, ⟨[6, 7, 9], [], [10], [(.slot 18)]⟩, ⟨[10, 1], [], [11], [(.slot 19)]⟩, ⟨[11], [], [12], [(.slot 20)]⟩, ⟨[12], [5], [14, 13], [(.slot 21)]⟩, ⟨[], [13], [15], [(.slot 4)]⟩]) (es' := [(_, _), (_, _), (_, _), (4, .fl (.own 5) 1 (List.map (Value.int .u8) v7))]) (by kernel_rfl) rfl rfl
     ⟨st_plain rfl (op_move_take _ _ _ _ rfl),
     st_plain rfl (op_move _ _ _ _ rfl rfl),
     st_plain rfl (op_move _ _ _ _ rfl rfl),
     st_plain rfl (op_move _ _ _ _ rfl rfl),
     st_plain rfl (op_bin _ _ _ _ _ rfl rfl (ibind (f := Value.int .i64) (Option.some.inj hv3))),
     st_plain rfl (op_substr _ _ _ s13 v3 _ Tryd.underlying9 rfl ⟨_, rfl⟩ ⟨_, rfl⟩ hv4),
     st_plain rfl (op_callG _ _ 27 23 _ _ rfl Tryd.call23 rfl rfl (fun _ h => h) (ok_strings_TrimRight mx v4 (⟨#[61]⟩ : ByteArray) _ hv5) rfl rfl),
     st_plain rfl (op_call _ _ 22 _ _ rfl Tryd.call22 rfl (ok_cram_decodeGroup v5 _ hv6) rfl rfl),
     st_plain rfl (op_app _ _ _ _ _ el22 rfl rfl (map_len _) (map_len _) hv7 ((List.map_append).symm.trans (congrArg (List.map _) (app_eq hv7)))),
     st_plain rfl (op_assign_take _ _ _ _ rfl),
     trivial⟩ ?_
    refine pt_inb ?_
    refine pt_then ?_
    obtain ⟨v8, hv8, h⟩ := bind_some h
    refine ht_seqR hn (El := [_, _, _, _, (11, .v (.int .i64 s13)), (12, .v (.int .i64 v8)), (5, .v (.int .i64 v8))]) (init := [0, 1, 2, 3]) (fin := [0, 1, 3, 6]) (sps := [⟨[2], [], [4], [(.slot 11)]⟩, ⟨[4], [], [5], [(.slot 12)]⟩, ⟨[5], [2], [6], [(.slot 5)]⟩]) (es' := [(_, _), (_, _), (_, _), (5, .v (.int .i64 v8))]) (by kernel_rfl) rfl rfl
     ⟨st_plain rfl (op_move _ _ _ _ rfl rfl),
     st_plain rfl (op_bin _ _ _ _ _ rfl rfl (ibind (f := Value.int .i64) (Option.some.inj hv8))),
     st_plain rfl (LOp.drop [_] (op_assign _ _ _ _ rfl rfl)),
     trivial⟩ ?_
    exact pt_next _ (Option.some.inj h).symm rfl
   ·have h := cond_f hb22 h
    refine ht_exit ?_
    refine pt_x_then ?_
    refine pt_x_then ?_
    refine pt_x_in ?_
    refine pt_pick [0, 1, 2] (by kernel_rfl) (es' := [(_, _), (_, _), (_, _)]) rfl ?_
    exact hl17 _ (ho19 _ (Option.some.inj h).symm).symm

set_option maxHeartbeats 1000000 in
theorem ok_wherryref08_signs (r : ByteArray) (h : Sh.wherryref08_signs  = some r) : FnOK Tryd.prog 30 [] (.v (.string r)) := by
  unfold Sh.wherryref08_signs at h
  refine fn_ok Tryd.func30 rfl (Nat.le_of_ble_eq_true rfl) rfl rfl fun g0 hn hio => ?_
  refine ht_seq ?_
  refine ht_seqR hn (El := [(0, .v (.string (⟨#[]⟩ : ByteArray)))]) (init := []) (fin := []) (sps := [⟨[], [], [0], [(.slot 0)]⟩]) (es' := []) (by kernel_rfl) rfl rfl
   ⟨st_plain rfl (op_assign _ _ _ _ rfl rfl),
   trivial⟩ ?_
  refine pt_then ?_
  refine ht_seq ?_
  refine ht_seqR hn (El := [(0, .v (.string (⟨#[65, 66, 67, 68, 69, 70, 71, 72, 73, 74, 75, 76, 77, 78, 79, 80, 81, 82, 83, 84, 85, 86, 87, 88, 89, 90, 97, 98, 99, 100, 101, 102, 103, 104, 105, 106, 107, 108, 109, 110, 111, 112, 113, 114, 115, 116, 117, 118, 119, 120, 121, 122, 48, 49, 50, 51, 52, 53, 54, 55, 56, 57, 43, 47]⟩ : ByteArray)))]) (init := []) (fin := [0]) (sps := [⟨[], [], [0], [(.slot 0)]⟩]) (es' := [(0, .v (.string (⟨#[65, 66, 67, 68, 69, 70, 71, 72, 73, 74, 75, 76, 77, 78, 79, 80, 81, 82, 83, 84, 85, 86, 87, 88, 89, 90, 97, 98, 99, 100, 101, 102, 103, 104, 105, 106, 107, 108, 109, 110, 111, 112, 113, 114, 115, 116, 117, 118, 119, 120, 121, 122, 48, 49, 50, 51, 52, 53, 54, 55, 56, 57, 43, 47]⟩ : ByteArray)))]) (by kernel_rfl) rfl rfl
   ⟨st_plain rfl (op_assign _ _ _ _ rfl rfl),
   trivial⟩ ?_
  refine pt_then ?_
  refine ht_ret ?_
  obtain rfl := Option.some.inj h
  exact pt_ret hio rfl (.tmp _ _ .nil) rfl rfl

set_option maxHeartbeats 1000000 in
theorem ok_wherryref08_value (c : Int) (r : Int) (h : Sh.wherryref08_value c = some r) : FnOK Tryd.prog 24 [.v (.int .u8 c)] (.v (.int .i64 r)) := by
  unfold Sh.wherryref08_value at h
  refine fn_ok Tryd.func24 rfl (Nat.le_of_ble_eq_true rfl) rfl rfl fun g0 hn hio => ?_
  refine ht_seq ?_
  refine ht_seqR hn (El := [_, (2, .v (.int .i64 0))]) (init := [0]) (fin := [0]) (sps := [⟨[], [], [1], [(.slot 2)]⟩]) (es' := [(_, _)]) (by kernel_rfl) rfl rfl
   ⟨st_plain rfl (op_assign _ _ _ _ rfl rfl),
   trivial⟩ ?_
  refine pt_then ?_
  refine ht_seq ?_
  obtain ⟨v1, hv1, h⟩ := bind_some h
  refine ht_seqR hn (El := [_, (5, .v (.string v1)), (3, .v (.string v1))]) (init := [0]) (fin := [0, 2]) (sps := [⟨[], [], [1], [(.slot 5)]⟩, ⟨[1], [], [2], [(.slot 3)]⟩]) (es' := [(_, _), (3, .v (.string v1))]) (by kernel_rfl) rfl rfl
   ⟨st_plain rfl (op_call _ _ 30 _ _ rfl Tryd.call30 rfl (ok_wherryref08_signs  _ hv1) rfl rfl),
   st_plain rfl (op_assign _ _ _ _ rfl rfl),
   trivial⟩ ?_
  refine pt_then ?_
  refine ht_seq ?_
  refine ht_seq ?_
  refine ht_seqR hn (El := [_, _, (4, .v (.int .i64 0))]) (init := [0, 1]) (fin := [0, 1, 2]) (sps := [⟨[], [], [2], [(.slot 4)]⟩]) (es' := [(_, _), (_, _), (4, .v (.int .i64 0))]) (by kernel_rfl) rfl rfl
   ⟨st_plain rfl (op_assign _ _ _ _ rfl rfl),
   trivial⟩ ?_
  refine pt_then ?_
  refine ht_loopS h (fun (s9 : Int) => [(0, .v (.int .u8 c)), (3, .v (.string v1)), (4, .v (.int .i64 s9))]) (fun (() : Unit) => []) ?_ ?_
  ·rintro ⟨⟩ h
   refine pt_then ?_
   refine ht_seq ?_
   refine ht_seqR hn (El := [(2, .v (.int .i64 (-1)))]) (init := []) (fin := [0]) (sps := [⟨[], [], [0], [(.slot 2)]⟩]) (es' := [(2, .v (.int .i64 (-1)))]) (by kernel_rfl) rfl rfl
    ⟨st_plain rfl (op_assign _ _ _ _ rfl rfl),
    trivial⟩ ?_
   refine pt_then ?_
   refine ht_ret ?_
   obtain rfl := Option.some.inj h
   exact pt_ret hio rfl (.tmp _ _ .nil) rfl rfl
  ·rintro u12 hl13 hr14 s9 rr17 h ho15
   refine ht_seq ?_
   refine ht_seq ?_
   refine ht_seqR hn (El := [_, _, _, (6, .v (.int .i64 s9)), (7, .v (.bool ((decide (s9 < 64)))))]) (init := [0, 1, 2]) (fin := [0, 1, 2, 4]) (sps := [⟨[2], [], [3], [(.slot 6)]⟩, ⟨[3], [], [4], [(.slot 7)]⟩]) (es' := [(_, _), (_, _), (_, _), (7, .v (.bool ((decide (s9 < 64)))))]) (by kernel_rfl) rfl rfl
    ⟨st_plain rfl (op_move _ _ _ _ rfl rfl),
    st_plain rfl (op_bin _ _ _ _ _ rfl rfl rfl),
    trivial⟩ ?_
   refine pt_then ?_
   refine ht_cond _ rfl (fun hb18 => ?_) (fun hb18 => ?_)
   ·have h := cond_t hb18 h
    refine ht_skip ?_
    refine pt_then ?_
    refine ht_seq ?_
    refine ht_block ?_
    refine ht_seq ?_
    obtain ⟨v3, hv3, h⟩ := bind_some h
    refine ht_seqR hn (El := [_, _, _, _, (10, .v (.string v1)), (11, .v (.int .i64 s9)), (12, .v (.int .u8 v3)), (13, .v (.int .u8 c)), (14, .v (.bool (v3 == c)))]) (init := [0, 1, 2, 3]) (fin := [0, 1, 2, 8]) (sps := [⟨[1], [], [4], [(.slot 10)]⟩, ⟨[2], [], [5], [(.slot 11)]⟩, ⟨[4, 5], [], [6], [(.slot 12)]⟩, ⟨[0], [], [7], [(.slot 13)]⟩, ⟨[6, 7], [], [8], [(.slot 14)]⟩]) (es' := [(_, _), (_, _), (_, _), (14, .v (.bool (v3 == c)))]) (by kernel_rfl) rfl rfl
     ⟨st_plain rfl (op_move _ _ _ _ rfl rfl),
     st_plain rfl (op_move _ _ _ _ rfl rfl),
     st_plain rfl (op_chr _ _ _ s9 _ Tryd.underlying9 rfl rfl hv3),
     st_plain rfl (op_move _ _ _ _ rfl rfl),
     st_plain rfl (op_bin _ _ _ _ _ rfl rfl rfl),
     trivial⟩ ?_
    refine pt_then ?_
    refine ht_cond _ rfl (fun hb19 => ?_) (fun hb19 => ?_)
    ·have h := cond_t hb19 h
     refine ht_seq ?_
     refine ht_seqR hn (El := [_, _, _, _, (15, .v (.int .i64 s9)), (2, .v (.int .i64 s9))]) (init := [0, 1, 2, 3]) (fin := [5]) (sps := [⟨[2], [], [4], [(.slot 15)]⟩, ⟨[4], [], [5], [(.slot 2)]⟩]) (es' := [(2, .v (.int .i64 s9))]) (by kernel_rfl) rfl rfl
      ⟨st_plain rfl (op_move _ _ _ _ rfl rfl),
      st_plain rfl (op_assign _ _ _ _ rfl rfl),
      trivial⟩ ?_
     refine pt_then ?_
     refine ht_ret ?_
     refine pt_r_in ?_
     refine pt_r_then ?_
     refine pt_r_then ?_
     refine pt_r_in ?_
     refine pt_r_then ?_
     have h := hr14 _ (ho15 _ (Option.some.inj h).symm).symm
     obtain rfl := Option.some.inj h
     exact pt_ret hio rfl (.tmp _ _ .nil) rfl rfl
    ·have h := cond_f hb19 h
     refine ht_skip ?_
     refine pt_inb ?_
     refine pt_then ?_
     obtain ⟨v5, hv5, h⟩ := bind_some h
     refine ht_seqR hn (El := [_, _, _, _, (8, .v (.int .i64 s9)), (9, .v (.int .i64 v5)), (4, .v (.int .i64 v5))]) (init := [0, 1, 2, 3]) (fin := [0, 1, 6]) (sps := [⟨[2], [], [4], [(.slot 8)]⟩, ⟨[4], [], [5], [(.slot 9)]⟩, ⟨[5], [2], [6], [(.slot 4)]⟩]) (es' := [(_, _), (_, _), (4, .v (.int .i64 v5))]) (by kernel_rfl) rfl rfl
      ⟨st_plain rfl (op_move _ _ _ _ rfl rfl),
      st_plain rfl (op_bin _ _ _ _ _ rfl rfl (ibind (f := Value.int .i64) (Option.some.inj hv5))),
      st_plain rfl (LOp.drop [_] (op_assign _ _ _ _ rfl rfl)),
      trivial⟩ ?_
     exact pt_next _ (Option.some.inj h).symm rfl
   ·have h := cond_f hb18 h
    refine ht_exit ?_
    refine pt_x_then ?_
    refine pt_x_then ?_
    refine pt_x_in ?_
    refine pt_pick [] (by kernel_rfl) (es' := []) rfl ?_
    exact hl13 _ (ho15 _ (Option.some.inj h).symm).symm

set_option maxHeartbeats 1000000 in
theorem ok_wherryref08_Encode (b : (List Int)) (r : ByteArray) (h : Sh.wherryref08_Encode b = some r) : FnOK Tryd.prog 13 [.fl .shr 1 (List.map (Value.int .u8) b)] (.v (.string r)) := by
  unfold Sh.wherryref08_Encode at h
  refine fn_ok Tryd.func13 rfl (Nat.le_of_ble_eq_true rfl) rfl rfl fun g0 hn hio => ?_
  refine ht_seq ?_
  refine ht_seqR hn (El := [_, (2, .v (.string (⟨#[]⟩ : ByteArray)))]) (init := [0]) (fin := [0]) (sps := [⟨[], [], [1], [(.slot 2)]⟩]) (es' := [(_, _)]) (by kernel_rfl) rfl rfl
   ⟨st_plain rfl (op_assign _ _ _ _ rfl rfl),
   trivial⟩ ?_
  refine pt_then ?_
  refine ht_seq ?_
  refine ht_seqR hn (El := [_, (3, .v (.string (⟨#[]⟩ : ByteArray)))]) (init := [0]) (fin := [0, 1]) (sps := [⟨[], [], [1], [(.slot 3)]⟩]) (es' := [(_, _), (3, .v (.string (⟨#[]⟩ : ByteArray)))]) (by kernel_rfl) rfl rfl
   ⟨st_plain rfl (op_assign _ _ _ _ rfl rfl),
   trivial⟩ ?_
  refine pt_then ?_
  refine ht_seq ?_
  refine ht_seq ?_
  refine ht_seqR hn (El := [_, _, (4, .v (.int .i64 0))]) (init := [0, 1]) (fin := [0, 1, 2]) (sps := [⟨[], [], [2], [(.slot 4)]⟩]) (es' := [(_, _), (_, _), (4, .v (.int .i64 0))]) (by kernel_rfl) rfl rfl
   ⟨st_plain rfl (op_assign _ _ _ _ rfl rfl),
   trivial⟩ ?_
  refine pt_then ?_
  refine ht_loopS h (fun ((s182, s183) : ByteArray × Int) => [(0, .fl .shr 1 (List.map (Value.int .u8) b)), (3, .v (.string s182)), (4, .v (.int .i64 s183))]) (fun (s263 : ByteArray) => [(3, .v (.string s263))]) ?_ ?_
  ·rintro s263 h
   refine pt_then ?_
   refine ht_seq ?_
   refine ht_seqR hn (El := [_, (62, .v (.string s263)), (2, .v (.string s263))]) (init := [0]) (fin := [2]) (sps := [⟨[0], [], [1], [(.slot 62)]⟩, ⟨[1], [], [2], [(.slot 2)]⟩]) (es' := [(2, .v (.string s263))]) (by kernel_rfl) rfl rfl
    ⟨st_plain rfl (op_move _ _ _ _ rfl rfl),
    st_plain rfl (op_assign _ _ _ _ rfl rfl),
    trivial⟩ ?_
   refine pt_then ?_
   refine ht_ret ?_
   obtain rfl := Option.some.inj h
   exact pt_ret hio rfl (.tmp _ _ .nil) rfl rfl
  ·rintro u264 hl265 hr266 ⟨s182, s183⟩ rr269 h ho267
   refine ht_seq ?_
   refine ht_seq ?_
   refine ht_seqR hn (El := [_, _, _, (10, .v (.int .i64 s183)), (11, .fl .shr 1 (List.map (Value.int .u8) b)), (12, .v (.int .i64 (b.length : Int))), (13, .v (.bool ((decide (s183 < (b.length : Int))))))]) (init := [0, 1, 2]) (fin := [0, 1, 2, 6]) (sps := [⟨[2], [], [3], [(.slot 10)]⟩, ⟨[0], [], [4], [(.slot 11)]⟩, ⟨[4], [], [5], [(.slot 12)]⟩, ⟨[3, 5], [], [6], [(.slot 13)]⟩]) (es' := [(_, _), (_, _), (_, _), (13, .v (.bool ((decide (s183 < (b.length : Int))))))]) (by kernel_rfl) rfl rfl
    ⟨st_plain rfl (op_move _ _ _ _ rfl rfl),
    st_plain rfl (op_move _ _ _ _ rfl rfl),
    st_plain rfl (op_len_fl _ _ _ Tryd.underlying22 rfl (by decide) (map_len _)),
    st_plain rfl (op_bin _ _ _ _ _ rfl rfl rfl),
    trivial⟩ ?_
   refine pt_then ?_
   refine ht_cond _ rfl (fun hb270 => ?_) (fun hb270 => ?_)
   ·have h := cond_t hb270 h
    refine ht_skip ?_
    refine pt_then ?_
    refine ht_seq ?_
    refine ht_block ?_
    refine ht_seq ?_
    obtain ⟨v2, hv2, h⟩ := bind_some h
    obtain ⟨v3, hv3, h⟩ := bind_some h
    refine ht_seqR hn (El := [_, _, _, _, (16, .fl .shr 1 (List.map (Value.int .u8) b)), (17, .v (.int .i64 (b.length : Int))), (18, .v (.int .i64 s183)), (19, .v (.int .i64 v2)), (20, .v (.int .i64 v3)), (5, .v (.int .i64 0)), (6, .v (.int .i64 v3))]) (init := [0, 1, 2, 3]) (fin := [0, 1, 2, 9, 10]) (sps := [⟨[0], [], [4], [(.slot 16)]⟩, ⟨[4], [], [5], [(.slot 17)]⟩, ⟨[2], [], [6], [(.slot 18)]⟩, ⟨[5, 6], [], [7], [(.slot 19)]⟩, ⟨[7], [], [8], [(.slot 20)]⟩, ⟨[], [], [9], [(.slot 5)]⟩, ⟨[8], [], [10], [(.slot 6)]⟩]) (es' := [(_, _), (_, _), (_, _), (5, .v (.int .i64 0)), (6, .v (.int .i64 v3))]) (by kernel_rfl) rfl rfl
     ⟨st_plain rfl (op_move _ _ _ _ rfl rfl),
     st_plain rfl (op_len_fl _ _ _ Tryd.underlying22 rfl (by decide) (map_len _)),
     st_plain rfl (op_move _ _ _ _ rfl rfl),
     st_plain rfl (op_bin _ _ _ _ _ rfl rfl (ibind (f := Value.int .i64) (Option.some.inj hv2))),
     st_plain rfl ((Option.some.inj hv3) ▸ op_min _ _ _ _ rfl rfl),
     st_plain rfl (op_assign _ _ _ _ rfl rfl),
     st_plain rfl (op_assign _ _ _ _ rfl rfl),
     trivial⟩ ?_
    refine pt_then ?_
    refine ht_seq ?_
    refine ht_seq ?_
    refine ht_seqR hn (El := [_, _, _, _, _, (7, .v (.int .i64 0))]) (init := [0, 1, 2, 3, 4]) (fin := [0, 1, 2, 3, 4, 5]) (sps := [⟨[], [], [5], [(.slot 7)]⟩]) (es' := [(_, _), (_, _), (_, _), (_, _), (_, _), (7, .v (.int .i64 0))]) (by kernel_rfl) rfl rfl
     ⟨st_plain rfl (op_assign _ _ _ _ rfl rfl),
     trivial⟩ ?_
    refine pt_then ?_
    refine ht_loopS h (fun ((s287, s288) : Int × Int) => [(0, .fl .shr 1 (List.map (Value.int .u8) b)), (3, .v (.string s182)), (4, .v (.int .i64 s183)), (5, .v (.int .i64 s287)), (6, .v (.int .i64 v3)), (7, .v (.int .i64 s288))]) (fun (s296 : Int) => [(0, .fl .shr 1 (List.map (Value.int .u8) b)), (3, .v (.string s182)), (4, .v (.int .i64 s183)), (5, .v (.int .i64 s296)), (6, .v (.int .i64 v3))]) ?_ ?_
    ·rintro s296 h
     refine pt_then ?_
     refine ht_seq ?_
     refine ht_seqR hn (El := [_, _, _, _, _, (8, .v (.int .i64 0))]) (init := [0, 1, 2, 3, 4]) (fin := [0, 1, 2, 3, 4, 5]) (sps := [⟨[], [], [5], [(.slot 8)]⟩]) (es' := [(_, _), (_, _), (_, _), (_, _), (_, _), (8, .v (.int .i64 0))]) (by kernel_rfl) rfl rfl
      ⟨st_plain rfl (op_assign _ _ _ _ rfl rfl),
      trivial⟩ ?_
     refine pt_then ?_
     refine ht_loopS h (fun ((s326, s327) : ByteArray × Int) => [(0, .fl .shr 1 (List.map (Value.int .u8) b)), (3, .v (.string s326)), (4, .v (.int .i64 s183)), (5, .v (.int .i64 s296)), (6, .v (.int .i64 v3)), (8, .v (.int .i64 s327))]) (fun (s335 : ByteArray) => [(0, .fl .shr 1 (List.map (Value.int .u8) b)), (3, .v (.string s335)), (4, .v (.int .i64 s183))]) ?_ ?_
     ·rintro s335 h
      refine pt_inb ?_
      refine pt_then ?_
      obtain ⟨v100, hv100, h⟩ := bind_some h
      refine ht_seqR hn (El := [_, _, _, (14, .v (.int .i64 s183)), (15, .v (.int .i64 v100)), (4, .v (.int .i64 v100))]) (init := [0, 1, 2]) (fin := [0, 1, 5]) (sps := [⟨[2], [], [3], [(.slot 14)]⟩, ⟨[3], [], [4], [(.slot 15)]⟩, ⟨[4], [2], [5], [(.slot 4)]⟩]) (es' := [(_, _), (_, _), (4, .v (.int .i64 v100))]) (by kernel_rfl) rfl rfl
       ⟨st_plain rfl (op_move _ _ _ _ rfl rfl),
       st_plain rfl (op_bin _ _ _ _ _ rfl rfl (ibind (f := Value.int .i64) (Option.some.inj hv100))),
       st_plain rfl (LOp.drop [_] (op_assign _ _ _ _ rfl rfl)),
       trivial⟩ ?_
      exact pt_next _ (Option.some.inj h).symm rfl
     ·rintro u336 hl337 hr338 ⟨s326, s327⟩ rr341 h ho339
      refine ht_seq ?_
      refine ht_seq ?_
      refine ht_seqR hn (El := [_, _, _, _, _, _, (39, .v (.int .i64 s327)), (40, .v (.bool ((decide (s327 < 4)))))]) (init := [0, 1, 2, 3, 4, 5]) (fin := [0, 1, 2, 3, 4, 5, 7]) (sps := [⟨[5], [], [6], [(.slot 39)]⟩, ⟨[6], [], [7], [(.slot 40)]⟩]) (es' := [(_, _), (_, _), (_, _), (_, _), (_, _), (_, _), (40, .v (.bool ((decide (s327 < 4)))))]) (by kernel_rfl) rfl rfl
       ⟨st_plain rfl (op_move _ _ _ _ rfl rfl),
       st_plain rfl (op_bin _ _ _ _ _ rfl rfl rfl),
       trivial⟩ ?_
      refine pt_then ?_
      refine ht_cond _ rfl (fun hb342 => ?_) (fun hb342 => ?_)
      ·have h := cond_t hb342 h
       refine ht_skip ?_
       refine pt_then ?_
       refine ht_seq ?_
       refine ht_joinS h (fun (s344 : ByteArray) => [(0, .fl .shr 1 (List.map (Value.int .u8) b)), (4, .v (.int .i64 s183)), (5, .v (.int .i64 s296)), (6, .v (.int .i64 v3)), (8, .v (.int .i64 s327)), (3, .v (.string s344))]) ?_ ?_
       ·rintro s344 h
        refine pt_then ?_
        obtain ⟨v67, hv67, h⟩ := bind_some h
        refine ht_seqR hn (El := [_, _, _, _, _, _, (41, .v (.int .i64 s327)), (42, .v (.int .i64 v67)), (8, .v (.int .i64 v67))]) (init := [0, 1, 2, 3, 4, 5]) (fin := [0, 1, 2, 3, 5, 8]) (sps := [⟨[4], [], [6], [(.slot 41)]⟩, ⟨[6], [], [7], [(.slot 42)]⟩, ⟨[7], [4], [8], [(.slot 8)]⟩]) (es' := [(_, _), (_, _), (_, _), (_, _), (_, _), (8, .v (.int .i64 v67))]) (by kernel_rfl) rfl rfl
         ⟨st_plain rfl (op_move _ _ _ _ rfl rfl),
         st_plain rfl (op_bin _ _ _ _ _ rfl rfl (ibind (f := Value.int .i64) (Option.some.inj hv67))),
         st_plain rfl (LOp.drop [_] (op_assign _ _ _ _ rfl rfl)),
         trivial⟩ ?_
        refine pt_pick [0, 4, 1, 2, 3, 5] (by kernel_rfl) (es' := [(_, _), (_, _), (_, _), (_, _), (_, _), (_, _)]) rfl ?_
        exact pt_next _ (Option.some.inj h).symm rfl
       ·intro u345 h hl346 hr347
        refine ht_block ?_
        refine ht_seq ?_
        refine ht_seqR hn (El := [_, _, _, _, _, _, _, (43, .v (.int .i64 s327)), (44, .v (.int .i64 v3)), (45, .v (.bool ((decide (s327 ≤ v3)))))]) (init := [0, 1, 2, 3, 4, 5, 6]) (fin := [0, 1, 2, 3, 4, 5, 9]) (sps := [⟨[5], [], [7], [(.slot 43)]⟩, ⟨[4], [], [8], [(.slot 44)]⟩, ⟨[7, 8], [], [9], [(.slot 45)]⟩]) (es' := [(_, _), (_, _), (_, _), (_, _), (_, _), (_, _), (45, .v (.bool ((decide (s327 ≤ v3)))))]) (by kernel_rfl) rfl rfl
         ⟨st_plain rfl (op_move _ _ _ _ rfl rfl),
         st_plain rfl (op_move _ _ _ _ rfl rfl),
         st_plain rfl (op_bin _ _ _ _ _ rfl rfl rfl),
         trivial⟩ ?_
        refine pt_then ?_
        refine ht_cond _ rfl (fun hb348 => ?_) (fun hb348 => ?_)
        ·have h := cond_t hb348 h
         refine ht_seq ?_
         obtain ⟨v52, hv52, h⟩ := bind_some h
         obtain ⟨v53, hv53, h⟩ := bind_some h
         obtain ⟨v54, hv54, h⟩ := bind_some h
         obtain ⟨v55, hv55, h⟩ := bind_some h
         obtain ⟨v56, hv56, h⟩ := bind_some h
         refine ht_seqR hn (El := (_ :: _ :: _ :: _ :: _ :: _ :: _ :: (46, .v (.int .i64 s296)) :: (47, .v (.int .i64 s327)) :: (48, .v (.int .i64 v52)) :: (49, .v (.int .i64 v53)) :: (50, .v (.int .u64 v54)) :: (51, .v (.int .i64 v55)) :: (52, .v (.int .i64 v56)) :: (9, .v (.int .i64 v56)) :: [])) (init := [0, 1, 2, 3, 4, 5, 6]) (fin := [0, 1, 2, 3, 4, 5, 14]) (sps := [⟨[3], [], [7], [(.slot 46)]⟩, ⟨[5], [], [8], [(.slot 47)]⟩, ⟨[8], [], [9], [(.slot 48)]⟩, ⟨[9], [], [10], [(.slot 49)]⟩, ⟨[10], [], [11], [(.slot 50)]⟩, ⟨[7, 11], [], [12], [(.slot 51)]⟩, ⟨[12], [], [13], [(.slot 52)]⟩, ⟨[13], [], [14], [(.slot 9)]⟩]) (es' := [(_, _), (_, _), (_, _), (_, _), (_, _), (_, _), (9, .v (.int .i64 v56))]) (by kernel_rfl) rfl rfl
          ⟨st_plain rfl (op_move _ _ _ _ rfl rfl),
          st_plain rfl (op_move _ _ _ _ rfl rfl),
          st_plain rfl (op_bin _ _ _ _ _ rfl rfl (ibind (f := Value.int .i64) (Option.some.inj hv52))),
          st_plain rfl (op_bin _ _ _ _ _ rfl rfl (ibind (f := Value.int .i64) (Option.some.inj hv53))),
          st_plain rfl ((Option.some.inj hv54) ▸ op_conv _ _ _ Tryd.underlying3 Tryd.underlying36 rfl),
          st_plain rfl (op_bin _ _ _ _ _ rfl rfl (shr_ok hv55)),
          st_plain rfl (op_bin _ _ _ _ _ rfl rfl (ibind (f := Value.int .i64) (Option.some.inj hv56))),
          st_plain rfl (op_assign _ _ _ _ rfl rfl),
          trivial⟩ ?_
         refine pt_then ?_
         obtain ⟨v57, hv57, h⟩ := bind_some h
         obtain ⟨v58, hv58, h⟩ := bind_some h
         obtain ⟨v59, hv59, h⟩ := bind_some h
         obtain ⟨v60, hv60, h⟩ := bind_some h
         refine ht_seqR hn (El := (_ :: _ :: _ :: _ :: _ :: _ :: _ :: (53, .v (.string s326)) :: (54, .v (.string v57)) :: (55, .v (.int .i64 v56)) :: (56, .v (.int .i64 v56)) :: (57, .v (.int .i64 v58)) :: (58, .v (.string v59)) :: (59, .v (.string v60)) :: (3, .v (.string v60)) :: [])) (init := [0, 1, 2, 3, 4, 5, 6]) (fin := [0, 2, 3, 4, 5, 14]) (sps := [⟨[1], [], [7], [(.slot 53)]⟩, ⟨[], [], [8], [(.slot 54)]⟩, ⟨[6], [], [9], [(.slot 55)]⟩, ⟨[6], [], [10], [(.slot 56)]⟩, ⟨[10], [], [11], [(.slot 57)]⟩, ⟨[8, 9, 11], [], [12], [(.slot 58)]⟩, ⟨[7, 12], [], [13], [(.slot 59)]⟩, ⟨[13], [1], [14], [(.slot 3)]⟩]) (es' := [(_, _), (_, _), (_, _), (_, _), (_, _), (3, .v (.string v60))]) (by kernel_rfl) rfl rfl
          ⟨st_plain rfl (op_move _ _ _ _ rfl rfl),
          st_plain rfl (op_call _ _ 30 _ _ rfl Tryd.call30 rfl (ok_wherryref08_signs  _ hv57) rfl rfl),
          st_plain rfl (op_move _ _ _ _ rfl rfl),
          st_plain rfl (op_move _ _ _ _ rfl rfl),
          st_plain rfl (op_bin _ _ _ _ _ rfl rfl (ibind (f := Value.int .i64) (Option.some.inj hv58))),
          st_plain rfl (op_substr _ _ _ v56 v58 _ Tryd.underlying9 rfl ⟨_, rfl⟩ ⟨_, rfl⟩ hv59),
          st_plain rfl (op_bin _ _ _ _ _ rfl rfl (cat_ok hv60)),
          st_plain rfl (LOp.drop [_] (op_assign _ _ _ _ rfl rfl)),
          trivial⟩ ?_
         refine pt_inb ?_
         exact hl346 _ (Option.some.inj h).symm
        ·have h := cond_f hb348 h
         obtain ⟨v61, hv61, h⟩ := bind_some h
         refine ht_seqR hn (El := [_, _, _, _, _, _, _, (60, .v (.string s326)), (61, .v (.string v61)), (3, .v (.string v61))]) (init := [0, 1, 2, 3, 4, 5, 6]) (fin := [0, 2, 3, 4, 5, 9]) (sps := [⟨[1], [], [7], [(.slot 60)]⟩, ⟨[7], [], [8], [(.slot 61)]⟩, ⟨[8], [1], [9], [(.slot 3)]⟩]) (es' := [(_, _), (_, _), (_, _), (_, _), (_, _), (3, .v (.string v61))]) (by kernel_rfl) rfl rfl
          ⟨st_plain rfl (op_move _ _ _ _ rfl rfl),
          st_plain rfl (op_bin _ _ _ _ _ rfl rfl (cat_ok hv61)),
          st_plain rfl (LOp.drop [_] (op_assign _ _ _ _ rfl rfl)),
          trivial⟩ ?_
         refine pt_inb ?_
         exact hl346 _ (Option.some.inj h).symm
      ·have h := cond_f hb342 h
       refine ht_exit ?_
       refine pt_x_then ?_
       refine pt_x_then ?_
       refine pt_x_in ?_
       refine pt_pick [0, 1, 2] (by kernel_rfl) (es' := [(_, _), (_, _), (_, _)]) rfl ?_
       exact hl337 _ (ho339 _ (Option.some.inj h).symm).symm
    ·rintro u297 hl298 hr299 ⟨s287, s288⟩ rr302 h ho300
     refine ht_seq ?_
     refine ht_seq ?_
     refine ht_seqR hn (El := [_, _, _, _, _, _, (21, .v (.int .i64 s288)), (22, .v (.bool ((decide (s288 < 3)))))]) (init := [0, 1, 2, 3, 4, 5]) (fin := [0, 1, 2, 3, 4, 5, 7]) (sps := [⟨[5], [], [6], [(.slot 21)]⟩, ⟨[6], [], [7], [(.slot 22)]⟩]) (es' := [(_, _), (_, _), (_, _), (_, _), (_, _), (_, _), (22, .v (.bool ((decide (s288 < 3)))))]) (by kernel_rfl) rfl rfl
      ⟨st_plain rfl (op_move _ _ _ _ rfl rfl),
      st_plain rfl (op_bin _ _ _ _ _ rfl rfl rfl),
      trivial⟩ ?_
     refine pt_then ?_
     refine ht_cond _ rfl (fun hb303 => ?_) (fun hb303 => ?_)
     ·have h := cond_t hb303 h
      refine ht_skip ?_
      refine pt_then ?_
      refine ht_seq ?_
      refine ht_joinS h (fun (s305 : Int) => [(0, .fl .shr 1 (List.map (Value.int .u8) b)), (3, .v (.string s182)), (4, .v (.int .i64 s183)), (6, .v (.int .i64 v3)), (7, .v (.int .i64 s288)), (5, .v (.int .i64 s305))]) ?_ ?_
      ·rintro s305 h
       refine pt_then ?_
       obtain ⟨v17, hv17, h⟩ := bind_some h
       refine ht_seqR hn (El := [_, _, _, _, _, _, (23, .v (.int .i64 s288)), (24, .v (.int .i64 v17)), (7, .v (.int .i64 v17))]) (init := [0, 1, 2, 3, 4, 5]) (fin := [0, 1, 2, 3, 5, 8]) (sps := [⟨[4], [], [6], [(.slot 23)]⟩, ⟨[6], [], [7], [(.slot 24)]⟩, ⟨[7], [4], [8], [(.slot 7)]⟩]) (es' := [(_, _), (_, _), (_, _), (_, _), (_, _), (7, .v (.int .i64 v17))]) (by kernel_rfl) rfl rfl
        ⟨st_plain rfl (op_move _ _ _ _ rfl rfl),
        st_plain rfl (op_bin _ _ _ _ _ rfl rfl (ibind (f := Value.int .i64) (Option.some.inj hv17))),
        st_plain rfl (LOp.drop [_] (op_assign _ _ _ _ rfl rfl)),
        trivial⟩ ?_
       refine pt_pick [0, 1, 2, 4, 3, 5] (by kernel_rfl) (es' := [(_, _), (_, _), (_, _), (_, _), (_, _), (_, _)]) rfl ?_
       exact pt_next _ (Option.some.inj h).symm rfl
      ·intro u306 h hl307 hr308
       refine ht_block ?_
       refine ht_seq ?_
       obtain ⟨v5, hv5, h⟩ := bind_some h
       refine ht_seqR hn (El := [_, _, _, _, _, _, _, (25, .v (.int .i64 s287)), (26, .v (.int .i64 v5)), (5, .v (.int .i64 v5))]) (init := [0, 1, 2, 3, 4, 5, 6]) (fin := [0, 1, 2, 4, 5, 9]) (sps := [⟨[3], [], [7], [(.slot 25)]⟩, ⟨[7], [], [8], [(.slot 26)]⟩, ⟨[8], [3], [9], [(.slot 5)]⟩]) (es' := [(_, _), (_, _), (_, _), (_, _), (_, _), (5, .v (.int .i64 v5))]) (by kernel_rfl) rfl rfl
        ⟨st_plain rfl (op_move _ _ _ _ rfl rfl),
        st_plain rfl (op_bin _ _ _ _ _ rfl rfl (shl_ok hv5)),
        st_plain rfl (LOp.drop [_] (op_assign _ _ _ _ rfl rfl)),
        trivial⟩ ?_
       refine pt_then ?_
       refine ht_seq ?_
       refine ht_seqR hn (El := [_, _, _, _, _, _, (27, .v (.int .i64 s288)), (28, .v (.int .i64 v3)), (29, .v (.bool ((decide (s288 < v3)))))]) (init := [0, 1, 2, 3, 4, 5]) (fin := [0, 1, 2, 3, 4, 5, 8]) (sps := [⟨[4], [], [6], [(.slot 27)]⟩, ⟨[3], [], [7], [(.slot 28)]⟩, ⟨[6, 7], [], [8], [(.slot 29)]⟩]) (es' := [(_, _), (_, _), (_, _), (_, _), (_, _), (_, _), (29, .v (.bool ((decide (s288 < v3)))))]) (by kernel_rfl) rfl rfl
        ⟨st_plain rfl (op_move _ _ _ _ rfl rfl),
        st_plain rfl (op_move _ _ _ _ rfl rfl),
        st_plain rfl (op_bin _ _ _ _ _ rfl rfl rfl),
        trivial⟩ ?_
       refine pt_then ?_
       refine ht_cond _ rfl (fun hb309 => ?_) (fun hb309 => ?_)
       ·have h := cond_t hb309 h
        obtain ⟨v7, hv7, h⟩ := bind_some h
        obtain ⟨v8, hv8, h⟩ := bind_some h
        obtain ⟨v9, hv9, h⟩ := bind_some h
        obtain ⟨v10, hv10, h⟩ := bind_some h
        obtain ⟨v11, hv11, h⟩ := bind_some h
        refine ht_seqR hn (El := (_ :: _ :: _ :: _ :: _ :: _ :: _ :: (30, .v (.int .i64 v5)) :: (31, .fl .shr 1 (List.map (Value.int .u8) b)) :: (32, .v (.int .i64 s183)) :: (33, .v (.int .i64 s288)) :: (34, .v (.int .i64 v7)) :: (35, .eref (.slot 31) (v8 * 1)) :: (36, .v (.int .u8 v9)) :: (37, .v (.int .i64 v10)) :: (38, .v (.int .i64 v11)) :: (5, .v (.int .i64 v11)) :: [])) (init := [0, 1, 2, 3, 4, 5, 6]) (fin := [0, 1, 2, 3, 4, 16]) (sps := [⟨[5], [], [7], [(.slot 30)]⟩, ⟨[0], [], [8], [(.slot 31)]⟩, ⟨[2], [], [9], [(.slot 32)]⟩, ⟨[4], [], [10], [(.slot 33)]⟩, ⟨[9, 10], [], [11], [(.slot 34)]⟩, ⟨[8, 11], [], [12], [(.slot 35)]⟩, ⟨[12, 8], [], [13], [(.slot 36)]⟩, ⟨[13], [], [14], [(.slot 37)]⟩, ⟨[7, 14], [], [15], [(.slot 38)]⟩, ⟨[15], [5], [16], [(.slot 5)]⟩]) (es' := [(_, _), (_, _), (_, _), (_, _), (_, _), (5, .v (.int .i64 v11))]) (by kernel_rfl) rfl rfl
         ⟨st_plain rfl (op_move _ _ _ _ rfl rfl),
         st_plain rfl (op_move _ _ _ _ rfl rfl),
         st_plain rfl (op_move _ _ _ _ rfl rfl),
         st_plain rfl (op_move _ _ _ _ rfl rfl),
         st_plain rfl (op_bin _ _ _ _ _ rfl rfl (ibind (f := Value.int .i64) (Option.some.inj hv7))),
         st_plain rfl (op_ix _ _ _ _ _ _ _ _ Tryd.underlying22 sz5 (by decide) rfl rfl rfl (ix_ok hv8).1 (map_lt (ix_ok hv8).2) rfl),
         st_plain rfl (op_load_e _ _ _ _ _ _ Tryd.underlying5 rfl rfl rfl (map_get hv9)),
         st_plain rfl ((Option.some.inj hv10) ▸ op_conv _ _ _ Tryd.underlying5 Tryd.underlying3 rfl),
         st_plain rfl (op_bin _ _ _ _ _ rfl rfl (ibind (f := Value.int .i64) (Option.some.inj hv11))),
         st_plain rfl (LOp.drop [_] (op_assign _ _ _ _ rfl rfl)),
         trivial⟩ ?_
        refine pt_inb ?_
        exact hl307 _ (Option.some.inj h).symm
       ·have h := cond_f hb309 h
        refine ht_skip ?_
        refine pt_inb ?_
        refine pt_pick [0, 1, 2, 3, 4, 5] (by kernel_rfl) (es' := [(_, _), (_, _), (_, _), (_, _), (_, _), (_, _)]) rfl ?_
        exact hl307 _ (Option.some.inj h).symm
     ·have h := cond_f hb303 h
      refine ht_exit ?_
      refine pt_x_then ?_
      refine pt_x_then ?_
      refine pt_x_in ?_
      refine pt_pick [0, 1, 2, 3, 4] (by kernel_rfl) (es' := [(_, _), (_, _), (_, _), (_, _), (_, _)]) rfl ?_
      exact hl298 _ (ho300 _ (Option.some.inj h).symm).symm
   ·have h := cond_f hb270 h
    refine ht_exit ?_
    refine pt_x_then ?_
    refine pt_x_then ?_
    refine pt_x_in ?_
    refine pt_pick [1] (by kernel_rfl) (es' := [(_, _)]) rfl ?_
    exact hl265 _ (ho267 _ (Option.some.inj h).symm).symm

set_option maxHeartbeats 1000000 in
theorem ok_wherryref08_Decode (s : ByteArray) (r : ((List Int) × Bool)) (h : Sh.wherryref08_Decode s = some r) : FnOK Tryd.prog 10 [.v (.string s)] (.tup [.fl (.own 5) 1 (List.map (Value.int .u8) r.1), .v (.bool r.2)]) := by
  unfold Sh.wherryref08_Decode at h
  refine fn_ok Tryd.func10 rfl (Nat.le_of_ble_eq_true rfl) rfl rfl fun g0 hn hio => ?_
  refine ht_seq ?_
  refine ht_seqR hn (El := [_, (2, .v (.slice none 0 0)), (3, .v (.bool false))]) (init := [0]) (fin := [0]) (sps := [⟨[], [], [1], [(.slot 2)]⟩, ⟨[], [], [2], [(.slot 3)]⟩]) (es' := [(_, _)]) (by kernel_rfl) rfl rfl
   ⟨st_plain rfl (op_assign _ _ _ _ rfl rfl),
   st_plain rfl (op_assign _ _ _ _ rfl rfl),
   trivial⟩ ?_
  refine pt_then ?_
  refine ht_seq ?_
  refine ht_seq ?_
  obtain ⟨v1, hv1, h⟩ := bind_some h
  refine ht_seqR hn (El := [_, (11, .v (.string s)), (12, .v (.int .i64 (s.size : Int))), (13, .v (.int .i64 v1)), (14, .v (.bool (v1 != 0)))]) (init := [0]) (fin := [0, 4]) (sps := [⟨[0], [], [1], [(.slot 11)]⟩, ⟨[1], [], [2], [(.slot 12)]⟩, ⟨[2], [], [3], [(.slot 13)]⟩, ⟨[3], [], [4], [(.slot 14)]⟩]) (es' := [(_, _), (14, .v (.bool (v1 != 0)))]) (by kernel_rfl) rfl rfl
   ⟨st_plain rfl (op_move _ _ _ _ rfl rfl),
   st_plain rfl (op_len_str _ _ _ Tryd.underlying9 rfl),
   st_plain rfl (op_bin _ _ _ _ _ rfl rfl (rem_ok hv1)),
   st_plain rfl (op_bin _ _ _ _ _ rfl rfl rfl),
   trivial⟩ ?_
  refine pt_then ?_
  refine ht_cond _ rfl (fun hb2 => ?_) (fun hb2 => ?_)
  ·have h := cond_t hb2 h
   refine ht_seq ?_
   refine ht_seqR hn (El := [_, _, (2, .v (.slice none 0 0)), (3, .v (.bool false))]) (init := [0, 1]) (fin := [2, 3]) (sps := [⟨[], [], [2], [(.slot 2)]⟩, ⟨[], [], [3], [(.slot 3)]⟩]) (es' := [(2, .v (.slice none 0 0)), (3, .v (.bool false))]) (by kernel_rfl) rfl rfl
    ⟨st_plain rfl (op_assign _ _ _ _ rfl rfl),
    st_plain rfl (op_assign _ _ _ _ rfl rfl),
    trivial⟩ ?_
   refine pt_then ?_
   refine ht_ret ?_
   refine pt_sub (fs := [(2, .fl (.own 5) 1 (List.map (Value.int .u8) [])), (3, .v (.bool false))]) (.sub _ (sub_nil 5 1) rfl (.same _ .nil)) ?_
   refine pt_r_then ?_
   obtain rfl := Option.some.inj h
   exact pt_ret hio rfl (.tmp _ _ (.tmp _ _ .nil)) rfl rfl
  ·have h := cond_f hb2 h
   refine ht_skip ?_
   refine pt_then ?_
   refine ht_seq ?_
   refine ht_seqR hn (El := [_, _, (4, .v (.slice none 0 0))]) (init := [0, 1]) (fin := [0, 2]) (sps := [⟨[], [], [2], [(.slot 4)]⟩]) (es' := [(_, _), (4, .v (.slice none 0 0))]) (by kernel_rfl) rfl rfl
    ⟨st_plain rfl (op_assign _ _ _ _ rfl rfl),
    trivial⟩ ?_
   refine pt_then ?_
   refine ht_seq ?_
   refine ht_seq ?_
   refine ht_seqR hn (El := [_, _, (5, .v (.int .i64 0))]) (init := [0, 1]) (fin := [0, 1, 2]) (sps := [⟨[], [], [2], [(.slot 5)]⟩]) (es' := [(_, _), (_, _), (5, .v (.int .i64 0))]) (by kernel_rfl) rfl rfl
    ⟨st_plain rfl (op_assign _ _ _ _ rfl rfl),
    trivial⟩ ?_
   refine pt_then ?_
   refine ht_sub (fs := [(0, .v (.string s)), (4, .fl (.own 5) 1 (List.map (Value.int .u8) [])), (5, .v (.int .i64 0))]) (.same _ (.sub _ (sub_nil 5 1) rfl (.same _ .nil))) ?_
   refine ht_loopS h (fun ((s220, s221) : (List Int) × Int) => [(0, .v (.string s)), (4, .fl (.own 5) 1 (List.map (Value.int .u8) s220)), (5, .v (.int .i64 s221))]) (fun (s320 : (List Int)) => [(0, .v (.string s)), (4, .fl (.own 5) 1 (List.map (Value.int .u8) s320))]) ?_ ?_
   ·rintro s320 h
    refine pt_then ?_
    refine ht_seq ?_
    refine ht_seq ?_
    obtain ⟨v425, hv425, h⟩ := bind_some h
    refine ht_seqR hn (El := [_, _, (67, .same (.slot 4)), (68, .v (.string v425)), (69, .v (.string s)), (70, .v (.bool ((!(v425.toList == s.toList)))))]) (init := [0, 1]) (fin := [1, 5]) (sps := [⟨[1], [], [2], [(.slot 67)]⟩, ⟨[2, 1], [], [3], [(.slot 68)]⟩, ⟨[0], [], [4], [(.slot 69)]⟩, ⟨[3, 4], [], [5], [(.slot 70)]⟩]) (es' := [(_, _), (70, .v (.bool ((!(v425.toList == s.toList)))))]) (by kernel_rfl) rfl rfl
     ⟨st_plain rfl (op_move _ _ _ _ rfl rfl),
     st_plain rfl (op_call _ _ 13 _ _ rfl Tryd.call13 rfl (ok_wherryref08_Encode s320 _ hv425) rfl rfl),
     st_plain rfl (op_move _ _ _ _ rfl rfl),
     st_plain rfl (op_bin _ _ _ _ _ rfl rfl rfl),
     trivial⟩ ?_
    refine pt_then ?_
    refine ht_cond _ rfl (fun hb426 => ?_) (fun hb426 => ?_)
    ·have h := cond_t hb426 h
     refine ht_seq ?_
     refine ht_seqR hn (El := [_, _, (2, .v (.slice none 0 0)), (3, .v (.bool false))]) (init := [0, 1]) (fin := [2, 3]) (sps := [⟨[], [], [2], [(.slot 2)]⟩, ⟨[], [], [3], [(.slot 3)]⟩]) (es' := [(2, .v (.slice none 0 0)), (3, .v (.bool false))]) (by kernel_rfl) rfl rfl
      ⟨st_plain rfl (op_assign _ _ _ _ rfl rfl),
      st_plain rfl (op_assign _ _ _ _ rfl rfl),
      trivial⟩ ?_
     refine pt_then ?_
     refine ht_ret ?_
     refine pt_sub (fs := [(2, .fl (.own 5) 1 (List.map (Value.int .u8) [])), (3, .v (.bool false))]) (.sub _ (sub_nil 5 1) rfl (.same _ .nil)) ?_
     refine pt_r_then ?_
     obtain rfl := Option.some.inj h
     exact pt_ret hio rfl (.tmp _ _ (.tmp _ _ .nil)) rfl rfl
    ·have h := cond_f hb426 h
     refine ht_skip ?_
     refine pt_then ?_
     refine ht_seq ?_
     refine ht_seqR hn (El := [_, _, (71, .fl (.own 5) 1 (List.map (Value.int .u8) s320)), (2, .fl (.own 5) 1 (List.map (Value.int .u8) s320)), (3, .v (.bool true))]) (init := [0, 1]) (fin := [3, 4]) (sps := [⟨[], [0], [2], [(.slot 71)]⟩, ⟨[], [2], [3], [(.slot 2)]⟩, ⟨[], [], [4], [(.slot 3)]⟩]) (es' := [(2, .fl (.own 5) 1 (List.map (Value.int .u8) s320)), (3, .v (.bool true))]) (by kernel_rfl) rfl rfl
      ⟨st_plain rfl (op_move_take _ _ _ _ rfl),
      st_plain rfl (op_assign_take _ _ _ _ rfl),
      st_plain rfl (op_assign _ _ _ _ rfl rfl),
      trivial⟩ ?_
     refine pt_then ?_
     refine ht_ret ?_
     obtain rfl := Option.some.inj h
     exact pt_ret hio rfl (.tmp _ _ (.tmp _ _ .nil)) rfl rfl
   ·rintro u321 hl322 hr323 ⟨s220, s221⟩ rr326 h ho324
    refine ht_seq ?_
    refine ht_seq ?_
    refine ht_seqR hn (El := [_, _, _, (15, .v (.int .i64 s221)), (16, .v (.string s)), (17, .v (.int .i64 (s.size : Int))), (18, .v (.bool ((decide (s221 < (s.size : Int))))))]) (init := [0, 1, 2]) (fin := [0, 1, 2, 6]) (sps := [⟨[2], [], [3], [(.slot 15)]⟩, ⟨[0], [], [4], [(.slot 16)]⟩, ⟨[4], [], [5], [(.slot 17)]⟩, ⟨[3, 5], [], [6], [(.slot 18)]⟩]) (es' := [(_, _), (_, _), (_, _), (18, .v (.bool ((decide (s221 < (s.size : Int))))))]) (by kernel_rfl) rfl rfl
     ⟨st_plain rfl (op_move _ _ _ _ rfl rfl),
     st_plain rfl (op_move _ _ _ _ rfl rfl),
     st_plain rfl (op_len_str _ _ _ Tryd.underlying9 rfl),
     st_plain rfl (op_bin _ _ _ _ _ rfl rfl rfl),
     trivial⟩ ?_
    refine pt_then ?_
    refine ht_cond _ rfl (fun hb327 => ?_) (fun hb327 => ?_)
    ·have h := cond_t hb327 h
     refine ht_skip ?_
     refine pt_then ?_
     refine ht_seq ?_
     refine ht_block ?_
     refine ht_seq ?_
     refine ht_seqR hn (El := [_, _, _, _, (6, .v (.int .i64 0)), (7, .v (.int .i64 0))]) (init := [0, 1, 2, 3]) (fin := [0, 1, 2, 4, 5]) (sps := [⟨[], [], [4], [(.slot 6)]⟩, ⟨[], [], [5], [(.slot 7)]⟩]) (es' := [(_, _), (_, _), (_, _), (6, .v (.int .i64 0)), (7, .v (.int .i64 0))]) (by kernel_rfl) rfl rfl
      ⟨st_plain rfl (op_assign _ _ _ _ rfl rfl),
      st_plain rfl (op_assign _ _ _ _ rfl rfl),
      trivial⟩ ?_
     refine pt_then ?_
     refine ht_seq ?_
     refine ht_seq ?_
     refine ht_seqR hn (El := [_, _, _, _, _, (8, .v (.int .i64 0))]) (init := [0, 1, 2, 3, 4]) (fin := [0, 1, 2, 3, 4, 5]) (sps := [⟨[], [], [5], [(.slot 8)]⟩]) (es' := [(_, _), (_, _), (_, _), (_, _), (_, _), (8, .v (.int .i64 0))]) (by kernel_rfl) rfl rfl
      ⟨st_plain rfl (op_assign _ _ _ _ rfl rfl),
      trivial⟩ ?_
     refine pt_then ?_
     refine ht_loopS h (fun ((s365, s366, s367) : Int × Int × Int) => [(0, .v (.string s)), (4, .fl (.own 5) 1 (List.map (Value.int .u8) s220)), (5, .v (.int .i64 s221)), (6, .v (.int .i64 s365)), (7, .v (.int .i64 s366)), (8, .v (.int .i64 s367))]) (fun ((s385, s386) : Int × Int) => [(0, .v (.string s)), (4, .fl (.own 5) 1 (List.map (Value.int .u8) s220)), (5, .v (.int .i64 s221)), (6, .v (.int .i64 s385)), (7, .v (.int .i64 s386))]) ?_ ?_
     ·rintro ⟨s385, s386⟩ h
      refine pt_then ?_
      refine ht_seq ?_
      refine ht_seqR hn (El := [_, _, _, _, _, (10, .v (.int .i64 0))]) (init := [0, 1, 2, 3, 4]) (fin := [0, 1, 2, 3, 4, 5]) (sps := [⟨[], [], [5], [(.slot 10)]⟩]) (es' := [(_, _), (_, _), (_, _), (_, _), (_, _), (10, .v (.int .i64 0))]) (by kernel_rfl) rfl rfl
       ⟨st_plain rfl (op_assign _ _ _ _ rfl rfl),
       trivial⟩ ?_
      refine pt_then ?_
      refine ht_loopS h (fun ((s414, s415) : (List Int) × Int) => [(0, .v (.string s)), (4, .fl (.own 5) 1 (List.map (Value.int .u8) s414)), (5, .v (.int .i64 s221)), (6, .v (.int .i64 s385)), (7, .v (.int .i64 s386)), (10, .v (.int .i64 s415))]) (fun (s417 : (List Int)) => [(0, .v (.string s)), (4, .fl (.own 5) 1 (List.map (Value.int .u8) s417)), (5, .v (.int .i64 s221))]) ?_ ?_
      ·rintro s417 h
       refine pt_inb ?_
       refine pt_then ?_
       obtain ⟨v119, hv119, h⟩ := bind_some h
       refine ht_seqR hn (El := [_, _, _, (19, .v (.int .i64 s221)), (20, .v (.int .i64 v119)), (5, .v (.int .i64 v119))]) (init := [0, 1, 2]) (fin := [0, 1, 5]) (sps := [⟨[2], [], [3], [(.slot 19)]⟩, ⟨[3], [], [4], [(.slot 20)]⟩, ⟨[4], [2], [5], [(.slot 5)]⟩]) (es' := [(_, _), (_, _), (5, .v (.int .i64 v119))]) (by kernel_rfl) rfl rfl
        ⟨st_plain rfl (op_move _ _ _ _ rfl rfl),
        st_plain rfl (op_bin _ _ _ _ _ rfl rfl (ibind (f := Value.int .i64) (Option.some.inj hv119))),
        st_plain rfl (LOp.drop [_] (op_assign _ _ _ _ rfl rfl)),
        trivial⟩ ?_
       exact pt_next _ (Option.some.inj h).symm rfl
      ·rintro u418 hl419 hr420 ⟨s414, s415⟩ rr423 h ho421
       refine ht_seq ?_
       refine ht_seq ?_
       obtain ⟨v96, hv96, h⟩ := bind_some h
       refine ht_seqR hn (El := [_, _, _, _, _, _, (51, .v (.int .i64 s415)), (52, .v (.int .i64 s386)), (53, .v (.int .i64 v96)), (54, .v (.bool ((decide (s415 < v96)))))]) (init := [0, 1, 2, 3, 4, 5]) (fin := [0, 1, 2, 3, 4, 5, 9]) (sps := [⟨[5], [], [6], [(.slot 51)]⟩, ⟨[4], [], [7], [(.slot 52)]⟩, ⟨[7], [], [8], [(.slot 53)]⟩, ⟨[6, 8], [], [9], [(.slot 54)]⟩]) (es' := [(_, _), (_, _), (_, _), (_, _), (_, _), (_, _), (54, .v (.bool ((decide (s415 < v96)))))]) (by kernel_rfl) rfl rfl
        ⟨st_plain rfl (op_move _ _ _ _ rfl rfl),
        st_plain rfl (op_move _ _ _ _ rfl rfl),
        st_plain rfl (op_bin _ _ _ _ _ rfl rfl (ibind (f := Value.int .i64) (Option.some.inj hv96))),
        st_plain rfl (op_bin _ _ _ _ _ rfl rfl rfl),
        trivial⟩ ?_
       refine pt_then ?_
       refine ht_cond _ rfl (fun hb424 => ?_) (fun hb424 => ?_)
       ·have h := cond_t hb424 h
        refine ht_skip ?_
        refine pt_then ?_
        refine ht_seq ?_
        refine ht_block ?_
        obtain ⟨v98, hv98, h⟩ := bind_some h
        obtain ⟨v99, hv99, h⟩ := bind_some h
        obtain ⟨v100, hv100, h⟩ := bind_some h
        obtain ⟨v101, hv101, h⟩ := bind_some h
        obtain ⟨v102, hv102, h⟩ := bind_some h
        obtain ⟨v103, hv103, h⟩ := bind_some h
        refine ht_seqR hn (El := (_ :: _ :: _ :: _ :: _ :: _ :: _ :: (57, .fl (.own 5) 1 (List.map (Value.int .u8) s414)) :: (58, .v (.int .i64 s385)) :: (59, .v (.int .i64 s415)) :: (60, .v (.int .i64 v98)) :: (61, .v (.int .i64 v99)) :: (62, .v (.int .u64 v100)) :: (63, .v (.int .i64 v101)) :: (64, .v (.int .u8 v102)) :: (65, .fl (.own 5) 1 (List.map (Value.int .u8) [v102])) :: (66, .fl (.own 5) 1 (List.map (Value.int .u8) v103)) :: (57, .any) :: (4, .fl (.own 5) 1 (List.map (Value.int .u8) v103)) :: [])) (init := [0, 1, 2, 3, 4, 5, 6]) (fin := [0, 2, 3, 4, 5, 18]) (sps := [⟨[], [1], [7], [(.slot 57)]⟩, ⟨[3], [], [8], [(.slot 58)]⟩, ⟨[5], [], [9], [(.slot 59)]⟩, ⟨[9], [], [10], [(.slot 60)]⟩, ⟨[10], [], [11], [(.slot 61)]⟩, ⟨[11], [], [12], [(.slot 62)]⟩, ⟨[8, 12], [], [13], [(.slot 63)]⟩, ⟨[13], [], [14], [(.slot 64)]⟩, ⟨[14], [], [15], [(.slot 65)]⟩, ⟨[15], [7], [17, 16], [(.slot 66)]⟩, ⟨[], [16], [18], [(.slot 4)]⟩]) (es' := [(_, _), (_, _), (_, _), (_, _), (_, _), (4, .fl (.own 5) 1 (List.map (Value.int .u8) v103))]) (by kernel_rfl) rfl rfl
         ⟨st_plain rfl (op_move_take _ _ _ _ rfl),
         st_plain rfl (op_move _ _ _ _ rfl rfl),
         st_plain rfl (op_move _ _ _ _ rfl rfl),
         st_plain rfl (op_bin _ _ _ _ _ rfl rfl (ibind (f := Value.int .i64) (Option.some.inj hv98))),
         st_plain rfl (op_bin _ _ _ _ _ rfl rfl (ibind (f := Value.int .i64) (Option.some.inj hv99))),
         st_plain rfl ((Option.some.inj hv100) ▸ op_conv _ _ _ Tryd.underlying3 Tryd.underlying36 rfl),
         st_plain rfl (op_bin _ _ _ _ _ rfl rfl (shr_ok hv101)),
         st_plain rfl ((Option.some.inj hv102) ▸ op_conv _ _ _ Tryd.underlying3 Tryd.underlying5 rfl),
         st_plain rfl (op_buildSlice _ _ 1 (.int .u8 0) (List.map (Value.int .u8) [v102]) [(0, .int .u8 v102)] Tryd.underlying22 sz5 zr5 (fun _ V w o a hv hes => by have e0 := rd_v hv hes (x := .tmp 64) rfl; simp only [List.map_toArray, List.map_cons, List.map_nil, e0]; try rfl) (litfill (by simp [Instr.fill, Value.cells]; rfl) (by simp [List.range, List.range.loop] <;> rfl)) (by simp [Value.oneCell']) rfl (by decide) (by decide) (by decide)),
         st_plain rfl (op_app _ _ _ _ _ el22 rfl rfl (map_len _) (map_len _) hv103 ((List.map_append).symm.trans (congrArg (List.map _) (app_eq hv103)))),
         st_plain rfl (op_assign_take _ _ _ _ rfl),
         trivial⟩ ?_
        refine pt_inb ?_
        refine pt_then ?_
        obtain ⟨v104, hv104, h⟩ := bind_some h
        refine ht_seqR hn (El := [_, _, _, _, _, _, (55, .v (.int .i64 s415)), (56, .v (.int .i64 v104)), (10, .v (.int .i64 v104))]) (init := [0, 1, 2, 3, 4, 5]) (fin := [0, 1, 2, 3, 5, 8]) (sps := [⟨[4], [], [6], [(.slot 55)]⟩, ⟨[6], [], [7], [(.slot 56)]⟩, ⟨[7], [4], [8], [(.slot 10)]⟩]) (es' := [(_, _), (_, _), (_, _), (_, _), (_, _), (10, .v (.int .i64 v104))]) (by kernel_rfl) rfl rfl
         ⟨st_plain rfl (op_move _ _ _ _ rfl rfl),
         st_plain rfl (op_bin _ _ _ _ _ rfl rfl (ibind (f := Value.int .i64) (Option.some.inj hv104))),
         st_plain rfl (LOp.drop [_] (op_assign _ _ _ _ rfl rfl)),
         trivial⟩ ?_
        refine pt_pick [0, 4, 1, 2, 3, 5] (by kernel_rfl) (es' := [(_, _), (_, _), (_, _), (_, _), (_, _), (_, _)]) rfl ?_
        exact pt_next _ (Option.some.inj h).symm rfl
       ·have h := cond_f hb424 h
        refine ht_exit ?_
        refine pt_x_then ?_
        refine pt_x_then ?_
        refine pt_x_in ?_
        refine pt_pick [0, 1, 2] (by kernel_rfl) (es' := [(_, _), (_, _), (_, _)]) rfl ?_
        exact hl419 _ (ho421 _ (Option.some.inj h).symm).symm
     ·rintro u387 hl388 hr389 ⟨s365, s366, s367⟩ rr392 h ho390
      refine ht_seq ?_
      refine ht_seq ?_
      refine ht_seqR hn (El := [_, _, _, _, _, _, (21, .v (.int .i64 s367)), (22, .v (.bool ((decide (s367 < 4)))))]) (init := [0, 1, 2, 3, 4, 5]) (fin := [0, 1, 2, 3, 4, 5, 7]) (sps := [⟨[5], [], [6], [(.slot 21)]⟩, ⟨[6], [], [7], [(.slot 22)]⟩]) (es' := [(_, _), (_, _), (_, _), (_, _), (_, _), (_, _), (22, .v (.bool ((decide (s367 < 4)))))]) (by kernel_rfl) rfl rfl
       ⟨st_plain rfl (op_move _ _ _ _ rfl rfl),
       st_plain rfl (op_bin _ _ _ _ _ rfl rfl rfl),
       trivial⟩ ?_
      refine pt_then ?_
      refine ht_cond _ rfl (fun hb393 => ?_) (fun hb393 => ?_)
      ·have h := cond_t hb393 h
       refine ht_skip ?_
       refine pt_then ?_
       refine ht_seq ?_
       refine ht_block ?_
       refine ht_seq ?_
       obtain ⟨v5, hv5, h⟩ := bind_some h
       obtain ⟨v6, hv6, h⟩ := bind_some h
       obtain ⟨v7, hv7, h⟩ := bind_some h
       refine ht_seqR hn (El := [_, _, _, _, _, _, _, (25, .v (.string s)), (26, .v (.int .i64 s221)), (27, .v (.int .i64 s367)), (28, .v (.int .i64 v5)), (29, .v (.int .u8 v6)), (30, .v (.int .i64 v7)), (9, .v (.int .i64 v7))]) (init := [0, 1, 2, 3, 4, 5, 6]) (fin := [0, 1, 2, 3, 4, 5, 13]) (sps := [⟨[0], [], [7], [(.slot 25)]⟩, ⟨[2], [], [8], [(.slot 26)]⟩, ⟨[5], [], [9], [(.slot 27)]⟩, ⟨[8, 9], [], [10], [(.slot 28)]⟩, ⟨[7, 10], [], [11], [(.slot 29)]⟩, ⟨[11], [], [12], [(.slot 30)]⟩, ⟨[12], [], [13], [(.slot 9)]⟩]) (es' := [(_, _), (_, _), (_, _), (_, _), (_, _), (_, _), (9, .v (.int .i64 v7))]) (by kernel_rfl) rfl rfl
        ⟨st_plain rfl (op_move _ _ _ _ rfl rfl),
        st_plain rfl (op_move _ _ _ _ rfl rfl),
        st_plain rfl (op_move _ _ _ _ rfl rfl),
        st_plain rfl (op_bin _ _ _ _ _ rfl rfl (ibind (f := Value.int .i64) (Option.some.inj hv5))),
        st_plain rfl (op_chr _ _ _ v5 _ Tryd.underlying9 rfl rfl hv6),
        st_plain rfl (op_call _ _ 24 _ _ rfl Tryd.call24 rfl (ok_wherryref08_value v6 _ hv7) rfl rfl),
        st_plain rfl (op_assign _ _ _ _ rfl rfl),
        trivial⟩ ?_
       refine pt_then ?_
       refine ht_seq ?_
       refine ht_joinS h (fun (s400 : Int) => [(0, .v (.string s)), (4, .fl (.own 5) 1 (List.map (Value.int .u8) s220)), (5, .v (.int .i64 s221)), (6, .v (.int .i64 s365)), (8, .v (.int .i64 s367)), (9, .v (.int .i64 v7)), (7, .v (.int .i64 s400))]) ?_ ?_
       ·rintro s400 h
        refine pt_then ?_
        obtain ⟨v27, hv27, h⟩ := bind_some h
        obtain ⟨v28, hv28, h⟩ := bind_some h
        obtain ⟨v29, hv29, h⟩ := bind_some h
        refine ht_seqR hn (El := [_, _, _, _, _, _, _, (46, .v (.int .i64 s365)), (47, .v (.int .i64 v27)), (48, .v (.int .i64 v7)), (49, .v (.int .i64 v28)), (50, .v (.int .i64 v29)), (6, .v (.int .i64 v29))]) (init := [0, 1, 2, 3, 4, 5, 6]) (fin := [0, 1, 2, 4, 6, 12]) (sps := [⟨[3], [], [7], [(.slot 46)]⟩, ⟨[7], [], [8], [(.slot 47)]⟩, ⟨[5], [], [9], [(.slot 48)]⟩, ⟨[9], [], [10], [(.slot 49)]⟩, ⟨[8, 10], [], [11], [(.slot 50)]⟩, ⟨[11], [3], [12], [(.slot 6)]⟩]) (es' := [(_, _), (_, _), (_, _), (_, _), (_, _), (6, .v (.int .i64 v29))]) (by kernel_rfl) rfl rfl
         ⟨st_plain rfl (op_move _ _ _ _ rfl rfl),
         st_plain rfl (op_bin _ _ _ _ _ rfl rfl (shl_ok hv27)),
         st_plain rfl (op_move _ _ _ _ rfl rfl),
         st_plain rfl ((Option.some.inj hv28) ▸ op_max _ _ _ _ rfl rfl),
         st_plain rfl (op_bin _ _ _ _ _ rfl rfl (ibind (f := Value.int .i64) (Option.some.inj hv29))),
         st_plain rfl (LOp.drop [_] (op_assign _ _ _ _ rfl rfl)),
         trivial⟩ ?_
        refine pt_inb ?_
        refine pt_then ?_
        obtain ⟨v30, hv30, h⟩ := bind_some h
        refine ht_seqR hn (El := [_, _, _, _, _, _, (23, .v (.int .i64 s367)), (24, .v (.int .i64 v30)), (8, .v (.int .i64 v30))]) (init := [0, 1, 2, 3, 4, 5]) (fin := [0, 1, 2, 4, 5, 8]) (sps := [⟨[3], [], [6], [(.slot 23)]⟩, ⟨[6], [], [7], [(.slot 24)]⟩, ⟨[7], [3], [8], [(.slot 8)]⟩]) (es' := [(_, _), (_, _), (_, _), (_, _), (_, _), (8, .v (.int .i64 v30))]) (by kernel_rfl) rfl rfl
         ⟨st_plain rfl (op_move _ _ _ _ rfl rfl),
         st_plain rfl (op_bin _ _ _ _ _ rfl rfl (ibind (f := Value.int .i64) (Option.some.inj hv30))),
         st_plain rfl (LOp.drop [_] (op_assign _ _ _ _ rfl rfl)),
         trivial⟩ ?_
        refine pt_pick [0, 1, 2, 4, 3, 5] (by kernel_rfl) (es' := [(_, _), (_, _), (_, _), (_, _), (_, _), (_, _)]) rfl ?_
        exact pt_next _ (Option.some.inj h).symm rfl
       ·intro u401 h hl402 hr403
        refine ht_seq ?_
        refine ht_joinS h (fun (s404 : Bool) => [(0, .v (.string s)), (4, .fl (.own 5) 1 (List.map (Value.int .u8) s220)), (5, .v (.int .i64 s221)), (6, .v (.int .i64 s365)), (7, .v (.int .i64 s366)), (8, .v (.int .i64 s367)), (9, .v (.int .i64 v7)), (37, .v (.bool s404))]) ?_ ?_
        ·rintro s404 h
         refine pt_then ?_
         refine ht_cond _ rfl (fun hb408 => ?_) (fun hb408 => ?_)
         ·have h := cond_t hb408 h
          obtain ⟨v13, hv13, h⟩ := bind_some h
          refine ht_seqR hn (El := [_, _, _, _, _, _, _, _, (38, .v (.int .i64 s366)), (39, .v (.int .i64 v13)), (7, .v (.int .i64 v13))]) (init := [0, 1, 2, 3, 4, 5, 6, 7]) (fin := [0, 1, 2, 3, 5, 6, 10]) (sps := [⟨[4], [], [8], [(.slot 38)]⟩, ⟨[8], [], [9], [(.slot 39)]⟩, ⟨[9], [4], [10], [(.slot 7)]⟩]) (es' := [(_, _), (_, _), (_, _), (_, _), (_, _), (_, _), (7, .v (.int .i64 v13))]) (by kernel_rfl) rfl rfl
           ⟨st_plain rfl (op_move _ _ _ _ rfl rfl),
           st_plain rfl (op_bin _ _ _ _ _ rfl rfl (ibind (f := Value.int .i64) (Option.some.inj hv13))),
           st_plain rfl (LOp.drop [_] (op_assign _ _ _ _ rfl rfl)),
           trivial⟩ ?_
          exact hl402 _ (Option.some.inj h).symm
         ·have h := cond_f hb408 h
          refine ht_seq ?_
          obtain ⟨v14, hv14, h⟩ := bind_some h
          obtain ⟨v15, hv15, h⟩ := bind_some h
          refine ht_seqR hn (El := [_, _, _, _, _, _, _, _, (40, .v (.string s)), (41, .v (.int .i64 s221)), (42, .v (.int .i64 s367)), (43, .v (.int .i64 v14)), (44, .v (.int .u8 v15)), (45, .v (.bool (v15 != 61)))]) (init := [0, 1, 2, 3, 4, 5, 6, 7]) (fin := [0, 1, 2, 3, 4, 5, 6, 13]) (sps := [⟨[0], [], [8], [(.slot 40)]⟩, ⟨[2], [], [9], [(.slot 41)]⟩, ⟨[5], [], [10], [(.slot 42)]⟩, ⟨[9, 10], [], [11], [(.slot 43)]⟩, ⟨[8, 11], [], [12], [(.slot 44)]⟩, ⟨[12], [], [13], [(.slot 45)]⟩]) (es' := [(_, _), (_, _), (_, _), (_, _), (_, _), (_, _), (_, _), (45, .v (.bool (v15 != 61)))]) (by kernel_rfl) rfl rfl
           ⟨st_plain rfl (op_move _ _ _ _ rfl rfl),
           st_plain rfl (op_move _ _ _ _ rfl rfl),
           st_plain rfl (op_move _ _ _ _ rfl rfl),
           st_plain rfl (op_bin _ _ _ _ _ rfl rfl (ibind (f := Value.int .i64) (Option.some.inj hv14))),
           st_plain rfl (op_chr _ _ _ v14 _ Tryd.underlying9 rfl rfl hv15),
           st_plain rfl (op_bin _ _ _ _ _ rfl rfl rfl),
           trivial⟩ ?_
          refine pt_then ?_
          refine ht_cond _ rfl (fun hb409 => ?_) (fun hb409 => ?_)
          ·have h := cond_t hb409 h
           refine ht_seq ?_
           refine ht_seqR hn (El := [_, _, _, _, _, _, _, _, (2, .v (.slice none 0 0)), (3, .v (.bool false))]) (init := [0, 1, 2, 3, 4, 5, 6, 7]) (fin := [8, 9]) (sps := [⟨[], [], [8], [(.slot 2)]⟩, ⟨[], [], [9], [(.slot 3)]⟩]) (es' := [(2, .v (.slice none 0 0)), (3, .v (.bool false))]) (by kernel_rfl) rfl rfl
            ⟨st_plain rfl (op_assign _ _ _ _ rfl rfl),
            st_plain rfl (op_assign _ _ _ _ rfl rfl),
            trivial⟩ ?_
           refine pt_then ?_
           refine ht_ret ?_
           refine pt_sub (fs := [(2, .fl (.own 5) 1 (List.map (Value.int .u8) [])), (3, .v (.bool false))]) (.sub _ (sub_nil 5 1) rfl (.same _ .nil)) ?_
           refine pt_r_then ?_
           refine pt_r_in ?_
           refine pt_r_then ?_
           refine pt_r_then ?_
           refine pt_r_in ?_
           refine pt_r_then ?_
           refine pt_r_in ?_
           refine pt_r_then ?_
           refine pt_r_then ?_
           refine pt_r_in ?_
           refine pt_r_then ?_
           have h := hr403 _ (Option.some.inj h).symm
           have h := hr389 _ (ho390 _ (Option.some.inj h).symm).symm
           have h := hr323 _ (ho324 _ (Option.some.inj h).symm).symm
           obtain rfl := Option.some.inj h
           exact pt_ret hio rfl (.tmp _ _ (.tmp _ _ .nil)) rfl rfl
          ·have h := cond_f hb409 h
           refine ht_skip ?_
           refine pt_pick [0, 1, 2, 3, 5, 6, 4] (by kernel_rfl) (es' := [(_, _), (_, _), (_, _), (_, _), (_, _), (_, _), (_, _)]) rfl ?_
           exact hl402 _ (Option.some.inj h).symm
        ·intro u405 h hl406 hr407
         refine cond_some h (fun hg12_2 h => ?_) (fun hg12_2 h => ?_)
         ·refine ht_seqR hn (El := [_, _, _, _, _, _, _, (31, .v (.int .i64 v7)), (32, .v (.bool ((decide (0 ≤ v7))))), (33, .v (.bool true)), (34, .v (.int .i64 s366)), (35, .v (.int .i64 s367)), (36, .v (.bool (s366 == s367))), (37, .v (.bool (s366 == s367)))]) (init := [0, 1, 2, 3, 4, 5, 6]) (fin := [0, 1, 2, 3, 4, 5, 6, 13]) (sps := [⟨[6], [], [7], [(.slot 31)]⟩, ⟨[7], [], [8], [(.slot 32)]⟩, ⟨[8], [], [9], [(.slot 33)]⟩, ⟨[9, 4], [], [10], [(.slot 34)]⟩, ⟨[9, 5], [], [11], [(.slot 35)]⟩, ⟨[9, 10, 11], [], [12], [(.slot 36)]⟩, ⟨[9, 12], [], [13], [(.slot 37)]⟩]) (es' := [(_, _), (_, _), (_, _), (_, _), (_, _), (_, _), (_, _), (37, .v (.bool (s366 == s367)))]) (by kernel_rfl) rfl rfl
           ⟨st_plain rfl (op_move _ _ _ _ rfl rfl),
           st_plain rfl (op_bin _ _ _ _ _ rfl rfl rfl),
           st_plain rfl (op_move _ _ _ _ (congrArg (fun b => AV.v (Value.bool b)) hg12_2) rfl),
           st_run 2 33 true rfl rfl rfl (List.Mem.head _) (op_move _ _ _ _ rfl rfl),
           st_run 2 33 true rfl rfl rfl (List.Mem.head _) (op_move _ _ _ _ rfl rfl),
           st_run 2 33 true rfl rfl rfl (List.Mem.head _) (op_bin _ _ _ _ _ rfl rfl rfl),
           st_plain rfl (op_pick _ _ true _ rfl rfl),
           trivial⟩ ?_
          exact hl406 _ (Option.some.inj h).symm
         ·refine ht_seqR hn (El := [_, _, _, _, _, _, _, (31, .v (.int .i64 v7)), (32, .v (.bool ((decide (0 ≤ v7))))), (33, .v (.bool false)), (34, .v undef), (35, .v undef), (36, .v undef), (37, .v (.bool false))]) (init := [0, 1, 2, 3, 4, 5, 6]) (fin := [0, 1, 2, 3, 4, 5, 6, 13]) (sps := [⟨[6], [], [7], [(.slot 31)]⟩, ⟨[7], [], [8], [(.slot 32)]⟩, ⟨[8], [], [9], [(.slot 33)]⟩, ⟨[9], [], [10], [(.slot 34)]⟩, ⟨[9], [], [11], [(.slot 35)]⟩, ⟨[9], [], [12], [(.slot 36)]⟩, ⟨[9], [], [13], [(.slot 37)]⟩]) (es' := [(_, _), (_, _), (_, _), (_, _), (_, _), (_, _), (_, _), (37, .v (.bool false))]) (by kernel_rfl) rfl rfl
           ⟨st_plain rfl (op_move _ _ _ _ rfl rfl),
           st_plain rfl (op_bin _ _ _ _ _ rfl rfl rfl),
           st_plain rfl (op_move _ _ _ _ (congrArg (fun b => AV.v (Value.bool b)) hg12_2) rfl),
           st_skip 2 33 _ true rfl rfl rfl rfl (List.Mem.head _),
           st_skip 2 33 _ true rfl rfl rfl rfl (List.Mem.head _),
           st_skip 2 33 _ true rfl rfl rfl rfl (List.Mem.head _),
           st_plain rfl (op_pick _ _ false _ rfl rfl),
           trivial⟩ ?_
          exact hl406 _ (Option.some.inj h).symm
      ·have h := cond_f hb393 h
       refine ht_exit ?_
       refine pt_x_then ?_
       refine pt_x_then ?_
       refine pt_x_in ?_
       refine pt_pick [0, 1, 2, 3, 4] (by kernel_rfl) (es' := [(_, _), (_, _), (_, _), (_, _), (_, _)]) rfl ?_
       exact hl388 _ (ho390 _ (Option.some.inj h).symm).symm
    ·have h := cond_f hb327 h
     refine ht_exit ?_
     refine pt_x_then ?_
     refine pt_x_then ?_
     refine pt_x_in ?_
     refine pt_pick [0, 1] (by kernel_rfl) (es' := [(_, _), (_, _)]) rfl ?_
     exact hl322 _ (ho324 _ (Option.some.inj h).symm).symm

set_option maxHeartbeats 1000000 in
theorem ok_wherryref08_sines (r : (List Int)) (h : Sh.wherryref08_sines  = some r) : FnOK Tryd.prog 49 [] (.fl (.own 49) 1 (List.map (Value.int .u32) r)) := by
  unfold Sh.wherryref08_sines at h
  refine fn_ok Tryd.func49 rfl (Nat.le_of_ble_eq_true rfl) rfl rfl fun g0 hn hio => ?_
  refine ht_seq ?_
  refine ht_seqR hn (El := [(0, .v (.slice none 0 0))]) (init := []) (fin := []) (sps := [⟨[], [], [0], [(.slot 0)]⟩]) (es' := []) (by kernel_rfl) rfl rfl
   ⟨st_plain rfl (op_assign _ _ _ _ rfl rfl),
   trivial⟩ ?_
  refine pt_then ?_
  refine ht_seq ?_
  refine ht_seqR hn (El := [(1, .fl (.own 49) 1 (List.map (Value.int .u32) [3614090360, 3905402710, 606105819, 3250441966, 4118548399, 1200080426, 2821735955, 4249261313, 1770035416, 2336552879, 4294925233, 2304563134, 1804603682, 4254626195, 2792965006, 1236535329, 4129170786, 3225465664, 643717713, 3921069994, 3593408605, 38016083, 3634488961, 3889429448, 568446438, 3275163606, 4107603335, 1163531501, 2850285829, 4243563512, 1735328473, 2368359562, 4294588738, 2272392833, 1839030562, 4259657740, 2763975236, 1272893353, 4139469664, 3200236656, 681279174, 3936430074, 3572445317, 76029189, 3654602809, 3873151461, 530742520, 3299628645, 4096336452, 1126891415, 2878612391, 4237533241, 1700485571, 2399980690, 4293915773, 2240044497, 1873313359, 4264355552, 2734768916, 1309151649, 4149444226, 3174756917, 718787259, 3951481745])), (0, .fl (.own 49) 1 (List.map (Value.int .u32) [3614090360, 3905402710, 606105819, 3250441966, 4118548399, 1200080426, 2821735955, 4249261313, 1770035416, 2336552879, 4294925233, 2304563134, 1804603682, 4254626195, 2792965006, 1236535329, 4129170786, 3225465664, 643717713, 3921069994, 3593408605, 38016083, 3634488961, 3889429448, 568446438, 3275163606, 4107603335, 1163531501, 2850285829, 4243563512, 1735328473, 2368359562, 4294588738, 2272392833, 1839030562, 4259657740, 2763975236, 1272893353, 4139469664, 3200236656, 681279174, 3936430074, 3572445317, 76029189, 3654602809, 3873151461, 530742520, 3299628645, 4096336452, 1126891415, 2878612391, 4237533241, 1700485571, 2399980690, 4293915773, 2240044497, 1873313359, 4264355552, 2734768916, 1309151649, 4149444226, 3174756917, 718787259, 3951481745]))]) (init := []) (fin := [1]) (sps := [⟨[], [], [0], [(.slot 1)]⟩, ⟨[], [0], [1], [(.slot 0)]⟩]) (es' := [(0, .fl (.own 49) 1 (List.map (Value.int .u32) [3614090360, 3905402710, 606105819, 3250441966, 4118548399, 1200080426, 2821735955, 4249261313, 1770035416, 2336552879, 4294925233, 2304563134, 1804603682, 4254626195, 2792965006, 1236535329, 4129170786, 3225465664, 643717713, 3921069994, 3593408605, 38016083, 3634488961, 3889429448, 568446438, 3275163606, 4107603335, 1163531501, 2850285829, 4243563512, 1735328473, 2368359562, 4294588738, 2272392833, 1839030562, 4259657740, 2763975236, 1272893353, 4139469664, 3200236656, 681279174, 3936430074, 3572445317, 76029189, 3654602809, 3873151461, 530742520, 3299628645, 4096336452, 1126891415, 2878612391, 4237533241, 1700485571, 2399980690, 4293915773, 2240044497, 1873313359, 4264355552, 2734768916, 1309151649, 4149444226, 3174756917, 718787259, 3951481745]))]) (by kernel_rfl) rfl rfl
   ⟨st_plain rfl (op_buildSlice _ _ 1 (.int .u32 0) (List.map (Value.int .u32) [3614090360, 3905402710, 606105819, 3250441966, 4118548399, 1200080426, 2821735955, 4249261313, 1770035416, 2336552879, 4294925233, 2304563134, 1804603682, 4254626195, 2792965006, 1236535329, 4129170786, 3225465664, 643717713, 3921069994, 3593408605, 38016083, 3634488961, 3889429448, 568446438, 3275163606, 4107603335, 1163531501, 2850285829, 4243563512, 1735328473, 2368359562, 4294588738, 2272392833, 1839030562, 4259657740, 2763975236, 1272893353, 4139469664, 3200236656, 681279174, 3936430074, 3572445317, 76029189, 3654602809, 3873151461, 530742520, 3299628645, 4096336452, 1126891415, 2878612391, 4237533241, 1700485571, 2399980690, 4293915773, 2240044497, 1873313359, 4264355552, 2734768916, 1309151649, 4149444226, 3174756917, 718787259, 3951481745]) [(0, .int .u32 3614090360), (1, .int .u32 3905402710), (2, .int .u32 606105819), (3, .int .u32 3250441966), (4, .int .u32 4118548399), (5, .int .u32 1200080426), (6, .int .u32 2821735955), (7, .int .u32 4249261313), (8, .int .u32 1770035416), (9, .int .u32 2336552879), (10, .int .u32 4294925233), (11, .int .u32 2304563134), (12, .int .u32 1804603682), (13, .int .u32 4254626195), (14, .int .u32 2792965006), (15, .int .u32 1236535329), (16, .int .u32 4129170786), (17, .int .u32 3225465664), (18, .int .u32 643717713), (19, .int .u32 3921069994), (20, .int .u32 3593408605), (21, .int .u32 38016083), (22, .int .u32 3634488961), (23, .int .u32 3889429448), (24, .int .u32 568446438), (25, .int .u32 3275163606), (26, .int .u32 4107603335), (27, .int .u32 1163531501), (28, .int .u32 2850285829), (29, .int .u32 4243563512), (30, .int .u32 1735328473), (31, .int .u32 2368359562), (32, .int .u32 4294588738), (33, .int .u32 2272392833), (34, .int .u32 1839030562), (35, .int .u32 4259657740), (36, .int .u32 2763975236), (37, .int .u32 1272893353), (38, .int .u32 4139469664), (39, .int .u32 3200236656), (40, .int .u32 681279174), (41, .int .u32 3936430074), (42, .int .u32 3572445317), (43, .int .u32 76029189), (44, .int .u32 3654602809), (45, .int .u32 3873151461), (46, .int .u32 530742520), (47, .int .u32 3299628645), (48, .int .u32 4096336452), (49, .int .u32 1126891415), (50, .int .u32 2878612391), (51, .int .u32 4237533241), (52, .int .u32 1700485571), (53, .int .u32 2399980690), (54, .int .u32 4293915773), (55, .int .u32 2240044497), (56, .int .u32 1873313359), (57, .int .u32 4264355552), (58, .int .u32 2734768916), (59, .int .u32 1309151649), (60, .int .u32 4149444226), (61, .int .u32 3174756917), (62, .int .u32 718787259), (63, .int .u32 3951481745)] Tryd.underlying82 sz49 zr49 (fun _ V w o a hv hes => by simp only [List.map_toArray, List.map_cons, List.map_nil]; try rfl) (litfill (by simp [Instr.fill, Value.cells]; rfl) (by simp [List.range, List.range.loop] <;> rfl)) (by simp [Value.oneCell']) rfl (by decide) (by decide) (by decide)),
   st_plain rfl (op_assign_take _ _ _ _ rfl),
   trivial⟩ ?_
  refine pt_then ?_
  refine ht_ret ?_
  obtain rfl := Option.some.inj h
  exact pt_ret hio rfl (.tmp _ _ .nil) rfl rfl

set_option maxHeartbeats 1000000 in
theorem ok_wherryref08_word (x : (List Int)) (at_ : Int) (r : Int) (h : Sh.wherryref08_word x at_ = some r) : FnOK Tryd.prog 50 [.fl .shr 1 (List.map (Value.int .u8) x), .v (.int .i64 at_)] (.v (.int .u32 r)) := by
  unfold Sh.wherryref08_word at h
  refine fn_ok Tryd.func50 rfl (Nat.le_of_ble_eq_true rfl) rfl rfl fun g0 hn hio => ?_
  refine ht_seq ?_
  refine ht_seqR hn (El := [_, _, (4, .v (.int .u32 0))]) (init := [0, 1]) (fin := [0, 1]) (sps := [⟨[], [], [2], [(.slot 4)]⟩]) (es' := [(_, _), (_, _)]) (by kernel_rfl) rfl rfl
   ⟨st_plain rfl (op_assign _ _ _ _ rfl rfl),
   trivial⟩ ?_
  refine pt_then ?_
  refine ht_seq ?_
  obtain ⟨v1, hv1, h⟩ := bind_some h
  obtain ⟨v2, hv2, h⟩ := bind_some h
  obtain ⟨v3, hv3, h⟩ := bind_some h
  obtain ⟨v4, hv4, h⟩ := bind_some h
  obtain ⟨v5, hv5, h⟩ := bind_some h
  obtain ⟨v6, hv6, h⟩ := bind_some h
  obtain ⟨v7, hv7, h⟩ := bind_some h
  obtain ⟨v8, hv8, h⟩ := bind_some h
  obtain ⟨v9, hv9, h⟩ := bind_some h
  obtain ⟨v10, hv10, h⟩ := bind_some h
  obtain ⟨v11, hv11, h⟩ := bind_some h
  obtain ⟨v12, hv12, h⟩ := bind_some h
  obtain ⟨v13, hv13, h⟩ := bind_some h
  obtain ⟨v14, hv14, h⟩ := bind_some h
  obtain ⟨v15, hv15, h⟩ := bind_some h
  obtain ⟨v16, hv16, h⟩ := bind_some h
  obtain ⟨v17, hv17, h⟩ := bind_some h
  obtain ⟨v18, hv18, h⟩ := bind_some h
  obtain ⟨v19, hv19, h⟩ := bind_some h
  obtain ⟨v20, hv20, h⟩ := bind_some h
  obtain ⟨v21, hv21, h⟩ := bind_some h
  refine ht_anyR (by kernel_rfl) hn (El := (_ :: _ :: (5, .fl .shr 1 (List.map (Value.int .u8) x)) :: (6, .v (.int .i64 at_)) :: (7, .eref (.slot 5) (v1 * 1)) :: (8, .v (.int .u8 v2)) :: (9, .v (.int .u32 v3)) :: (10, .fl .shr 1 (List.map (Value.int .u8) x)) :: (11, .v (.int .i64 at_)) :: (12, .v (.int .i64 v4)) :: (13, .eref (.slot 10) (v5 * 1)) :: (14, .v (.int .u8 v6)) :: (15, .v (.int .u32 v7)) :: (16, .v (.int .u32 v8)) :: (17, .v (.int .u32 v9)) :: (18, .fl .shr 1 (List.map (Value.int .u8) x)) :: (19, .v (.int .i64 at_)) :: (20, .v (.int .i64 v10)) :: (21, .eref (.slot 18) (v11 * 1)) :: (22, .v (.int .u8 v12)) :: (23, .v (.int .u32 v13)) :: (24, .v (.int .u32 v14)) :: (25, .v (.int .u32 v15)) :: (26, .fl .shr 1 (List.map (Value.int .u8) x)) :: (27, .v (.int .i64 at_)) :: (28, .v (.int .i64 v16)) :: (29, .eref (.slot 26) (v17 * 1)) :: (30, .v (.int .u8 v18)) :: (31, .v (.int .u32 v19)) :: (32, .v (.int .u32 v20)) :: (33, .v (.int .u32 v21)) :: (4, .v (.int .u32 v21)) :: [])) (init := [0, 1]) (fin := [31]) (sps := (⟨[0], [], [2], [(.slot 5)]⟩ :: ⟨[1], [], [3], [(.slot 6)]⟩ :: ⟨[2, 3], [], [4], [(.slot 7)]⟩ :: ⟨[4, 2], [], [5], [(.slot 8)]⟩ :: ⟨[5], [], [6], [(.slot 9)]⟩ :: ⟨[0], [], [7], [(.slot 10)]⟩ :: ⟨[1], [], [8], [(.slot 11)]⟩ :: ⟨[8], [], [9], [(.slot 12)]⟩ :: ⟨[7, 9], [], [10], [(.slot 13)]⟩ :: ⟨[10, 7], [], [11], [(.slot 14)]⟩ :: ⟨[11], [], [12], [(.slot 15)]⟩ :: ⟨[12], [], [13], [(.slot 16)]⟩ :: ⟨[6, 13], [], [14], [(.slot 17)]⟩ :: ⟨[0], [], [15], [(.slot 18)]⟩ :: ⟨[1], [], [16], [(.slot 19)]⟩ :: ⟨[16], [], [17], [(.slot 20)]⟩ :: ⟨[15, 17], [], [18], [(.slot 21)]⟩ :: ⟨[18, 15], [], [19], [(.slot 22)]⟩ :: ⟨[19], [], [20], [(.slot 23)]⟩ :: ⟨[20], [], [21], [(.slot 24)]⟩ :: ⟨[14, 21], [], [22], [(.slot 25)]⟩ :: ⟨[0], [], [23], [(.slot 26)]⟩ :: ⟨[1], [], [24], [(.slot 27)]⟩ :: ⟨[24], [], [25], [(.slot 28)]⟩ :: ⟨[23, 25], [], [26], [(.slot 29)]⟩ :: ⟨[26, 23], [], [27], [(.slot 30)]⟩ :: ⟨[27], [], [28], [(.slot 31)]⟩ :: ⟨[28], [], [29], [(.slot 32)]⟩ :: ⟨[22, 29], [], [30], [(.slot 33)]⟩ :: ⟨[30], [], [31], [(.slot 4)]⟩ :: [])) (es' := [(4, .v (.int .u32 v21))]) (by kernel_rfl) rfl rfl
   ⟨st_plain rfl (op_move _ _ _ _ rfl rfl),
   st_plain rfl (op_move _ _ _ _ rfl rfl),
   st_plain rfl (op_ix _ _ _ _ _ _ _ _ Tryd.underlying22 sz5 (by decide) rfl rfl rfl (ix_ok hv1).1 (map_lt (ix_ok hv1).2) rfl),
   st_plain rfl (op_load_e _ _ _ _ _ _ Tryd.underlying5 rfl rfl rfl (map_get hv2)),
   st_plain rfl ((Option.some.inj hv3) ▸ op_conv _ _ _ Tryd.underlying5 Tryd.underlying49 rfl),
   st_plain rfl (op_move _ _ _ _ rfl rfl),
   st_plain rfl (op_move _ _ _ _ rfl rfl),
   st_plain rfl (op_bin _ _ _ _ _ rfl rfl (ibind (f := Value.int .i64) (Option.some.inj hv4))),
   st_plain rfl (op_ix _ _ _ _ _ _ _ _ Tryd.underlying22 sz5 (by decide) rfl rfl rfl (ix_ok hv5).1 (map_lt (ix_ok hv5).2) rfl),
   st_plain rfl (op_load_e _ _ _ _ _ _ Tryd.underlying5 rfl rfl rfl (map_get hv6)),
   st_plain rfl ((Option.some.inj hv7) ▸ op_conv _ _ _ Tryd.underlying5 Tryd.underlying49 rfl),
   st_plain rfl (op_bin _ _ _ _ _ rfl rfl (shl_ok hv8)),
   st_plain rfl (op_bin _ _ _ _ _ rfl rfl (ibind (f := Value.int .u32) (Option.some.inj hv9))),
   st_plain rfl (op_move _ _ _ _ rfl rfl),
   st_plain rfl (op_move _ _ _ _ rfl rfl),
   st_plain rfl (op_bin _ _ _ _ _ rfl rfl (ibind (f := Value.int .i64) (Option.some.inj hv10))),
   st_plain rfl (op_ix _ _ _ _ _ _ _ _ Tryd.underlying22 sz5 (by decide) rfl rfl rfl (ix_ok hv11).1 (map_lt (ix_ok hv11).2) rfl),
   st_plain rfl (op_load_e _ _ _ _ _ _ Tryd.underlying5 rfl rfl rfl (map_get hv12)),
   st_plain rfl ((Option.some.inj hv13) ▸ op_conv _ _ _ Tryd.underlying5 Tryd.underlying49 rfl),
   st_plain rfl (op_bin _ _ _ _ _ rfl rfl (shl_ok hv14)),
   st_plain rfl (op_bin _ _ _ _ _ rfl rfl (ibind (f := Value.int .u32) (Option.some.inj hv15))),
   st_plain rfl (op_move _ _ _ _ rfl rfl),
   st_plain rfl (op_move _ _ _ _ rfl rfl),
   st_plain rfl (op_bin _ _ _ _ _ rfl rfl (ibind (f := Value.int .i64) (Option.some.inj hv16))),
   st_plain rfl (op_ix _ _ _ _ _ _ _ _ Tryd.underlying22 sz5 (by decide) rfl rfl rfl (ix_ok hv17).1 (map_lt (ix_ok hv17).2) rfl),
   st_plain rfl (op_load_e _ _ _ _ _ _ Tryd.underlying5 rfl rfl rfl (map_get hv18)),
   st_plain rfl ((Option.some.inj hv19) ▸ op_conv _ _ _ Tryd.underlying5 Tryd.underlying49 rfl),
   st_plain rfl (op_bin _ _ _ _ _ rfl rfl (shl_ok hv20)),
   st_plain rfl (op_bin _ _ _ _ _ rfl rfl (ibind (f := Value.int .u32) (Option.some.inj hv21))),
   st_plain rfl (op_assign _ _ _ _ rfl rfl),
   trivial⟩ ?_
  refine pt_then ?_
  refine ht_ret ?_
  obtain rfl := Option.some.inj h
  exact pt_ret hio rfl (.tmp _ _ .nil) rfl rfl

set_option maxHeartbeats 1000000 in
theorem ok_wherryref08_turns (i : Int) (r : Int) (h : Sh.wherryref08_turns i = some r) : FnOK Tryd.prog 51 [.v (.int .i64 i)] (.v (.int .u64 r)) := by
  unfold Sh.wherryref08_turns at h
  refine fn_ok Tryd.func51 rfl (Nat.le_of_ble_eq_true rfl) rfl rfl fun g0 hn hio => ?_
  refine ht_seq ?_
  refine ht_seqR hn (El := [_, (2, .v (.int .u64 0))]) (init := [0]) (fin := [0]) (sps := [⟨[], [], [1], [(.slot 2)]⟩]) (es' := [(_, _)]) (by kernel_rfl) rfl rfl
   ⟨st_plain rfl (op_assign _ _ _ _ rfl rfl),
   trivial⟩ ?_
  refine pt_then ?_
  refine ht_seq ?_
  refine ht_seqR hn (El := [_, (4, .fl (.own 36) 1 (List.map (Value.int .u64) [7, 12, 17, 22, 5, 9, 14, 20, 4, 11, 16, 23, 6, 10, 15, 21])), (3, .fl (.own 36) 1 (List.map (Value.int .u64) [7, 12, 17, 22, 5, 9, 14, 20, 4, 11, 16, 23, 6, 10, 15, 21]))]) (init := [0]) (fin := [0, 2]) (sps := [⟨[], [], [1], [(.slot 4)]⟩, ⟨[], [1], [2], [(.slot 3)]⟩]) (es' := [(_, _), (3, .fl (.own 36) 1 (List.map (Value.int .u64) [7, 12, 17, 22, 5, 9, 14, 20, 4, 11, 16, 23, 6, 10, 15, 21]))]) (by kernel_rfl) rfl rfl
   ⟨st_plain rfl (op_buildSlice _ _ 1 (.int .u64 0) (List.map (Value.int .u64) [7, 12, 17, 22, 5, 9, 14, 20, 4, 11, 16, 23, 6, 10, 15, 21]) [(0, .int .u64 7), (1, .int .u64 12), (2, .int .u64 17), (3, .int .u64 22), (4, .int .u64 5), (5, .int .u64 9), (6, .int .u64 14), (7, .int .u64 20), (8, .int .u64 4), (9, .int .u64 11), (10, .int .u64 16), (11, .int .u64 23), (12, .int .u64 6), (13, .int .u64 10), (14, .int .u64 15), (15, .int .u64 21)] Tryd.underlying99 sz36 zr36 (fun _ V w o a hv hes => by simp only [List.map_toArray, List.map_cons, List.map_nil]; try rfl) (litfill (by simp [Instr.fill, Value.cells]; rfl) (by simp [List.range, List.range.loop] <;> rfl)) (by simp [Value.oneCell']) rfl (by decide) (by decide) (by decide)),
   st_plain rfl (op_assign_take _ _ _ _ rfl),
   trivial⟩ ?_
  refine pt_then ?_
  refine ht_seq ?_
  obtain ⟨v1, hv1, h⟩ := bind_some h
  obtain ⟨v2, hv2, h⟩ := bind_some h
  obtain ⟨v3, hv3, h⟩ := bind_some h
  obtain ⟨v4, hv4, h⟩ := bind_some h
  obtain ⟨v5, hv5, h⟩ := bind_some h
  obtain ⟨v6, hv6, h⟩ := bind_some h
  refine ht_seqR hn (El := [_, _, (5, .fl (.own 36) 1 (List.map (Value.int .u64) [7, 12, 17, 22, 5, 9, 14, 20, 4, 11, 16, 23, 6, 10, 15, 21])), (6, .v (.int .i64 i)), (7, .v (.int .i64 v1)), (8, .v (.int .i64 v2)), (9, .v (.int .i64 i)), (10, .v (.int .i64 v3)), (11, .v (.int .i64 v4)), (12, .eref (.slot 5) (v5 * 1)), (13, .v (.int .u64 v6)), (2, .v (.int .u64 v6))]) (init := [0, 1]) (fin := [11]) (sps := [⟨[], [1], [2], [(.slot 5)]⟩, ⟨[0], [], [3], [(.slot 6)]⟩, ⟨[3], [], [4], [(.slot 7)]⟩, ⟨[4], [], [5], [(.slot 8)]⟩, ⟨[0], [], [6], [(.slot 9)]⟩, ⟨[6], [], [7], [(.slot 10)]⟩, ⟨[5, 7], [], [8], [(.slot 11)]⟩, ⟨[2, 8], [], [9], [(.slot 12)]⟩, ⟨[9, 2], [], [10], [(.slot 13)]⟩, ⟨[10], [], [11], [(.slot 2)]⟩]) (es' := [(2, .v (.int .u64 v6))]) (by kernel_rfl) rfl rfl
   ⟨st_plain rfl (op_move_take _ _ _ _ rfl),
   st_plain rfl (op_move _ _ _ _ rfl rfl),
   st_plain rfl (op_bin _ _ _ _ _ rfl rfl (quo_ok hv1)),
   st_plain rfl (op_bin _ _ _ _ _ rfl rfl (ibind (f := Value.int .i64) (Option.some.inj hv2))),
   st_plain rfl (op_move _ _ _ _ rfl rfl),
   st_plain rfl (op_bin _ _ _ _ _ rfl rfl (rem_ok hv3)),
   st_plain rfl (op_bin _ _ _ _ _ rfl rfl (ibind (f := Value.int .i64) (Option.some.inj hv4))),
   st_plain rfl (op_ix _ _ _ _ _ _ _ _ Tryd.underlying99 sz36 (by decide) rfl rfl rfl (ix_ok hv5).1 (map_lt (ix_ok hv5).2) rfl),
   st_plain rfl (op_load_e _ _ _ _ _ _ Tryd.underlying36 rfl rfl rfl (map_get hv6)),
   st_plain rfl (op_assign _ _ _ _ rfl rfl),
   trivial⟩ ?_
  refine pt_then ?_
  refine ht_ret ?_
  obtain rfl := Option.some.inj h
  exact pt_ret hio rfl (.tmp _ _ .nil) rfl rfl

end Go.Proofs.YtadkeipbkbkneaaDoor
