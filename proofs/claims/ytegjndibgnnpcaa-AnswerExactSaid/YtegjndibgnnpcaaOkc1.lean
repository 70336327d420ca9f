/-
  The model's runs are what is told in Lean.
-/
import Derived.Test.YtegjndibgnnpcaaProg
import Derived.KernelRfl
import Derived.Test.YtegjndibgnnpcaaShelf
import Derived.Test.YtegjndibgnnpcaaSh
set_option linter.unusedVariables false
set_option linter.unusedSimpArgs false
namespace Go.Proofs.Ytegjndibgnnpcaa
open Go.Abs Go.Abs.Sh

def GL (mx : Int) : List (Nat × List Value) := [(0, [.int .i64 mx])]
theorem gl_mem0 (mx : Int) : (0, ([.int .i64 mx] : List Value)) ∈ GL mx := .head _
theorem sz24 : (Try.prog.info? 24).map (·.size) = some 2 := by kernel_rfl
theorem sz22 : (Try.prog.info? 22).map (·.size) = some 1 := by kernel_rfl
theorem sz9 : (Try.prog.info? 9).map (·.size) = some 1 := by kernel_rfl
theorem el25 : ElemT Try.prog 25 5 1 1 := ⟨⟨Try.t5, .int .u8 0, Try.underlying25, by kernel_rfl, by kernel_rfl, by kernel_rfl, by kernel_rfl, by decide, by kernel_rfl⟩⟩
theorem sz3 : (Try.prog.info? 3).map (·.size) = some 1 := by kernel_rfl
theorem sz5 : (Try.prog.info? 5).map (·.size) = some 1 := by kernel_rfl
theorem zr5 : (Try.prog.info? 5).bind (·.zero) = some (.int .u8 0) := by kernel_rfl
theorem zr24 : (Try.prog.info? 24).bind (·.zero) = some (.agg #[.int .i64 0, .slice none 0 0]) := by kernel_rfl
theorem zr9 : (Try.prog.info? 9).bind (·.zero) = some (.string ByteArray.empty) := by kernel_rfl
theorem el22 : ElemT Try.prog 22 9 1 16 := ⟨⟨Try.t9, .string ByteArray.empty, Try.underlying22, by kernel_rfl, by kernel_rfl, by kernel_rfl, by kernel_rfl, by decide, by kernel_rfl⟩⟩
theorem fs24 : ∀ fs, Try.prog.underlying 24 = some (.struct fs) → fs.toList.map (fun f => (Try.prog.info? f.type).map (·.size)) = ([1, 1] : List Nat).map some := by
  intro fs h
  rw [Try.underlying24] at h
  cases h
  kernel_rfl

set_option maxHeartbeats 1000000 in
theorem ok_wherrylaw13_heavy (p_r : T_Reply) (r : Bool) (h : Sh.wherrylaw13_heavy p_r = some r) : FnOK Try.prog 8 [.agg [.v (.int .i64 p_r.Code), .fl .shr 1 (List.map Value.string p_r.Lines)]] (.v (.bool r)) := by
  unfold Sh.wherrylaw13_heavy at h
  refine fn_ok Try.func8 rfl (Nat.le_of_ble_eq_true rfl) rfl rfl fun g0 hn hio => ?_
  refine ht_seq ?_
  refine ht_seqR hn (El := [_, (1, .box 24 [.v (.int .i64 p_r.Code), .fl .shr 1 (List.map Value.string p_r.Lines)]), (2, .v (.bool false))]) (init := [0]) (fin := [1]) (sps := [⟨[0], [], [1], [(.slot 1)]⟩, ⟨[], [], [2], [(.slot 2)]⟩]) (es' := [(1, .box 24 [.v (.int .i64 p_r.Code), .fl .shr 1 (List.map Value.string p_r.Lines)])]) (by kernel_rfl) rfl rfl
   ⟨st_plain rfl (op_box _ _ _ _ rfl rfl rfl),
   st_plain rfl (op_assign _ _ _ _ rfl rfl),
   trivial⟩ ?_
  refine pt_then ?_
  refine ht_seq ?_
  refine ht_seqR hn (El := [_, (3, .v (.int .i64 0))]) (init := [0]) (fin := [0, 1]) (sps := [⟨[], [], [1], [(.slot 3)]⟩]) (es' := [(_, _), (3, .v (.int .i64 0))]) (by kernel_rfl) rfl rfl
   ⟨st_plain rfl (op_assign _ _ _ _ rfl rfl),
   trivial⟩ ?_
  refine pt_then ?_
  refine ht_seq ?_
  refine ht_seq ?_
  refine ht_seqR hn (El := [_, _, (4, .v (.int .i64 0))]) (init := [0, 1]) (fin := [0, 1, 2]) (sps := [⟨[], [], [2], [(.slot 4)]⟩]) (es' := [(_, _), (_, _), (4, .v (.int .i64 0))]) (by kernel_rfl) rfl rfl
   ⟨st_plain rfl (op_assign _ _ _ _ rfl rfl),
   trivial⟩ ?_
  refine pt_then ?_
  refine ht_loopS h (fun ((s9, s10) : Int × Int) => [(1, .box 24 [.v (.int .i64 p_r.Code), .fl .shr 1 (List.map Value.string p_r.Lines)]), (3, .v (.int .i64 s9)), (4, .v (.int .i64 s10))]) (fun (s12 : Int) => [(1, .box 24 [.v (.int .i64 p_r.Code), .fl .shr 1 (List.map Value.string p_r.Lines)]), (3, .v (.int .i64 s12))]) ?_ ?_
  ·rintro s12 h
   refine pt_then ?_
   refine ht_seq ?_
   refine ht_joinS h (fun (s20 : Bool) => [(2, .v (.bool s20))]) ?_ ?_
   ·rintro s20 h
    refine pt_then ?_
    refine ht_ret ?_
    obtain rfl := Option.some.inj h
    exact pt_ret hio rfl (.tmp _ _ .nil) rfl rfl
   ·intro u21 h hl22 hr23
    refine cond_some h (fun hg6_2 h => ?_) (fun hg6_2 h => ?_)
    ·refine ht_seqR hn (El := [_, _, (20, .v (.int .i64 s12)), (21, .v (.bool ((decide (6000 < s12))))), (22, .v (.bool true)), (23, .v undef), (24, .v undef), (25, .v undef), (26, .v undef), (27, .v (.bool true)), (2, .v (.bool true))]) (init := [0, 1]) (fin := [10]) (sps := [⟨[1], [], [2], [(.slot 20)]⟩, ⟨[2], [], [3], [(.slot 21)]⟩, ⟨[3], [], [4], [(.slot 22)]⟩, ⟨[4], [], [5], [(.slot 23)]⟩, ⟨[4], [], [6], [(.slot 24)]⟩, ⟨[4], [], [7], [(.slot 25)]⟩, ⟨[4], [], [8], [(.slot 26)]⟩, ⟨[4], [], [9], [(.slot 27)]⟩, ⟨[9], [], [10], [(.slot 2)]⟩]) (es' := [(2, .v (.bool true))]) (by kernel_rfl) rfl rfl
      ⟨st_plain rfl (op_move _ _ _ _ rfl rfl),
      st_plain rfl (op_bin _ _ _ _ _ rfl rfl rfl),
      st_plain rfl (op_move _ _ _ _ (congrArg (fun b => AV.v (Value.bool b)) hg6_2) rfl),
      st_skip 2 22 _ false rfl rfl rfl rfl (List.Mem.head _),
      st_skip 2 22 _ false rfl rfl rfl rfl (List.Mem.head _),
      st_skip 2 22 _ false rfl rfl rfl rfl (List.Mem.head _),
      st_skip 2 22 _ false rfl rfl rfl rfl (List.Mem.head _),
      st_plain rfl (op_pick _ _ true _ rfl rfl),
      st_plain rfl (op_assign _ _ _ _ rfl rfl),
      trivial⟩ ?_
     exact hl22 _ (Option.some.inj h).symm
    ·refine ht_seqR hn (El := [_, _, (20, .v (.int .i64 s12)), (21, .v (.bool ((decide (6000 < s12))))), (22, .v (.bool false)), (23, .ptr 1 1), (24, .fl .shr 1 (List.map Value.string p_r.Lines)), (25, .v (.int .i64 (p_r.Lines.length : Int))), (26, .v (.bool ((decide (40 < (p_r.Lines.length : Int)))))), (27, .v (.bool ((decide (40 < (p_r.Lines.length : Int)))))), (2, .v (.bool ((decide (40 < (p_r.Lines.length : Int))))))]) (init := [0, 1]) (fin := [10]) (sps := [⟨[1], [], [2], [(.slot 20)]⟩, ⟨[2], [], [3], [(.slot 21)]⟩, ⟨[3], [], [4], [(.slot 22)]⟩, ⟨[4, 0], [], [5], [(.slot 23)]⟩, ⟨[4, 5, 0], [], [6], [(.slot 24)]⟩, ⟨[4, 6], [], [7], [(.slot 25)]⟩, ⟨[4, 7], [], [8], [(.slot 26)]⟩, ⟨[4, 8], [], [9], [(.slot 27)]⟩, ⟨[9], [], [10], [(.slot 2)]⟩]) (es' := [(2, .v (.bool ((decide (40 < (p_r.Lines.length : Int))))))]) (by kernel_rfl) rfl rfl
      ⟨st_plain rfl (op_move _ _ _ _ rfl rfl),
      st_plain rfl (op_bin _ _ _ _ _ rfl rfl rfl),
      st_plain rfl (op_move _ _ _ _ (congrArg (fun b => AV.v (Value.bool b)) hg6_2) rfl),
      st_run 2 22 false rfl rfl rfl (List.Mem.head _) (op_fieldAddr _ _ _ _ 1 0 _ Try.underlying24 rfl sz22 rfl rfl (by decide)),
      st_run 2 22 false rfl rfl rfl (List.Mem.head _) (op_load _ _ _ _ _ _ Try.underlying22 rfl rfl rfl (Nat.le_of_ble_eq_true rfl) rfl rfl rfl),
      st_run 2 22 false rfl rfl rfl (List.Mem.head _) (op_len_fl _ _ _ Try.underlying22 rfl (by decide) (map_len _)),
      st_run 2 22 false rfl rfl rfl (List.Mem.head _) (op_bin _ _ _ _ _ rfl rfl rfl),
      st_plain rfl (op_pick _ _ false _ rfl rfl),
      st_plain rfl (op_assign _ _ _ _ rfl rfl),
      trivial⟩ ?_
     exact hl22 _ (Option.some.inj h).symm
  ·rintro u13 hl14 hr15 ⟨s9, s10⟩ rr18 h ho16
   refine ht_seq ?_
   refine ht_seq ?_
   refine ht_seqR hn (El := [_, _, _, (5, .v (.int .i64 s10)), (6, .ptr 1 1), (7, .fl .shr 1 (List.map Value.string p_r.Lines)), (8, .v (.int .i64 (p_r.Lines.length : Int))), (9, .v (.bool ((decide (s10 < (p_r.Lines.length : Int))))))]) (init := [0, 1, 2]) (fin := [0, 1, 2, 7]) (sps := [⟨[2], [], [3], [(.slot 5)]⟩, ⟨[0], [], [4], [(.slot 6)]⟩, ⟨[4, 0], [], [5], [(.slot 7)]⟩, ⟨[5], [], [6], [(.slot 8)]⟩, ⟨[3, 6], [], [7], [(.slot 9)]⟩]) (es' := [(_, _), (_, _), (_, _), (9, .v (.bool ((decide (s10 < (p_r.Lines.length : Int))))))]) (by kernel_rfl) rfl rfl
    ⟨st_plain rfl (op_move _ _ _ _ rfl rfl),
    st_plain rfl (op_fieldAddr _ _ _ _ 1 0 _ Try.underlying24 rfl sz22 rfl rfl (by decide)),
    st_plain rfl (op_load _ _ _ _ _ _ Try.underlying22 rfl rfl rfl (Nat.le_of_ble_eq_true rfl) rfl rfl rfl),
    st_plain rfl (op_len_fl _ _ _ Try.underlying22 rfl (by decide) (map_len _)),
    st_plain rfl (op_bin _ _ _ _ _ rfl rfl rfl),
    trivial⟩ ?_
   refine pt_then ?_
   refine ht_cond _ rfl (fun hb19 => ?_) (fun hb19 => ?_)
   ·have h := cond_t hb19 h
    refine ht_skip ?_
    refine pt_then ?_
    refine ht_seq ?_
    refine ht_block ?_
    obtain ⟨v2, hv2, h⟩ := bind_some h
    obtain ⟨v3, hv3, h⟩ := bind_some h
    obtain ⟨v4, hv4, h⟩ := bind_some h
    refine ht_seqR hn (El := [_, _, _, _, (12, .v (.int .i64 s9)), (13, .ptr 1 1), (14, .fl .shr 1 (List.map Value.string p_r.Lines)), (15, .v (.int .i64 s10)), (16, .eref (.slot 14) (v2 * 1)), (17, .v (.string v3)), (18, .v (.int .i64 (v3.size : Int))), (19, .v (.int .i64 v4)), (3, .v (.int .i64 v4))]) (init := [0, 1, 2, 3]) (fin := [0, 2, 12]) (sps := [⟨[1], [], [4], [(.slot 12)]⟩, ⟨[0], [], [5], [(.slot 13)]⟩, ⟨[5, 0], [], [6], [(.slot 14)]⟩, ⟨[2], [], [7], [(.slot 15)]⟩, ⟨[6, 7], [], [8], [(.slot 16)]⟩, ⟨[8, 6], [], [9], [(.slot 17)]⟩, ⟨[9], [], [10], [(.slot 18)]⟩, ⟨[4, 10], [], [11], [(.slot 19)]⟩, ⟨[11], [1], [12], [(.slot 3)]⟩]) (es' := [(_, _), (_, _), (3, .v (.int .i64 v4))]) (by kernel_rfl) rfl rfl
     ⟨st_plain rfl (op_move _ _ _ _ rfl rfl),
     st_plain rfl (op_fieldAddr _ _ _ _ 1 0 _ Try.underlying24 rfl sz22 rfl rfl (by decide)),
     st_plain rfl (op_load _ _ _ _ _ _ Try.underlying22 rfl rfl rfl (Nat.le_of_ble_eq_true rfl) rfl rfl rfl),
     st_plain rfl (op_move _ _ _ _ rfl rfl),
     st_plain rfl (op_ix _ _ _ _ _ _ _ _ Try.underlying22 sz9 (by decide) rfl rfl rfl (ix_ok hv2).1 (map_lt (ix_ok hv2).2) rfl),
     st_plain rfl (op_load_e _ _ _ _ _ _ Try.underlying9 rfl rfl rfl (map_get hv3)),
     st_plain rfl (op_len_str _ _ _ Try.underlying9 rfl),
     st_plain rfl (op_bin _ _ _ _ _ rfl rfl (ibind (f := Value.int .i64) (Option.some.inj hv4))),
     st_plain rfl (LOp.drop [_] (op_assign _ _ _ _ rfl rfl)),
     trivial⟩ ?_
    refine pt_inb ?_
    refine pt_then ?_
    obtain ⟨v5, hv5, h⟩ := bind_some h
    refine ht_seqR hn (El := [_, _, _, (10, .v (.int .i64 s10)), (11, .v (.int .i64 v5)), (4, .v (.int .i64 v5))]) (init := [0, 1, 2]) (fin := [0, 2, 5]) (sps := [⟨[1], [], [3], [(.slot 10)]⟩, ⟨[3], [], [4], [(.slot 11)]⟩, ⟨[4], [1], [5], [(.slot 4)]⟩]) (es' := [(_, _), (_, _), (4, .v (.int .i64 v5))]) (by kernel_rfl) rfl rfl
     ⟨st_plain rfl (op_move _ _ _ _ rfl rfl),
     st_plain rfl (op_bin _ _ _ _ _ rfl rfl (ibind (f := Value.int .i64) (Option.some.inj hv5))),
     st_plain rfl (LOp.drop [_] (op_assign _ _ _ _ rfl rfl)),
     trivial⟩ ?_
    exact pt_next _ (Option.some.inj h).symm rfl
   ·have h := cond_f hb19 h
    refine ht_exit ?_
    refine pt_x_then ?_
    refine pt_x_then ?_
    refine pt_x_in ?_
    refine pt_pick [0, 1] (by kernel_rfl) (es' := [(_, _), (_, _)]) rfl ?_
    exact hl14 _ (ho16 _ (Option.some.inj h).symm).symm

set_option maxHeartbeats 1000000 in
theorem ok_wherrykeep_Twin (l : (List Int)) (r : (List Int)) (h : Sh.wherrykeep_Twin l = some r) : FnOK Try.prog 9 [.fl .shr 1 (List.map (Value.int .u8) l)] (.fl (.own 5) 1 (List.map (Value.int .u8) r)) := by
  unfold Sh.wherrykeep_Twin at h
  refine fn_ok Try.func9 rfl (Nat.le_of_ble_eq_true rfl) rfl rfl fun g0 hn hio => ?_
  refine ht_seq ?_
  refine ht_seqR hn (El := [_, (2, .v (.slice none 0 0))]) (init := [0]) (fin := [0]) (sps := [⟨[], [], [1], [(.slot 2)]⟩]) (es' := [(_, _)]) (by kernel_rfl) rfl rfl
   ⟨st_plain rfl (op_assign _ _ _ _ rfl rfl),
   trivial⟩ ?_
  refine pt_then ?_
  refine ht_seq ?_
  refine ht_seqR hn (El := [_, (3, .v (.slice none 0 0))]) (init := [0]) (fin := [0, 1]) (sps := [⟨[], [], [1], [(.slot 3)]⟩]) (es' := [(_, _), (3, .v (.slice none 0 0))]) (by kernel_rfl) rfl rfl
   ⟨st_plain rfl (op_assign _ _ _ _ rfl rfl),
   trivial⟩ ?_
  refine pt_then ?_
  refine ht_seq ?_
  obtain ⟨v1, hv1, h⟩ := bind_some h
  refine ht_seqR hn (El := [_, _, (4, .v (.slice none 0 0)), (5, .fl .shr 1 (List.map (Value.int .u8) l)), (6, .fl (.own 5) 1 (List.map (Value.int .u8) v1)), (2, .fl (.own 5) 1 (List.map (Value.int .u8) v1))]) (init := [0, 1]) (fin := [5]) (sps := [⟨[1], [], [2], [(.slot 4)]⟩, ⟨[0], [], [3], [(.slot 5)]⟩, ⟨[2, 3], [], [4], [(.slot 6)]⟩, ⟨[], [4], [5], [(.slot 2)]⟩]) (es' := [(2, .fl (.own 5) 1 (List.map (Value.int .u8) v1))]) (by kernel_rfl) rfl rfl
   ⟨st_plain rfl (op_move _ _ _ _ rfl rfl),
   st_plain rfl (op_move _ _ _ _ rfl rfl),
   st_plain rfl (op_app_nil _ _ _ _ el25 rfl rfl (map_len _) hv1 (congrArg (List.map _) (app_nil_eq hv1))),
   st_plain rfl (op_assign_take _ _ _ _ rfl),
   trivial⟩ ?_
  refine pt_then ?_
  refine ht_ret ?_
  obtain rfl := Option.some.inj h
  exact pt_ret hio rfl (.tmp _ _ .nil) rfl rfl

set_option maxHeartbeats 1000000 in
theorem ok_answer_text (s : ByteArray) (r : Bool) (h : Sh.answer_text s = some r) : FnOK Try.prog 26 [.v (.string s)] (.v (.bool r)) := by
  unfold Sh.answer_text at h
  refine fn_ok Try.func26 rfl (Nat.le_of_ble_eq_true rfl) rfl rfl fun g0 hn hio => ?_
  refine ht_seq ?_
  refine ht_seqR hn (El := [_, (2, .v (.bool false))]) (init := [0]) (fin := [0]) (sps := [⟨[], [], [1], [(.slot 2)]⟩]) (es' := [(_, _)]) (by kernel_rfl) rfl rfl
   ⟨st_plain rfl (op_assign _ _ _ _ rfl rfl),
   trivial⟩ ?_
  refine pt_then ?_
  refine ht_seq ?_
  refine ht_seq ?_
  refine ht_seqR hn (El := [_, (4, .v (.string s)), (5, .v (.int .i64 (s.size : Int))), (6, .v (.bool ((decide (200 < (s.size : Int))))))]) (init := [0]) (fin := [0, 3]) (sps := [⟨[0], [], [1], [(.slot 4)]⟩, ⟨[1], [], [2], [(.slot 5)]⟩, ⟨[2], [], [3], [(.slot 6)]⟩]) (es' := [(_, _), (6, .v (.bool ((decide (200 < (s.size : Int))))))]) (by kernel_rfl) rfl rfl
   ⟨st_plain rfl (op_move _ _ _ _ rfl rfl),
   st_plain rfl (op_len_str _ _ _ Try.underlying9 rfl),
   st_plain rfl (op_bin _ _ _ _ _ rfl rfl rfl),
   trivial⟩ ?_
  refine pt_then ?_
  refine ht_cond _ rfl (fun hb1 => ?_) (fun hb1 => ?_)
  ·have h := cond_t hb1 h
   refine ht_seq ?_
   refine ht_seqR hn (El := [_, _, (2, .v (.bool false))]) (init := [0, 1]) (fin := [2]) (sps := [⟨[], [], [2], [(.slot 2)]⟩]) (es' := [(2, .v (.bool false))]) (by kernel_rfl) rfl rfl
    ⟨st_plain rfl (op_assign _ _ _ _ rfl rfl),
    trivial⟩ ?_
   refine pt_then ?_
   refine ht_ret ?_
   refine pt_r_then ?_
   obtain rfl := Option.some.inj h
   exact pt_ret hio rfl (.tmp _ _ .nil) rfl rfl
  ·have h := cond_f hb1 h
   refine ht_skip ?_
   refine pt_then ?_
   refine ht_seq ?_
   refine ht_seq ?_
   refine ht_seqR hn (El := [_, _, (7, .v (.string s)), (8, .v (.int .i64 (s.size : Int))), (9, .v (.int .i64 0))]) (init := [0, 1]) (fin := [0, 3, 4]) (sps := [⟨[0], [], [2], [(.slot 7)]⟩, ⟨[2], [], [3], [(.slot 8)]⟩, ⟨[], [], [4], [(.slot 9)]⟩]) (es' := [(_, _), (8, .v (.int .i64 (s.size : Int))), (9, .v (.int .i64 0))]) (by kernel_rfl) rfl rfl
    ⟨st_plain rfl (op_move _ _ _ _ rfl rfl),
    st_plain rfl (op_len_str _ _ _ Try.underlying9 rfl),
    st_plain rfl (op_move _ _ _ _ rfl rfl),
    trivial⟩ ?_
   refine pt_then ?_
   refine ht_loopS h (fun (s18 : Int) => [(0, .v (.string s)), (8, .v (.int .i64 (s.size : Int))), (9, .v (.int .i64 s18))]) (fun (() : Unit) => []) ?_ ?_
   ·rintro ⟨⟩ h
    refine pt_then ?_
    refine ht_seq ?_
    refine ht_seqR hn (El := [(2, .v (.bool true))]) (init := []) (fin := [0]) (sps := [⟨[], [], [0], [(.slot 2)]⟩]) (es' := [(2, .v (.bool true))]) (by kernel_rfl) rfl rfl
     ⟨st_plain rfl (op_assign _ _ _ _ rfl rfl),
     trivial⟩ ?_
    refine pt_then ?_
    refine ht_ret ?_
    obtain rfl := Option.some.inj h
    exact pt_ret hio rfl (.tmp _ _ .nil) rfl rfl
   ·rintro u25 hl26 hr27 s18 rr30 h ho28
    refine ht_seq ?_
    refine ht_seqR hn (El := [_, _, _, (10, .v (.bool ((decide (s18 < (s.size : Int))))))]) (init := [0, 1, 2]) (fin := [0, 1, 2, 3]) (sps := [⟨[2, 1], [], [3], [(.slot 10)]⟩]) (es' := [(_, _), (_, _), (_, _), (10, .v (.bool ((decide (s18 < (s.size : Int))))))]) (by kernel_rfl) rfl rfl
     ⟨st_plain rfl (op_bin _ _ _ _ _ rfl rfl rfl),
     trivial⟩ ?_
    refine pt_then ?_
    refine ht_seq ?_
    refine ht_cond _ rfl (fun hb31 => ?_) (fun hb31 => ?_)
    ·have h := cond_t hb31 h
     refine ht_skip ?_
     refine pt_then ?_
     refine ht_seq ?_
     refine ht_block ?_
     refine ht_seq ?_
     refine ht_seqR hn (El := [_, _, _, _, (11, .v (.int .i64 s18)), (3, .v (.int .i64 s18))]) (init := [0, 1, 2, 3]) (fin := [0, 1, 2, 5]) (sps := [⟨[2], [], [4], [(.slot 11)]⟩, ⟨[4], [], [5], [(.slot 3)]⟩]) (es' := [(_, _), (_, _), (_, _), (3, .v (.int .i64 s18))]) (by kernel_rfl) rfl rfl
      ⟨st_plain rfl (op_move _ _ _ _ rfl rfl),
      st_plain rfl (op_assign _ _ _ _ rfl rfl),
      trivial⟩ ?_
     refine pt_then ?_
     refine ht_seq ?_
     refine ht_joinS h (fun (s32 : Bool) => [(0, .v (.string s)), (8, .v (.int .i64 (s.size : Int))), (9, .v (.int .i64 s18)), (21, .v (.bool s32))]) ?_ ?_
     ·rintro s32 h
      refine pt_then ?_
      refine ht_cond _ rfl (fun hb36 => ?_) (fun hb36 => ?_)
      ·have h := cond_t hb36 h
       refine ht_seq ?_
       refine ht_seqR hn (El := [_, _, _, _, (2, .v (.bool false))]) (init := [0, 1, 2, 3]) (fin := [4]) (sps := [⟨[], [], [4], [(.slot 2)]⟩]) (es' := [(2, .v (.bool false))]) (by kernel_rfl) rfl rfl
        ⟨st_plain rfl (op_assign _ _ _ _ rfl rfl),
        trivial⟩ ?_
       refine pt_then ?_
       refine ht_ret ?_
       refine pt_r_in ?_
       refine pt_r_then ?_
       refine pt_r_then ?_
       refine pt_r_in ?_
       refine pt_r_then ?_
       have h := hr27 _ (ho28 _ (Option.some.inj h).symm).symm
       obtain rfl := Option.some.inj h
       exact pt_ret hio rfl (.tmp _ _ .nil) rfl rfl
      ·have h := cond_f hb36 h
       refine ht_skip ?_
       refine pt_inb ?_
       refine pt_then ?_
       obtain ⟨v10, hv10, h⟩ := bind_some h
       refine ht_seqR hn (El := [_, _, _, _, (22, .v (.int .i64 v10)), (9, .v (.int .i64 v10))]) (init := [0, 1, 2, 3]) (fin := [0, 1, 5]) (sps := [⟨[2], [], [4], [(.slot 22)]⟩, ⟨[4], [2], [5], [(.slot 9)]⟩]) (es' := [(_, _), (_, _), (9, .v (.int .i64 v10))]) (by kernel_rfl) rfl rfl
        ⟨st_plain rfl (op_bin _ _ _ _ _ rfl rfl (ibind (f := Value.int .i64) (Option.some.inj hv10))),
        st_plain rfl (LOp.drop [_] (op_move _ _ _ _ rfl rfl)),
        trivial⟩ ?_
       exact pt_next _ (Option.some.inj h).symm rfl
     ·intro u33 h hl34 hr35
      obtain ⟨v3, hv3, h⟩ := bind_some h
      refine cond_some h (fun hg6_4 h => ?_) (fun hg6_4 h => ?_)
      ·refine ht_seqR hn (El := [_, _, _, _, (12, .v (.string s)), (13, .v (.int .i64 s18)), (14, .v (.int .u8 v3)), (15, .v (.bool ((decide (v3 < 32))))), (16, .v (.bool true)), (17, .v undef), (18, .v undef), (19, .v undef), (20, .v undef), (21, .v (.bool true))]) (init := [0, 1, 2, 3]) (fin := [0, 1, 2, 13]) (sps := [⟨[0], [], [4], [(.slot 12)]⟩, ⟨[3], [], [5], [(.slot 13)]⟩, ⟨[4, 5], [], [6], [(.slot 14)]⟩, ⟨[6], [], [7], [(.slot 15)]⟩, ⟨[7], [], [8], [(.slot 16)]⟩, ⟨[8], [], [9], [(.slot 17)]⟩, ⟨[8], [], [10], [(.slot 18)]⟩, ⟨[8], [], [11], [(.slot 19)]⟩, ⟨[8], [], [12], [(.slot 20)]⟩, ⟨[8], [], [13], [(.slot 21)]⟩]) (es' := [(_, _), (_, _), (_, _), (21, .v (.bool true))]) (by kernel_rfl) rfl rfl
        ⟨st_plain rfl (op_move _ _ _ _ rfl rfl),
        st_plain rfl (op_move _ _ _ _ rfl rfl),
        st_plain rfl (op_chr _ _ _ s18 _ Try.underlying9 rfl rfl hv3),
        st_plain rfl (op_bin _ _ _ _ _ rfl rfl rfl),
        st_plain rfl (op_move _ _ _ _ (congrArg (fun b => AV.v (Value.bool b)) hg6_4) rfl),
        st_skip 4 16 _ false rfl rfl rfl rfl (List.Mem.head _),
        st_skip 4 16 _ false rfl rfl rfl rfl (List.Mem.head _),
        st_skip 4 16 _ false rfl rfl rfl rfl (List.Mem.head _),
        st_skip 4 16 _ false rfl rfl rfl rfl (List.Mem.head _),
        st_plain rfl (op_pick _ _ true _ rfl rfl),
        trivial⟩ ?_
       exact hl34 _ (Option.some.inj h).symm
      ·obtain ⟨v4, hv4, h⟩ := bind_some h
       refine ht_seqR hn (El := [_, _, _, _, (12, .v (.string s)), (13, .v (.int .i64 s18)), (14, .v (.int .u8 v3)), (15, .v (.bool ((decide (v3 < 32))))), (16, .v (.bool false)), (17, .v (.string s)), (18, .v (.int .i64 s18)), (19, .v (.int .u8 v4)), (20, .v (.bool ((decide (126 < v4))))), (21, .v (.bool ((decide (126 < v4)))))]) (init := [0, 1, 2, 3]) (fin := [0, 1, 2, 13]) (sps := [⟨[0], [], [4], [(.slot 12)]⟩, ⟨[3], [], [5], [(.slot 13)]⟩, ⟨[4, 5], [], [6], [(.slot 14)]⟩, ⟨[6], [], [7], [(.slot 15)]⟩, ⟨[7], [], [8], [(.slot 16)]⟩, ⟨[8, 0], [], [9], [(.slot 17)]⟩, ⟨[8, 3], [], [10], [(.slot 18)]⟩, ⟨[8, 9, 10], [], [11], [(.slot 19)]⟩, ⟨[8, 11], [], [12], [(.slot 20)]⟩, ⟨[8, 12], [], [13], [(.slot 21)]⟩]) (es' := [(_, _), (_, _), (_, _), (21, .v (.bool ((decide (126 < v4)))))]) (by kernel_rfl) rfl rfl
        ⟨st_plain rfl (op_move _ _ _ _ rfl rfl),
        st_plain rfl (op_move _ _ _ _ rfl rfl),
        st_plain rfl (op_chr _ _ _ s18 _ Try.underlying9 rfl rfl hv3),
        st_plain rfl (op_bin _ _ _ _ _ rfl rfl rfl),
        st_plain rfl (op_move _ _ _ _ (congrArg (fun b => AV.v (Value.bool b)) hg6_4) rfl),
        st_run 4 16 false rfl rfl rfl (List.Mem.head _) (op_move _ _ _ _ rfl rfl),
        st_run 4 16 false rfl rfl rfl (List.Mem.head _) (op_move _ _ _ _ rfl rfl),
        st_run 4 16 false rfl rfl rfl (List.Mem.head _) (op_chr _ _ _ s18 _ Try.underlying9 rfl rfl hv4),
        st_run 4 16 false rfl rfl rfl (List.Mem.head _) (op_bin _ _ _ _ _ rfl rfl rfl),
        st_plain rfl (op_pick _ _ false _ rfl rfl),
        trivial⟩ ?_
       exact hl34 _ (Option.some.inj h).symm
    ·have h := cond_f hb31 h
     refine ht_exit ?_
     refine pt_x_then ?_
     refine pt_x_then ?_
     refine pt_x_in ?_
     refine pt_pick [] (by kernel_rfl) (es' := []) rfl ?_
     exact hl26 _ (ho28 _ (Option.some.inj h).symm).symm

set_option maxHeartbeats 1000000 in
theorem ok_answer_Check (p_r : T_Reply) (r : Int) (h : Sh.answer_Check p_r = some r) : FnOK Try.prog 14 [.agg [.v (.int .i64 p_r.Code), .fl .shr 1 (List.map Value.string p_r.Lines)]] (.v (.int .i64 r)) := by
  unfold Sh.answer_Check at h
  refine fn_ok Try.func14 rfl (Nat.le_of_ble_eq_true rfl) rfl rfl fun g0 hn hio => ?_
  refine ht_seq ?_
  refine ht_seqR hn (El := [_, (1, .box 24 [.v (.int .i64 p_r.Code), .fl .shr 1 (List.map Value.string p_r.Lines)]), (2, .v (.int .i64 0))]) (init := [0]) (fin := [1]) (sps := [⟨[0], [], [1], [(.slot 1)]⟩, ⟨[], [], [2], [(.slot 2)]⟩]) (es' := [(1, .box 24 [.v (.int .i64 p_r.Code), .fl .shr 1 (List.map Value.string p_r.Lines)])]) (by kernel_rfl) rfl rfl
   ⟨st_plain rfl (op_box _ _ _ _ rfl rfl rfl),
   st_plain rfl (op_assign _ _ _ _ rfl rfl),
   trivial⟩ ?_
  refine pt_then ?_
  refine ht_seq ?_
  refine ht_seq ?_
  refine ht_joinS h (fun (s3 : Bool) => [(1, .box 24 [.v (.int .i64 p_r.Code), .fl .shr 1 (List.map Value.string p_r.Lines)]), (19, .v (.bool s3))]) ?_ ?_
  ·rintro s3 h
   refine pt_then ?_
   refine ht_cond _ rfl (fun hb7 => ?_) (fun hb7 => ?_)
   ·have h := cond_t hb7 h
    refine ht_seq ?_
    refine ht_seqR hn (El := [_, _, (2, .v (.int .i64 5))]) (init := [0, 1]) (fin := [2]) (sps := [⟨[], [], [2], [(.slot 2)]⟩]) (es' := [(2, .v (.int .i64 5))]) (by kernel_rfl) rfl rfl
     ⟨st_plain rfl (op_assign _ _ _ _ rfl rfl),
     trivial⟩ ?_
    refine pt_then ?_
    refine ht_ret ?_
    refine pt_r_then ?_
    obtain rfl := Option.some.inj h
    exact pt_ret hio rfl (.tmp _ _ .nil) rfl rfl
   ·have h := cond_f hb7 h
    refine ht_skip ?_
    refine pt_then ?_
    refine ht_seq ?_
    refine ht_seq ?_
    refine ht_joinS h (fun (s8 : Bool) => [(1, .box 24 [.v (.int .i64 p_r.Code), .fl .shr 1 (List.map Value.string p_r.Lines)]), (29, .v (.bool s8))]) ?_ ?_
    ·rintro s8 h
     refine pt_then ?_
     refine ht_cond _ rfl (fun hb12 => ?_) (fun hb12 => ?_)
     ·have h := cond_t hb12 h
      refine ht_seq ?_
      refine ht_seqR hn (El := [_, _, (2, .v (.int .i64 5))]) (init := [0, 1]) (fin := [2]) (sps := [⟨[], [], [2], [(.slot 2)]⟩]) (es' := [(2, .v (.int .i64 5))]) (by kernel_rfl) rfl rfl
       ⟨st_plain rfl (op_assign _ _ _ _ rfl rfl),
       trivial⟩ ?_
      refine pt_then ?_
      refine ht_ret ?_
      refine pt_r_then ?_
      obtain rfl := Option.some.inj h
      exact pt_ret hio rfl (.tmp _ _ .nil) rfl rfl
     ·have h := cond_f hb12 h
      refine ht_skip ?_
      refine pt_then ?_
      refine ht_seq ?_
      refine ht_seq ?_
      refine ht_seqR hn (El := [_, _, (30, .ptr 1 1), (31, .fl .shr 1 (List.map Value.string p_r.Lines)), (32, .v (.int .i64 (p_r.Lines.length : Int))), (33, .v (.int .i64 0))]) (init := [0, 1]) (fin := [3, 4, 5]) (sps := [⟨[0], [], [2], [(.slot 30)]⟩, ⟨[2, 0], [], [3], [(.slot 31)]⟩, ⟨[3], [], [4], [(.slot 32)]⟩, ⟨[], [], [5], [(.slot 33)]⟩]) (es' := [(31, .fl .shr 1 (List.map Value.string p_r.Lines)), (32, .v (.int .i64 (p_r.Lines.length : Int))), (33, .v (.int .i64 0))]) (by kernel_rfl) rfl rfl
       ⟨st_plain rfl (op_fieldAddr _ _ _ _ 1 0 _ Try.underlying24 rfl sz22 rfl rfl (by decide)),
       st_plain rfl (op_load _ _ _ _ _ _ Try.underlying22 rfl rfl rfl (Nat.le_of_ble_eq_true rfl) rfl rfl rfl),
       st_plain rfl (op_len_fl _ _ _ Try.underlying22 rfl (by decide) (map_len _)),
       st_plain rfl (op_move _ _ _ _ rfl rfl),
       trivial⟩ ?_
      refine pt_then ?_
      refine ht_loopS h (fun (s22 : Int) => [(31, .fl .shr 1 (List.map Value.string p_r.Lines)), (32, .v (.int .i64 (p_r.Lines.length : Int))), (33, .v (.int .i64 s22))]) (fun (() : Unit) => []) ?_ ?_
      ·rintro ⟨⟩ h
       refine pt_then ?_
       refine ht_seq ?_
       refine ht_seqR hn (El := [(2, .v (.int .i64 0))]) (init := []) (fin := [0]) (sps := [⟨[], [], [0], [(.slot 2)]⟩]) (es' := [(2, .v (.int .i64 0))]) (by kernel_rfl) rfl rfl
        ⟨st_plain rfl (op_assign _ _ _ _ rfl rfl),
        trivial⟩ ?_
       refine pt_then ?_
       refine ht_ret ?_
       obtain rfl := Option.some.inj h
       exact pt_ret hio rfl (.tmp _ _ .nil) rfl rfl
      ·rintro u25 hl26 hr27 s22 rr30 h ho28
       refine ht_seq ?_
       refine ht_seqR hn (El := [_, _, _, (34, .v (.bool ((decide (s22 < (p_r.Lines.length : Int))))))]) (init := [0, 1, 2]) (fin := [0, 1, 2, 3]) (sps := [⟨[2, 1], [], [3], [(.slot 34)]⟩]) (es' := [(_, _), (_, _), (_, _), (34, .v (.bool ((decide (s22 < (p_r.Lines.length : Int))))))]) (by kernel_rfl) rfl rfl
        ⟨st_plain rfl (op_bin _ _ _ _ _ rfl rfl rfl),
        trivial⟩ ?_
       refine pt_then ?_
       refine ht_seq ?_
       refine ht_cond _ rfl (fun hb31 => ?_) (fun hb31 => ?_)
       ·have h := cond_t hb31 h
        refine ht_skip ?_
        refine pt_then ?_
        refine ht_seq ?_
        refine ht_block ?_
        refine ht_seq ?_
        obtain ⟨v14, hv14, h⟩ := bind_some h
        obtain ⟨v15, hv15, h⟩ := bind_some h
        refine ht_seqR hn (El := [_, _, _, _, (35, .eref (.slot 31) (v14 * 1)), (36, .v (.string v15)), (4, .v (.string v15))]) (init := [0, 1, 2, 3]) (fin := [0, 1, 2, 6]) (sps := [⟨[0, 2], [], [4], [(.slot 35)]⟩, ⟨[4, 0], [], [5], [(.slot 36)]⟩, ⟨[5], [], [6], [(.slot 4)]⟩]) (es' := [(_, _), (_, _), (_, _), (4, .v (.string v15))]) (by kernel_rfl) rfl rfl
         ⟨st_plain rfl (op_ix _ _ _ _ _ _ _ _ Try.underlying22 sz9 (by decide) rfl rfl rfl (ix_ok hv14).1 (map_lt (ix_ok hv14).2) rfl),
         st_plain rfl (op_load_e _ _ _ _ _ _ Try.underlying9 rfl rfl rfl (map_get hv15)),
         st_plain rfl (op_assign _ _ _ _ rfl rfl),
         trivial⟩ ?_
        refine pt_then ?_
        refine ht_seq ?_
        obtain ⟨v16, hv16, h⟩ := bind_some h
        refine ht_seqR hn (El := [_, _, _, _, (37, .v (.string v15)), (38, .v (.bool v16)), (39, .v (.bool (!v16)))]) (init := [0, 1, 2, 3]) (fin := [0, 1, 2, 6]) (sps := [⟨[3], [], [4], [(.slot 37)]⟩, ⟨[4], [], [5], [(.slot 38)]⟩, ⟨[5], [], [6], [(.slot 39)]⟩]) (es' := [(_, _), (_, _), (_, _), (39, .v (.bool (!v16)))]) (by kernel_rfl) rfl rfl
         ⟨st_plain rfl (op_move _ _ _ _ rfl rfl),
         st_plain rfl (op_call _ _ 26 _ _ rfl Try.call26 rfl (ok_answer_text v15 _ hv16) rfl rfl),
         st_plain rfl (op_un _ _ _ _ rfl rfl),
         trivial⟩ ?_
        refine pt_then ?_
        refine ht_cond _ rfl (fun hb32 => ?_) (fun hb32 => ?_)
        ·have h := cond_t hb32 h
         refine ht_seq ?_
         refine ht_seqR hn (El := [_, _, _, _, (2, .v (.int .i64 5))]) (init := [0, 1, 2, 3]) (fin := [4]) (sps := [⟨[], [], [4], [(.slot 2)]⟩]) (es' := [(2, .v (.int .i64 5))]) (by kernel_rfl) rfl rfl
          ⟨st_plain rfl (op_assign _ _ _ _ rfl rfl),
          trivial⟩ ?_
         refine pt_then ?_
         refine ht_ret ?_
         refine pt_r_in ?_
         refine pt_r_then ?_
         refine pt_r_then ?_
         refine pt_r_in ?_
         refine pt_r_then ?_
         have h := hr27 _ (ho28 _ (Option.some.inj h).symm).symm
         obtain rfl := Option.some.inj h
         exact pt_ret hio rfl (.tmp _ _ .nil) rfl rfl
        ·have h := cond_f hb32 h
         refine ht_skip ?_
         refine pt_inb ?_
         refine pt_then ?_
         obtain ⟨v18, hv18, h⟩ := bind_some h
         refine ht_seqR hn (El := [_, _, _, _, (40, .v (.int .i64 v18)), (33, .v (.int .i64 v18))]) (init := [0, 1, 2, 3]) (fin := [0, 1, 5]) (sps := [⟨[2], [], [4], [(.slot 40)]⟩, ⟨[4], [2], [5], [(.slot 33)]⟩]) (es' := [(_, _), (_, _), (33, .v (.int .i64 v18))]) (by kernel_rfl) rfl rfl
          ⟨st_plain rfl (op_bin _ _ _ _ _ rfl rfl (ibind (f := Value.int .i64) (Option.some.inj hv18))),
          st_plain rfl (LOp.drop [_] (op_move _ _ _ _ rfl rfl)),
          trivial⟩ ?_
         exact pt_next _ (Option.some.inj h).symm rfl
       ·have h := cond_f hb31 h
        refine ht_exit ?_
        refine pt_x_then ?_
        refine pt_x_then ?_
        refine pt_x_in ?_
        refine pt_pick [] (by kernel_rfl) (es' := []) rfl ?_
        exact hl26 _ (ho28 _ (Option.some.inj h).symm).symm
    ·intro u9 h hl10 hr11
     refine cond_some h (fun hg3_4 h => ?_) (fun hg3_4 h => ?_)
     ·refine ht_seqR hn (El := [_, _, (20, .ptr 1 1), (21, .fl .shr 1 (List.map Value.string p_r.Lines)), (22, .v (.int .i64 (p_r.Lines.length : Int))), (23, .v (.bool ((decide ((p_r.Lines.length : Int) < 1))))), (24, .v (.bool true)), (25, .v undef), (26, .v undef), (27, .v undef), (28, .v undef), (29, .v (.bool true))]) (init := [0, 1]) (fin := [0, 11]) (sps := [⟨[0], [], [2], [(.slot 20)]⟩, ⟨[2, 0], [], [3], [(.slot 21)]⟩, ⟨[3], [], [4], [(.slot 22)]⟩, ⟨[4], [], [5], [(.slot 23)]⟩, ⟨[5], [], [6], [(.slot 24)]⟩, ⟨[6], [], [7], [(.slot 25)]⟩, ⟨[6], [], [8], [(.slot 26)]⟩, ⟨[6], [], [9], [(.slot 27)]⟩, ⟨[6], [], [10], [(.slot 28)]⟩, ⟨[6], [], [11], [(.slot 29)]⟩]) (es' := [(_, _), (29, .v (.bool true))]) (by kernel_rfl) rfl rfl
       ⟨st_plain rfl (op_fieldAddr _ _ _ _ 1 0 _ Try.underlying24 rfl sz22 rfl rfl (by decide)),
       st_plain rfl (op_load _ _ _ _ _ _ Try.underlying22 rfl rfl rfl (Nat.le_of_ble_eq_true rfl) rfl rfl rfl),
       st_plain rfl (op_len_fl _ _ _ Try.underlying22 rfl (by decide) (map_len _)),
       st_plain rfl (op_bin _ _ _ _ _ rfl rfl rfl),
       st_plain rfl (op_move _ _ _ _ (congrArg (fun b => AV.v (Value.bool b)) hg3_4) rfl),
       st_skip 4 24 _ false rfl rfl rfl rfl (List.Mem.head _),
       st_skip 4 24 _ false rfl rfl rfl rfl (List.Mem.head _),
       st_skip 4 24 _ false rfl rfl rfl rfl (List.Mem.head _),
       st_skip 4 24 _ false rfl rfl rfl rfl (List.Mem.head _),
       st_plain rfl (op_pick _ _ true _ rfl rfl),
       trivial⟩ ?_
      exact hl10 _ (Option.some.inj h).symm
     ·refine ht_seqR hn (El := [_, _, (20, .ptr 1 1), (21, .fl .shr 1 (List.map Value.string p_r.Lines)), (22, .v (.int .i64 (p_r.Lines.length : Int))), (23, .v (.bool ((decide ((p_r.Lines.length : Int) < 1))))), (24, .v (.bool false)), (25, .ptr 1 1), (26, .fl .shr 1 (List.map Value.string p_r.Lines)), (27, .v (.int .i64 (p_r.Lines.length : Int))), (28, .v (.bool ((decide (20 < (p_r.Lines.length : Int)))))), (29, .v (.bool ((decide (20 < (p_r.Lines.length : Int))))))]) (init := [0, 1]) (fin := [0, 11]) (sps := [⟨[0], [], [2], [(.slot 20)]⟩, ⟨[2, 0], [], [3], [(.slot 21)]⟩, ⟨[3], [], [4], [(.slot 22)]⟩, ⟨[4], [], [5], [(.slot 23)]⟩, ⟨[5], [], [6], [(.slot 24)]⟩, ⟨[6, 0], [], [7], [(.slot 25)]⟩, ⟨[6, 7, 0], [], [8], [(.slot 26)]⟩, ⟨[6, 8], [], [9], [(.slot 27)]⟩, ⟨[6, 9], [], [10], [(.slot 28)]⟩, ⟨[6, 10], [], [11], [(.slot 29)]⟩]) (es' := [(_, _), (29, .v (.bool ((decide (20 < (p_r.Lines.length : Int))))))]) (by kernel_rfl) rfl rfl
       ⟨st_plain rfl (op_fieldAddr _ _ _ _ 1 0 _ Try.underlying24 rfl sz22 rfl rfl (by decide)),
       st_plain rfl (op_load _ _ _ _ _ _ Try.underlying22 rfl rfl rfl (Nat.le_of_ble_eq_true rfl) rfl rfl rfl),
       st_plain rfl (op_len_fl _ _ _ Try.underlying22 rfl (by decide) (map_len _)),
       st_plain rfl (op_bin _ _ _ _ _ rfl rfl rfl),
       st_plain rfl (op_move _ _ _ _ (congrArg (fun b => AV.v (Value.bool b)) hg3_4) rfl),
       st_run 4 24 false rfl rfl rfl (List.Mem.head _) (op_fieldAddr _ _ _ _ 1 0 _ Try.underlying24 rfl sz22 rfl rfl (by decide)),
       st_run 4 24 false rfl rfl rfl (List.Mem.head _) (op_load _ _ _ _ _ _ Try.underlying22 rfl rfl rfl (Nat.le_of_ble_eq_true rfl) rfl rfl rfl),
       st_run 4 24 false rfl rfl rfl (List.Mem.head _) (op_len_fl _ _ _ Try.underlying22 rfl (by decide) (map_len _)),
       st_run 4 24 false rfl rfl rfl (List.Mem.head _) (op_bin _ _ _ _ _ rfl rfl rfl),
       st_plain rfl (op_pick _ _ false _ rfl rfl),
       trivial⟩ ?_
      exact hl10 _ (Option.some.inj h).symm
  ·intro u4 h hl5 hr6
   refine cond_some h (fun hg1_3 h => ?_) (fun hg1_3 h => ?_)
   ·refine ht_seqR hn (El := (_ :: (5, .ptr 1 0) :: (6, .v (.int .i64 p_r.Code)) :: (7, .v (.bool ((decide (p_r.Code < 200))))) :: (8, .v (.bool true)) :: (9, .v undef) :: (10, .v undef) :: (11, .v undef) :: (12, .v (.bool true)) :: (13, .v (.bool true)) :: (14, .v undef) :: (15, .v undef) :: (16, .v undef) :: (17, .v undef) :: (18, .v undef) :: (19, .v (.bool true)) :: [])) (init := [0]) (fin := [0, 15]) (sps := (⟨[0], [], [1], [(.slot 5)]⟩ :: ⟨[1, 0], [], [2], [(.slot 6)]⟩ :: ⟨[2], [], [3], [(.slot 7)]⟩ :: ⟨[3], [], [4], [(.slot 8)]⟩ :: ⟨[4], [], [5], [(.slot 9)]⟩ :: ⟨[4], [], [6], [(.slot 10)]⟩ :: ⟨[4], [], [7], [(.slot 11)]⟩ :: ⟨[4], [], [8], [(.slot 12)]⟩ :: ⟨[8], [], [9], [(.slot 13)]⟩ :: ⟨[9], [], [10], [(.slot 14)]⟩ :: ⟨[9], [], [11], [(.slot 15)]⟩ :: ⟨[9], [], [12], [(.slot 16)]⟩ :: ⟨[9], [], [13], [(.slot 17)]⟩ :: ⟨[9], [], [14], [(.slot 18)]⟩ :: ⟨[9], [], [15], [(.slot 19)]⟩ :: [])) (es' := [(_, _), (19, .v (.bool true))]) (by kernel_rfl) rfl rfl
     ⟨st_plain rfl (op_fieldAddr _ _ _ _ 1 0 _ Try.underlying24 rfl sz3 rfl rfl (by decide)),
     st_plain rfl (op_load _ _ _ _ _ _ Try.underlying3 rfl rfl rfl (Nat.le_of_ble_eq_true rfl) rfl rfl rfl),
     st_plain rfl (op_bin _ _ _ _ _ rfl rfl rfl),
     st_plain rfl (op_move _ _ _ _ (congrArg (fun b => AV.v (Value.bool b)) hg1_3) rfl),
     st_skip 3 8 _ false rfl rfl rfl rfl (List.Mem.head _),
     st_skip 3 8 _ false rfl rfl rfl rfl (List.Mem.head _),
     st_skip 3 8 _ false rfl rfl rfl rfl (List.Mem.head _),
     st_plain rfl (op_pick _ _ true _ rfl rfl),
     st_plain rfl (op_move _ _ _ _ rfl rfl),
     st_skip 8 13 _ false rfl rfl rfl rfl (List.Mem.head _),
     st_skip 8 13 _ false rfl rfl rfl rfl (List.Mem.head _),
     st_skip 8 13 _ false rfl rfl rfl rfl (List.Mem.head _),
     st_skip 8 13 _ false rfl rfl rfl rfl (List.Mem.head _),
     st_skip 8 13 _ false rfl rfl rfl rfl (List.Mem.head _),
     st_plain rfl (op_pick _ _ true _ rfl rfl),
     trivial⟩ ?_
    exact hl5 _ (Option.some.inj h).symm
   ·refine cond_some h (fun hg1_8 h => ?_) (fun hg1_8 h => ?_)
    ·refine ht_seqR hn (El := (_ :: (5, .ptr 1 0) :: (6, .v (.int .i64 p_r.Code)) :: (7, .v (.bool ((decide (p_r.Code < 200))))) :: (8, .v (.bool false)) :: (9, .ptr 1 0) :: (10, .v (.int .i64 p_r.Code)) :: (11, .v (.bool ((decide (559 < p_r.Code))))) :: (12, .v (.bool ((decide (559 < p_r.Code))))) :: (13, .v (.bool true)) :: (14, .v undef) :: (15, .v undef) :: (16, .v undef) :: (17, .v undef) :: (18, .v undef) :: (19, .v (.bool true)) :: [])) (init := [0]) (fin := [0, 15]) (sps := (⟨[0], [], [1], [(.slot 5)]⟩ :: ⟨[1, 0], [], [2], [(.slot 6)]⟩ :: ⟨[2], [], [3], [(.slot 7)]⟩ :: ⟨[3], [], [4], [(.slot 8)]⟩ :: ⟨[4, 0], [], [5], [(.slot 9)]⟩ :: ⟨[4, 5, 0], [], [6], [(.slot 10)]⟩ :: ⟨[4, 6], [], [7], [(.slot 11)]⟩ :: ⟨[4, 7], [], [8], [(.slot 12)]⟩ :: ⟨[8], [], [9], [(.slot 13)]⟩ :: ⟨[9], [], [10], [(.slot 14)]⟩ :: ⟨[9], [], [11], [(.slot 15)]⟩ :: ⟨[9], [], [12], [(.slot 16)]⟩ :: ⟨[9], [], [13], [(.slot 17)]⟩ :: ⟨[9], [], [14], [(.slot 18)]⟩ :: ⟨[9], [], [15], [(.slot 19)]⟩ :: [])) (es' := [(_, _), (19, .v (.bool true))]) (by kernel_rfl) rfl rfl
      ⟨st_plain rfl (op_fieldAddr _ _ _ _ 1 0 _ Try.underlying24 rfl sz3 rfl rfl (by decide)),
      st_plain rfl (op_load _ _ _ _ _ _ Try.underlying3 rfl rfl rfl (Nat.le_of_ble_eq_true rfl) rfl rfl rfl),
      st_plain rfl (op_bin _ _ _ _ _ rfl rfl rfl),
      st_plain rfl (op_move _ _ _ _ (congrArg (fun b => AV.v (Value.bool b)) hg1_3) rfl),
      st_run 3 8 false rfl rfl rfl (List.Mem.head _) (op_fieldAddr _ _ _ _ 1 0 _ Try.underlying24 rfl sz3 rfl rfl (by decide)),
      st_run 3 8 false rfl rfl rfl (List.Mem.head _) (op_load _ _ _ _ _ _ Try.underlying3 rfl rfl rfl (Nat.le_of_ble_eq_true rfl) rfl rfl rfl),
      st_run 3 8 false rfl rfl rfl (List.Mem.head _) (op_bin _ _ _ _ _ rfl rfl rfl),
      st_plain rfl (op_pick _ _ false _ rfl rfl),
      st_plain rfl (op_move _ _ _ _ (congrArg (fun b => AV.v (Value.bool b)) hg1_8) rfl),
      st_skip 8 13 _ false rfl rfl rfl rfl (List.Mem.head _),
      st_skip 8 13 _ false rfl rfl rfl rfl (List.Mem.head _),
      st_skip 8 13 _ false rfl rfl rfl rfl (List.Mem.head _),
      st_skip 8 13 _ false rfl rfl rfl rfl (List.Mem.head _),
      st_skip 8 13 _ false rfl rfl rfl rfl (List.Mem.head _),
      st_plain rfl (op_pick _ _ true _ rfl rfl),
      trivial⟩ ?_
     exact hl5 _ (Option.some.inj h).symm
    ·obtain ⟨v1, hv1, h⟩ := bind_some h
     obtain ⟨v2, hv2, h⟩ := bind_some h
     refine ht_seqR hn (El := (_ :: (5, .ptr 1 0) :: (6, .v (.int .i64 p_r.Code)) :: (7, .v (.bool ((decide (p_r.Code < 200))))) :: (8, .v (.bool false)) :: (9, .ptr 1 0) :: (10, .v (.int .i64 p_r.Code)) :: (11, .v (.bool ((decide (559 < p_r.Code))))) :: (12, .v (.bool ((decide (559 < p_r.Code))))) :: (13, .v (.bool false)) :: (14, .ptr 1 0) :: (15, .v (.int .i64 p_r.Code)) :: (16, .v (.int .i64 v1)) :: (17, .v (.int .i64 v2)) :: (18, .v (.bool ((decide (5 < v2))))) :: (19, .v (.bool ((decide (5 < v2))))) :: [])) (init := [0]) (fin := [0, 15]) (sps := (⟨[0], [], [1], [(.slot 5)]⟩ :: ⟨[1, 0], [], [2], [(.slot 6)]⟩ :: ⟨[2], [], [3], [(.slot 7)]⟩ :: ⟨[3], [], [4], [(.slot 8)]⟩ :: ⟨[4, 0], [], [5], [(.slot 9)]⟩ :: ⟨[4, 5, 0], [], [6], [(.slot 10)]⟩ :: ⟨[4, 6], [], [7], [(.slot 11)]⟩ :: ⟨[4, 7], [], [8], [(.slot 12)]⟩ :: ⟨[8], [], [9], [(.slot 13)]⟩ :: ⟨[9, 0], [], [10], [(.slot 14)]⟩ :: ⟨[9, 10, 0], [], [11], [(.slot 15)]⟩ :: ⟨[9, 11], [], [12], [(.slot 16)]⟩ :: ⟨[9, 12], [], [13], [(.slot 17)]⟩ :: ⟨[9, 13], [], [14], [(.slot 18)]⟩ :: ⟨[9, 14], [], [15], [(.slot 19)]⟩ :: [])) (es' := [(_, _), (19, .v (.bool ((decide (5 < v2)))))]) (by kernel_rfl) rfl rfl
      ⟨st_plain rfl (op_fieldAddr _ _ _ _ 1 0 _ Try.underlying24 rfl sz3 rfl rfl (by decide)),
      st_plain rfl (op_load _ _ _ _ _ _ Try.underlying3 rfl rfl rfl (Nat.le_of_ble_eq_true rfl) rfl rfl rfl),
      st_plain rfl (op_bin _ _ _ _ _ rfl rfl rfl),
      st_plain rfl (op_move _ _ _ _ (congrArg (fun b => AV.v (Value.bool b)) hg1_3) rfl),
      st_run 3 8 false rfl rfl rfl (List.Mem.head _) (op_fieldAddr _ _ _ _ 1 0 _ Try.underlying24 rfl sz3 rfl rfl (by decide)),
      st_run 3 8 false rfl rfl rfl (List.Mem.head _) (op_load _ _ _ _ _ _ Try.underlying3 rfl rfl rfl (Nat.le_of_ble_eq_true rfl) rfl rfl rfl),
      st_run 3 8 false rfl rfl rfl (List.Mem.head _) (op_bin _ _ _ _ _ rfl rfl rfl),
      st_plain rfl (op_pick _ _ false _ rfl rfl),
      st_plain rfl (op_move _ _ _ _ (congrArg (fun b => AV.v (Value.bool b)) hg1_8) rfl),
      st_run 8 13 false rfl rfl rfl (List.Mem.head _) (op_fieldAddr _ _ _ _ 1 0 _ Try.underlying24 rfl sz3 rfl rfl (by decide)),
      st_run 8 13 false rfl rfl rfl (List.Mem.head _) (op_load _ _ _ _ _ _ Try.underlying3 rfl rfl rfl (Nat.le_of_ble_eq_true rfl) rfl rfl rfl),
      st_run 8 13 false rfl rfl rfl (List.Mem.head _) (op_bin _ _ _ _ _ rfl rfl (quo_ok hv1)),
      st_run 8 13 false rfl rfl rfl (List.Mem.head _) (op_bin _ _ _ _ _ rfl rfl (rem_ok hv2)),
      st_run 8 13 false rfl rfl rfl (List.Mem.head _) (op_bin _ _ _ _ _ rfl rfl rfl),
      st_plain rfl (op_pick _ _ false _ rfl rfl),
      trivial⟩ ?_
     exact hl5 _ (Option.some.inj h).symm

set_option maxHeartbeats 1000000 in
theorem ok_answer_Bytes (p_r : T_Reply) (r : ((List Int) × Int)) (h : Sh.answer_Bytes p_r = some r) : FnOK Try.prog 10 [.agg [.v (.int .i64 p_r.Code), .fl .shr 1 (List.map Value.string p_r.Lines)]] (.tup [.fl (.own 5) 1 (List.map (Value.int .u8) r.1), .v (.int .i64 r.2)]) := by
  unfold Sh.answer_Bytes at h
  refine fn_ok Try.func10 rfl (Nat.le_of_ble_eq_true rfl) rfl rfl fun g0 hn hio => ?_
  refine ht_seq ?_
  refine ht_seqR hn (El := [_, (1, .box 24 [.v (.int .i64 p_r.Code), .fl .shr 1 (List.map Value.string p_r.Lines)]), (2, .v (.slice none 0 0)), (3, .v (.int .i64 0))]) (init := [0]) (fin := [1]) (sps := [⟨[0], [], [1], [(.slot 1)]⟩, ⟨[], [], [2], [(.slot 2)]⟩, ⟨[], [], [3], [(.slot 3)]⟩]) (es' := [(1, .box 24 [.v (.int .i64 p_r.Code), .fl .shr 1 (List.map Value.string p_r.Lines)])]) (by kernel_rfl) rfl rfl
   ⟨st_plain rfl (op_box _ _ _ _ rfl rfl rfl),
   st_plain rfl (op_assign _ _ _ _ rfl rfl),
   st_plain rfl (op_assign _ _ _ _ rfl rfl),
   trivial⟩ ?_
  refine pt_then ?_
  refine ht_seq ?_
  refine ht_seq ?_
  obtain ⟨v1, hv1, h⟩ := bind_some h
  refine ht_seqR hn (El := [_, (9, .agg [.v (.int .i64 p_r.Code), .fl .shr 1 (List.map Value.string p_r.Lines)]), (10, .v (.int .i64 v1)), (4, .v (.int .i64 v1))]) (init := [0]) (fin := [0, 3]) (sps := [⟨[0], [], [1], [(.slot 9)]⟩, ⟨[1], [], [2], [(.slot 10)]⟩, ⟨[2], [], [3], [(.slot 4)]⟩]) (es' := [(_, _), (4, .v (.int .i64 v1))]) (by kernel_rfl) rfl rfl
   ⟨st_plain rfl (op_loadA _ _ _ _ _ _ _ Try.underlying24 rfl sz24 rfl rfl (Nat.le_of_ble_eq_true rfl) rfl rfl),
   st_plain rfl (op_call _ _ 14 _ _ rfl Try.call14 rfl (ok_answer_Check p_r _ hv1) rfl rfl),
   st_plain rfl (op_assign _ _ _ _ rfl rfl),
   trivial⟩ ?_
  refine pt_then ?_
  refine ht_seq ?_
  refine ht_seqR hn (El := [_, _, (11, .v (.int .i64 v1)), (12, .v (.bool (v1 != 0)))]) (init := [0, 1]) (fin := [0, 1, 3]) (sps := [⟨[1], [], [2], [(.slot 11)]⟩, ⟨[2], [], [3], [(.slot 12)]⟩]) (es' := [(_, _), (_, _), (12, .v (.bool (v1 != 0)))]) (by kernel_rfl) rfl rfl
   ⟨st_plain rfl (op_move _ _ _ _ rfl rfl),
   st_plain rfl (op_bin _ _ _ _ _ rfl rfl rfl),
   trivial⟩ ?_
  refine pt_then ?_
  refine ht_cond _ rfl (fun hb2 => ?_) (fun hb2 => ?_)
  ·have h := cond_t hb2 h
   refine ht_seq ?_
   refine ht_seqR hn (El := [_, _, _, (13, .v (.int .i64 v1)), (2, .v (.slice none 0 0)), (3, .v (.int .i64 v1))]) (init := [0, 1, 2]) (fin := [4, 5]) (sps := [⟨[1], [], [3], [(.slot 13)]⟩, ⟨[], [], [4], [(.slot 2)]⟩, ⟨[3], [], [5], [(.slot 3)]⟩]) (es' := [(2, .v (.slice none 0 0)), (3, .v (.int .i64 v1))]) (by kernel_rfl) rfl rfl
    ⟨st_plain rfl (op_move _ _ _ _ rfl rfl),
    st_plain rfl (op_assign _ _ _ _ rfl rfl),
    st_plain rfl (op_assign _ _ _ _ rfl rfl),
    trivial⟩ ?_
   refine pt_then ?_
   refine ht_ret ?_
   refine pt_sub (fs := [(2, .fl (.own 5) 1 (List.map (Value.int .u8) [])), (3, .v (.int .i64 v1))]) (.sub _ (sub_nil 5 1) rfl (.same _ .nil)) ?_
   refine pt_r_then ?_
   obtain rfl := Option.some.inj h
   exact pt_ret hio rfl (.tmp _ _ (.tmp _ _ .nil)) rfl rfl
  ·have h := cond_f hb2 h
   refine ht_skip ?_
   refine pt_then ?_
   refine ht_seq ?_
   refine ht_seqR hn (El := [_, _, _, (5, .v (.slice none 0 0))]) (init := [0, 1, 2]) (fin := [0, 3]) (sps := [⟨[], [], [3], [(.slot 5)]⟩]) (es' := [(_, _), (5, .v (.slice none 0 0))]) (by kernel_rfl) rfl rfl
    ⟨st_plain rfl (op_assign _ _ _ _ rfl rfl),
    trivial⟩ ?_
   refine pt_then ?_
   refine ht_seq ?_
   refine ht_seq ?_
   refine ht_seqR hn (El := [_, _, (14, .ptr 1 1), (15, .fl .shr 1 (List.map Value.string p_r.Lines)), (16, .v (.int .i64 (p_r.Lines.length : Int))), (17, .v (.int .i64 0))]) (init := [0, 1]) (fin := [0, 1, 3, 4, 5]) (sps := [⟨[0], [], [2], [(.slot 14)]⟩, ⟨[2, 0], [], [3], [(.slot 15)]⟩, ⟨[3], [], [4], [(.slot 16)]⟩, ⟨[], [], [5], [(.slot 17)]⟩]) (es' := [(_, _), (_, _), (15, .fl .shr 1 (List.map Value.string p_r.Lines)), (16, .v (.int .i64 (p_r.Lines.length : Int))), (17, .v (.int .i64 0))]) (by kernel_rfl) rfl rfl
    ⟨st_plain rfl (op_fieldAddr _ _ _ _ 1 0 _ Try.underlying24 rfl sz22 rfl rfl (by decide)),
    st_plain rfl (op_load _ _ _ _ _ _ Try.underlying22 rfl rfl rfl (Nat.le_of_ble_eq_true rfl) rfl rfl rfl),
    st_plain rfl (op_len_fl _ _ _ Try.underlying22 rfl (by decide) (map_len _)),
    st_plain rfl (op_move _ _ _ _ rfl rfl),
    trivial⟩ ?_
   refine pt_then ?_
   refine ht_sub (fs := [(1, .box 24 [.v (.int .i64 p_r.Code), .fl .shr 1 (List.map Value.string p_r.Lines)]), (5, .fl (.own 5) 1 (List.map (Value.int .u8) [])), (15, .fl .shr 1 (List.map Value.string p_r.Lines)), (16, .v (.int .i64 (p_r.Lines.length : Int))), (17, .v (.int .i64 0))]) (.same _ (.sub _ (sub_nil 5 1) rfl (.same _ (.same _ (.same _ .nil))))) ?_
   refine ht_loopS h (fun ((s36, s37) : (List Int) × Int) => [(1, .box 24 [.v (.int .i64 p_r.Code), .fl .shr 1 (List.map Value.string p_r.Lines)]), (5, .fl (.own 5) 1 (List.map (Value.int .u8) s36)), (15, .fl .shr 1 (List.map Value.string p_r.Lines)), (16, .v (.int .i64 (p_r.Lines.length : Int))), (17, .v (.int .i64 s37))]) (fun (s45 : (List Int)) => [(5, .fl (.own 5) 1 (List.map (Value.int .u8) s45))]) ?_ ?_
   ·rintro s45 h
    refine pt_then ?_
    refine ht_seq ?_
    refine ht_seqR hn (El := [_, (54, .fl (.own 5) 1 (List.map (Value.int .u8) s45)), (2, .fl (.own 5) 1 (List.map (Value.int .u8) s45)), (3, .v (.int .i64 0))]) (init := [0]) (fin := [2, 3]) (sps := [⟨[], [0], [1], [(.slot 54)]⟩, ⟨[], [1], [2], [(.slot 2)]⟩, ⟨[], [], [3], [(.slot 3)]⟩]) (es' := [(2, .fl (.own 5) 1 (List.map (Value.int .u8) s45)), (3, .v (.int .i64 0))]) (by kernel_rfl) rfl rfl
     ⟨st_plain rfl (op_move_take _ _ _ _ rfl),
     st_plain rfl (op_assign_take _ _ _ _ rfl),
     st_plain rfl (op_assign _ _ _ _ rfl rfl),
     trivial⟩ ?_
    refine pt_then ?_
    refine ht_ret ?_
    obtain rfl := Option.some.inj h
    exact pt_ret hio rfl (.tmp _ _ (.tmp _ _ .nil)) rfl rfl
   ·rintro u46 hl47 hr48 ⟨s36, s37⟩ rr51 h ho49
    refine ht_seq ?_
    refine ht_seqR hn (El := [_, _, _, _, _, (18, .v (.bool ((decide (s37 < (p_r.Lines.length : Int))))))]) (init := [0, 1, 2, 3, 4]) (fin := [0, 1, 2, 3, 4, 5]) (sps := [⟨[4, 3], [], [5], [(.slot 18)]⟩]) (es' := [(_, _), (_, _), (_, _), (_, _), (_, _), (18, .v (.bool ((decide (s37 < (p_r.Lines.length : Int))))))]) (by kernel_rfl) rfl rfl
     ⟨st_plain rfl (op_bin _ _ _ _ _ rfl rfl rfl),
     trivial⟩ ?_
    refine pt_then ?_
    refine ht_seq ?_
    refine ht_cond _ rfl (fun hb52 => ?_) (fun hb52 => ?_)
    ·have h := cond_t hb52 h
     refine ht_skip ?_
     refine pt_then ?_
     refine ht_seq ?_
     refine ht_block ?_
     refine ht_seq ?_
     obtain ⟨v4, hv4, h⟩ := bind_some h
     obtain ⟨v5, hv5, h⟩ := bind_some h
     refine ht_seqR hn (El := [_, _, _, _, _, _, (19, .v (.int .i64 s37)), (20, .eref (.slot 15) (v4 * 1)), (21, .v (.string v5)), (6, .v (.int .i64 s37)), (7, .v (.string v5))]) (init := [0, 1, 2, 3, 4, 5]) (fin := [0, 1, 2, 3, 4, 9, 10]) (sps := [⟨[4], [], [6], [(.slot 19)]⟩, ⟨[2, 4], [], [7], [(.slot 20)]⟩, ⟨[7, 2], [], [8], [(.slot 21)]⟩, ⟨[6], [], [9], [(.slot 6)]⟩, ⟨[8], [], [10], [(.slot 7)]⟩]) (es' := [(_, _), (_, _), (_, _), (_, _), (_, _), (6, .v (.int .i64 s37)), (7, .v (.string v5))]) (by kernel_rfl) rfl rfl
      ⟨st_plain rfl (op_move _ _ _ _ rfl rfl),
      st_plain rfl (op_ix _ _ _ _ _ _ _ _ Try.underlying22 sz9 (by decide) rfl rfl rfl (ix_ok hv4).1 (map_lt (ix_ok hv4).2) rfl),
      st_plain rfl (op_load_e _ _ _ _ _ _ Try.underlying9 rfl rfl rfl (map_get hv5)),
      st_plain rfl (op_assign _ _ _ _ rfl rfl),
      st_plain rfl (op_assign _ _ _ _ rfl rfl),
      trivial⟩ ?_
     refine pt_then ?_
     refine ht_seq ?_
     refine ht_seqR hn (El := [_, _, _, _, _, _, _, (8, .v (.int .u8 45))]) (init := [0, 1, 2, 3, 4, 5, 6]) (fin := [0, 1, 2, 3, 4, 5, 6, 7]) (sps := [⟨[], [], [7], [(.slot 8)]⟩]) (es' := [(_, _), (_, _), (_, _), (_, _), (_, _), (_, _), (_, _), (8, .v (.int .u8 45))]) (by kernel_rfl) rfl rfl
      ⟨st_plain rfl (op_assign _ _ _ _ rfl rfl),
      trivial⟩ ?_
     refine pt_then ?_
     refine ht_seq ?_
     refine ht_joinS h (fun (s54 : Int) => [(1, .box 24 [.v (.int .i64 p_r.Code), .fl .shr 1 (List.map Value.string p_r.Lines)]), (5, .fl (.own 5) 1 (List.map (Value.int .u8) s36)), (15, .fl .shr 1 (List.map Value.string p_r.Lines)), (16, .v (.int .i64 (p_r.Lines.length : Int))), (17, .v (.int .i64 s37)), (7, .v (.string v5)), (8, .v (.int .u8 s54))]) ?_ ?_
     ·rintro s54 h
      refine pt_then ?_
      refine ht_seq ?_
      obtain ⟨v13, hv13, h⟩ := bind_some h
      obtain ⟨v14, hv14, h⟩ := bind_some h
      obtain ⟨v15, hv15, h⟩ := bind_some h
      obtain ⟨v16, hv16, h⟩ := bind_some h
      obtain ⟨v17, hv17, h⟩ := bind_some h
      obtain ⟨v18, hv18, h⟩ := bind_some h
      obtain ⟨v19, hv19, h⟩ := bind_some h
      obtain ⟨v20, hv20, h⟩ := bind_some h
      obtain ⟨v21, hv21, h⟩ := bind_some h
      obtain ⟨v22, hv22, h⟩ := bind_some h
      obtain ⟨v23, hv23, h⟩ := bind_some h
      refine ht_seqR hn (El := (_ :: _ :: _ :: _ :: _ :: _ :: _ :: (28, .fl (.own 5) 1 (List.map (Value.int .u8) s36)) :: (29, .ptr 1 0) :: (30, .v (.int .i64 p_r.Code)) :: (31, .v (.int .i64 v13)) :: (32, .v (.int .i64 v14)) :: (33, .v (.int .u8 v15)) :: (34, .ptr 1 0) :: (35, .v (.int .i64 p_r.Code)) :: (36, .v (.int .i64 v16)) :: (37, .v (.int .i64 v17)) :: (38, .v (.int .i64 v18)) :: (39, .v (.int .u8 v19)) :: (40, .ptr 1 0) :: (41, .v (.int .i64 p_r.Code)) :: (42, .v (.int .i64 v20)) :: (43, .v (.int .i64 v21)) :: (44, .v (.int .u8 v22)) :: (45, .v (.int .u8 s54)) :: (46, .fl (.own 5) 1 (List.map (Value.int .u8) [v15, v19, v22, s54])) :: (47, .fl (.own 5) 1 (List.map (Value.int .u8) v23)) :: (28, .any) :: (5, .fl (.own 5) 1 (List.map (Value.int .u8) v23)) :: [])) (init := [0, 1, 2, 3, 4, 5, 6]) (fin := [0, 2, 3, 4, 5, 28]) (sps := (⟨[], [1], [7], [(.slot 28)]⟩ :: ⟨[0], [], [8], [(.slot 29)]⟩ :: ⟨[8, 0], [], [9], [(.slot 30)]⟩ :: ⟨[9], [], [10], [(.slot 31)]⟩ :: ⟨[10], [], [11], [(.slot 32)]⟩ :: ⟨[11], [], [12], [(.slot 33)]⟩ :: ⟨[0], [], [13], [(.slot 34)]⟩ :: ⟨[13, 0], [], [14], [(.slot 35)]⟩ :: ⟨[14], [], [15], [(.slot 36)]⟩ :: ⟨[15], [], [16], [(.slot 37)]⟩ :: ⟨[16], [], [17], [(.slot 38)]⟩ :: ⟨[17], [], [18], [(.slot 39)]⟩ :: ⟨[0], [], [19], [(.slot 40)]⟩ :: ⟨[19, 0], [], [20], [(.slot 41)]⟩ :: ⟨[20], [], [21], [(.slot 42)]⟩ :: ⟨[21], [], [22], [(.slot 43)]⟩ :: ⟨[22], [], [23], [(.slot 44)]⟩ :: ⟨[6], [], [24], [(.slot 45)]⟩ :: ⟨[12, 18, 23, 24], [], [25], [(.slot 46)]⟩ :: ⟨[25], [7], [27, 26], [(.slot 47)]⟩ :: ⟨[], [26], [28], [(.slot 5)]⟩ :: [])) (es' := [(_, _), (_, _), (_, _), (_, _), (_, _), (5, .fl (.own 5) 1 (List.map (Value.int .u8) v23))]) (by kernel_rfl) rfl rfl
       ⟨st_plain rfl (op_move_take _ _ _ _ rfl),
       st_plain rfl (op_fieldAddr _ _ _ _ 1 0 _ Try.underlying24 rfl sz3 rfl rfl (by decide)),
       st_plain rfl (op_load _ _ _ _ _ _ Try.underlying3 rfl rfl rfl (Nat.le_of_ble_eq_true rfl) rfl rfl rfl),
       st_plain rfl (op_bin _ _ _ _ _ rfl rfl (quo_ok hv13)),
       st_plain rfl (op_bin _ _ _ _ _ rfl rfl (ibind (f := Value.int .i64) (Option.some.inj hv14))),
       st_plain rfl ((Option.some.inj hv15) ▸ op_conv _ _ _ Try.underlying3 Try.underlying5 rfl),
       st_plain rfl (op_fieldAddr _ _ _ _ 1 0 _ Try.underlying24 rfl sz3 rfl rfl (by decide)),
       st_plain rfl (op_load _ _ _ _ _ _ Try.underlying3 rfl rfl rfl (Nat.le_of_ble_eq_true rfl) rfl rfl rfl),
       st_plain rfl (op_bin _ _ _ _ _ rfl rfl (quo_ok hv16)),
       st_plain rfl (op_bin _ _ _ _ _ rfl rfl (rem_ok hv17)),
       st_plain rfl (op_bin _ _ _ _ _ rfl rfl (ibind (f := Value.int .i64) (Option.some.inj hv18))),
       st_plain rfl ((Option.some.inj hv19) ▸ op_conv _ _ _ Try.underlying3 Try.underlying5 rfl),
       st_plain rfl (op_fieldAddr _ _ _ _ 1 0 _ Try.underlying24 rfl sz3 rfl rfl (by decide)),
       st_plain rfl (op_load _ _ _ _ _ _ Try.underlying3 rfl rfl rfl (Nat.le_of_ble_eq_true rfl) rfl rfl rfl),
       st_plain rfl (op_bin _ _ _ _ _ rfl rfl (rem_ok hv20)),
       st_plain rfl (op_bin _ _ _ _ _ rfl rfl (ibind (f := Value.int .i64) (Option.some.inj hv21))),
       st_plain rfl ((Option.some.inj hv22) ▸ op_conv _ _ _ Try.underlying3 Try.underlying5 rfl),
       st_plain rfl (op_move _ _ _ _ rfl rfl),
       st_plain rfl (op_buildSlice _ _ 1 (.int .u8 0) (List.map (Value.int .u8) [v15, v19, v22, s54]) [(0, .int .u8 v15), (1, .int .u8 v19), (2, .int .u8 v22), (3, .int .u8 s54)] Try.underlying25 sz5 zr5 (fun _ V w o a hv hes => by have e0 := rd_v hv hes (x := .tmp 33) rfl; have e1 := rd_v hv hes (x := .tmp 39) rfl; have e2 := rd_v hv hes (x := .tmp 44) rfl; have e3 := rd_v hv hes (x := .tmp 45) rfl; simp only [List.map_toArray, List.map_cons, List.map_nil, e0, e1, e2, e3]; try rfl) (litfill (by simp [Instr.fill, Value.cells]; rfl) (by simp [List.range, List.range.loop])) (by simp [Value.oneCell']) rfl (by decide) (by decide) (by decide)),
       st_plain rfl (op_app _ _ _ _ _ el25 rfl rfl (map_len _) (map_len _) hv23 ((List.map_append).symm.trans (congrArg (List.map _) (app_eq hv23)))),
       st_plain rfl (op_assign_take _ _ _ _ rfl),
       trivial⟩ ?_
      refine pt_then ?_
      refine ht_seq ?_
      obtain ⟨v24, hv24, h⟩ := bind_some h
      refine ht_seqR hn (El := [_, _, _, _, _, _, (48, .fl (.own 5) 1 (List.map (Value.int .u8) v23)), (49, .v (.string v5)), (50, .fl (.own 5) 1 (List.map (Value.int .u8) v24)), (48, .any), (5, .fl (.own 5) 1 (List.map (Value.int .u8) v24))]) (init := [0, 1, 2, 3, 4, 5]) (fin := [0, 1, 2, 3, 10]) (sps := [⟨[], [5], [6], [(.slot 48)]⟩, ⟨[4], [], [7], [(.slot 49)]⟩, ⟨[7], [6], [9, 8], [(.slot 50)]⟩, ⟨[], [8], [10], [(.slot 5)]⟩]) (es' := [(_, _), (_, _), (_, _), (_, _), (5, .fl (.own 5) 1 (List.map (Value.int .u8) v24))]) (by kernel_rfl) rfl rfl
       ⟨st_plain rfl (op_move_take _ _ _ _ rfl),
       st_plain rfl (op_move _ _ _ _ rfl rfl),
       st_plain rfl (op_apps _ _ _ _ _ el25 zr5 Try.underlying9 rfl rfl rfl hv24 rfl),
       st_plain rfl (op_assign_take _ _ _ _ rfl),
       trivial⟩ ?_
      refine pt_then ?_
      obtain ⟨v25, hv25, h⟩ := bind_some h
      refine ht_seqR hn (El := [_, _, _, _, _, (51, .fl (.own 5) 1 (List.map (Value.int .u8) v24)), (52, .fl (.own 5) 1 (List.map (Value.int .u8) v25)), (51, .any), (5, .fl (.own 5) 1 (List.map (Value.int .u8) v25))]) (init := [0, 1, 2, 3, 4]) (fin := [0, 1, 2, 3, 8]) (sps := [⟨[], [4], [5], [(.slot 51)]⟩, ⟨[], [5], [7, 6], [(.slot 52)]⟩, ⟨[], [6], [8], [(.slot 5)]⟩]) (es' := [(_, _), (_, _), (_, _), (_, _), (5, .fl (.own 5) 1 (List.map (Value.int .u8) v25))]) (by kernel_rfl) rfl rfl
       ⟨st_plain rfl (op_move_take _ _ _ _ rfl),
       st_plain rfl (op_apps _ _ _ _ _ el25 zr5 Try.underlying9 rfl rfl rfl hv25 rfl),
       st_plain rfl (op_assign_take _ _ _ _ rfl),
       trivial⟩ ?_
      refine pt_inb ?_
      refine pt_then ?_
      obtain ⟨v26, hv26, h⟩ := bind_some h
      refine ht_seqR hn (El := [_, _, _, _, _, (53, .v (.int .i64 v26)), (17, .v (.int .i64 v26))]) (init := [0, 1, 2, 3, 4]) (fin := [0, 1, 2, 4, 6]) (sps := [⟨[3], [], [5], [(.slot 53)]⟩, ⟨[5], [3], [6], [(.slot 17)]⟩]) (es' := [(_, _), (_, _), (_, _), (_, _), (17, .v (.int .i64 v26))]) (by kernel_rfl) rfl rfl
       ⟨st_plain rfl (op_bin _ _ _ _ _ rfl rfl (ibind (f := Value.int .i64) (Option.some.inj hv26))),
       st_plain rfl (LOp.drop [_] (op_move _ _ _ _ rfl rfl)),
       trivial⟩ ?_
      refine pt_pick [0, 3, 1, 2, 4] (by kernel_rfl) (es' := [(_, _), (_, _), (_, _), (_, _), (_, _)]) rfl ?_
      exact pt_next _ (Option.some.inj h).symm rfl
     ·intro u55 h hl56 hr57
      refine ht_seq ?_
      obtain ⟨v6, hv6, h⟩ := bind_some h
      refine ht_seqR hn (El := [_, _, _, _, _, _, _, _, (22, .v (.int .i64 s37)), (23, .ptr 1 1), (24, .fl .shr 1 (List.map Value.string p_r.Lines)), (25, .v (.int .i64 (p_r.Lines.length : Int))), (26, .v (.int .i64 v6)), (27, .v (.bool (s37 == v6)))]) (init := [0, 1, 2, 3, 4, 5, 6, 7]) (fin := [0, 1, 2, 3, 4, 6, 7, 13]) (sps := [⟨[5], [], [8], [(.slot 22)]⟩, ⟨[0], [], [9], [(.slot 23)]⟩, ⟨[9, 0], [], [10], [(.slot 24)]⟩, ⟨[10], [], [11], [(.slot 25)]⟩, ⟨[11], [], [12], [(.slot 26)]⟩, ⟨[8, 12], [], [13], [(.slot 27)]⟩]) (es' := [(_, _), (_, _), (_, _), (_, _), (_, _), (_, _), (_, _), (27, .v (.bool (s37 == v6)))]) (by kernel_rfl) rfl rfl
       ⟨st_plain rfl (op_move _ _ _ _ rfl rfl),
       st_plain rfl (op_fieldAddr _ _ _ _ 1 0 _ Try.underlying24 rfl sz22 rfl rfl (by decide)),
       st_plain rfl (op_load _ _ _ _ _ _ Try.underlying22 rfl rfl rfl (Nat.le_of_ble_eq_true rfl) rfl rfl rfl),
       st_plain rfl (op_len_fl _ _ _ Try.underlying22 rfl (by decide) (map_len _)),
       st_plain rfl (op_bin _ _ _ _ _ rfl rfl (ibind (f := Value.int .i64) (Option.some.inj hv6))),
       st_plain rfl (op_bin _ _ _ _ _ rfl rfl rfl),
       trivial⟩ ?_
      refine pt_then ?_
      refine ht_cond _ rfl (fun hb58 => ?_) (fun hb58 => ?_)
      ·have h := cond_t hb58 h
       refine ht_seqR hn (El := [_, _, _, _, _, _, _, _, (8, .v (.int .u8 32))]) (init := [0, 1, 2, 3, 4, 5, 6, 7]) (fin := [0, 1, 2, 3, 4, 5, 8]) (sps := [⟨[], [6], [8], [(.slot 8)]⟩]) (es' := [(_, _), (_, _), (_, _), (_, _), (_, _), (_, _), (8, .v (.int .u8 32))]) (by kernel_rfl) rfl rfl
        ⟨st_plain rfl (LOp.drop [_] (op_assign _ _ _ _ rfl rfl)),
        trivial⟩ ?_
       exact hl56 _ (Option.some.inj h).symm
      ·have h := cond_f hb58 h
       refine ht_skip ?_
       refine pt_pick [0, 1, 2, 3, 4, 5, 6] (by kernel_rfl) (es' := [(_, _), (_, _), (_, _), (_, _), (_, _), (_, _), (_, _)]) rfl ?_
       exact hl56 _ (Option.some.inj h).symm
    ·have h := cond_f hb52 h
     refine ht_exit ?_
     refine pt_x_then ?_
     refine pt_x_then ?_
     refine pt_x_in ?_
     refine pt_pick [1] (by kernel_rfl) (es' := [(_, _)]) rfl ?_
     exact hl47 _ (ho49 _ (Option.some.inj h).symm).symm

theorem ok_bytes_Index (mx : Int) (s sep : List Int) (r : Int) (h : Sh.bytes_Index s sep = some r) : FnG Try.prog (GL mx) 21 [.fl .shr 1 (List.map (Value.int .u8) s), .fl .shr 1 (List.map (Value.int .u8) sep)] (.v (.int .i64 r)) :=
  lib_bytes_Index (gl_mem0 mx) Try.bytes_Index_at Try.bytes_Index_longer s sep r h

set_option maxHeartbeats 1000000 in
theorem ok_answer_number (line : (List Int)) (r : (Int × Bool)) (h : Sh.answer_number line = some r) : FnOK Try.prog 22 [.fl .shr 1 (List.map (Value.int .u8) line)] (.tup [.v (.int .i64 r.1), .v (.bool r.2)]) := by
  unfold Sh.answer_number at h
  refine fn_ok Try.func22 rfl (Nat.le_of_ble_eq_true rfl) rfl rfl fun g0 hn hio => ?_
  refine ht_seq ?_
  refine ht_seqR hn (El := [_, (2, .v (.int .i64 0)), (3, .v (.bool false))]) (init := [0]) (fin := [0]) (sps := [⟨[], [], [1], [(.slot 2)]⟩, ⟨[], [], [2], [(.slot 3)]⟩]) (es' := [(_, _)]) (by kernel_rfl) rfl rfl
   ⟨st_plain rfl (op_assign _ _ _ _ rfl rfl),
   st_plain rfl (op_assign _ _ _ _ rfl rfl),
   trivial⟩ ?_
  refine pt_then ?_
  refine ht_seq ?_
  refine ht_seqR hn (El := [_, (4, .v (.int .i64 0))]) (init := [0]) (fin := [0, 1]) (sps := [⟨[], [], [1], [(.slot 4)]⟩]) (es' := [(_, _), (4, .v (.int .i64 0))]) (by kernel_rfl) rfl rfl
   ⟨st_plain rfl (op_assign _ _ _ _ rfl rfl),
   trivial⟩ ?_
  refine pt_then ?_
  refine ht_seq ?_
  refine ht_seq ?_
  obtain ⟨v1, hv1, h⟩ := bind_some h
  refine ht_seqR hn (El := [_, _, (7, .fl .shr 1 (List.map (Value.int .u8) line)), (8, .fl .shr 1 (List.map (Value.int .u8) v1)), (9, .v (.int .i64 (v1.length : Int))), (10, .v (.int .i64 0))]) (init := [0, 1]) (fin := [1, 3, 4, 5]) (sps := [⟨[0], [], [2], [(.slot 7)]⟩, ⟨[2], [], [3], [(.slot 8)]⟩, ⟨[3], [], [4], [(.slot 9)]⟩, ⟨[], [], [5], [(.slot 10)]⟩]) (es' := [(_, _), (8, .fl .shr 1 (List.map (Value.int .u8) v1)), (9, .v (.int .i64 (v1.length : Int))), (10, .v (.int .i64 0))]) (by kernel_rfl) rfl rfl
   ⟨st_plain rfl (op_move _ _ _ _ rfl rfl),
   st_plain rfl (op_sl _ _ _ 0 3 _ Try.underlying25 sz5 rfl rfl rfl ⟨_, rfl⟩ hv1),
   st_plain rfl (op_len_fl _ _ _ Try.underlying25 rfl (by decide) (map_len _)),
   st_plain rfl (op_move _ _ _ _ rfl rfl),
   trivial⟩ ?_
  refine pt_then ?_
  refine ht_loopS h (fun ((s23, s24) : Int × Int) => [(4, .v (.int .i64 s23)), (8, .fl .shr 1 (List.map (Value.int .u8) v1)), (9, .v (.int .i64 (v1.length : Int))), (10, .v (.int .i64 s24))]) (fun (s31 : Int) => [(4, .v (.int .i64 s31))]) ?_ ?_
  ·rintro s31 h
   refine pt_then ?_
   refine ht_seq ?_
   refine ht_seqR hn (El := [_, (27, .v (.int .i64 s31)), (2, .v (.int .i64 s31)), (3, .v (.bool true))]) (init := [0]) (fin := [2, 3]) (sps := [⟨[0], [], [1], [(.slot 27)]⟩, ⟨[1], [], [2], [(.slot 2)]⟩, ⟨[], [], [3], [(.slot 3)]⟩]) (es' := [(2, .v (.int .i64 s31)), (3, .v (.bool true))]) (by kernel_rfl) rfl rfl
    ⟨st_plain rfl (op_move _ _ _ _ rfl rfl),
    st_plain rfl (op_assign _ _ _ _ rfl rfl),
    st_plain rfl (op_assign _ _ _ _ rfl rfl),
    trivial⟩ ?_
   refine pt_then ?_
   refine ht_ret ?_
   obtain rfl := Option.some.inj h
   exact pt_ret hio rfl (.tmp _ _ (.tmp _ _ .nil)) rfl rfl
  ·rintro u32 hl33 hr34 ⟨s23, s24⟩ rr37 h ho35
   refine ht_seq ?_
   refine ht_seqR hn (El := [_, _, _, _, (11, .v (.bool ((decide (s24 < (v1.length : Int))))))]) (init := [0, 1, 2, 3]) (fin := [0, 1, 2, 3, 4]) (sps := [⟨[3, 2], [], [4], [(.slot 11)]⟩]) (es' := [(_, _), (_, _), (_, _), (_, _), (11, .v (.bool ((decide (s24 < (v1.length : Int))))))]) (by kernel_rfl) rfl rfl
    ⟨st_plain rfl (op_bin _ _ _ _ _ rfl rfl rfl),
    trivial⟩ ?_
   refine pt_then ?_
   refine ht_seq ?_
   refine ht_cond _ rfl (fun hb38 => ?_) (fun hb38 => ?_)
   ·have h := cond_t hb38 h
    refine ht_skip ?_
    refine pt_then ?_
    refine ht_seq ?_
    refine ht_block ?_
    refine ht_seq ?_
    obtain ⟨v3, hv3, h⟩ := bind_some h
    obtain ⟨v4, hv4, h⟩ := bind_some h
    refine ht_seqR hn (El := [_, _, _, _, _, (12, .eref (.slot 8) (v3 * 1)), (13, .v (.int .u8 v4)), (6, .v (.int .u8 v4))]) (init := [0, 1, 2, 3, 4]) (fin := [0, 1, 2, 3, 7]) (sps := [⟨[1, 3], [], [5], [(.slot 12)]⟩, ⟨[5, 1], [], [6], [(.slot 13)]⟩, ⟨[6], [], [7], [(.slot 6)]⟩]) (es' := [(_, _), (_, _), (_, _), (_, _), (6, .v (.int .u8 v4))]) (by kernel_rfl) rfl rfl
     ⟨st_plain rfl (op_ix _ _ _ _ _ _ _ _ Try.underlying25 sz5 (by decide) rfl rfl rfl (ix_ok hv3).1 (map_lt (ix_ok hv3).2) rfl),
     st_plain rfl (op_load_e _ _ _ _ _ _ Try.underlying5 rfl rfl rfl (map_get hv4)),
     st_plain rfl (op_assign _ _ _ _ rfl rfl),
     trivial⟩ ?_
    refine pt_then ?_
    refine ht_seq ?_
    refine ht_seq ?_
    refine ht_joinS h (fun (s39 : Bool) => [(4, .v (.int .i64 s23)), (8, .fl .shr 1 (List.map (Value.int .u8) v1)), (9, .v (.int .i64 (v1.length : Int))), (10, .v (.int .i64 s24)), (6, .v (.int .u8 v4)), (19, .v (.bool s39))]) ?_ ?_
    ·rintro s39 h
     refine pt_then ?_
     refine ht_cond _ rfl (fun hb43 => ?_) (fun hb43 => ?_)
     ·have h := cond_t hb43 h
      refine ht_seq ?_
      refine ht_seqR hn (El := [_, _, _, _, _, _, (2, .v (.int .i64 0)), (3, .v (.bool false))]) (init := [0, 1, 2, 3, 4, 5]) (fin := [6, 7]) (sps := [⟨[], [], [6], [(.slot 2)]⟩, ⟨[], [], [7], [(.slot 3)]⟩]) (es' := [(2, .v (.int .i64 0)), (3, .v (.bool false))]) (by kernel_rfl) rfl rfl
       ⟨st_plain rfl (op_assign _ _ _ _ rfl rfl),
       st_plain rfl (op_assign _ _ _ _ rfl rfl),
       trivial⟩ ?_
      refine pt_then ?_
      refine ht_ret ?_
      refine pt_r_then ?_
      refine pt_r_in ?_
      refine pt_r_then ?_
      refine pt_r_then ?_
      refine pt_r_in ?_
      refine pt_r_then ?_
      have h := hr34 _ (ho35 _ (Option.some.inj h).symm).symm
      obtain rfl := Option.some.inj h
      exact pt_ret hio rfl (.tmp _ _ (.tmp _ _ .nil)) rfl rfl
     ·have h := cond_f hb43 h
      refine ht_skip ?_
      refine pt_then ?_
      obtain ⟨v10, hv10, h⟩ := bind_some h
      obtain ⟨v11, hv11, h⟩ := bind_some h
      obtain ⟨v12, hv12, h⟩ := bind_some h
      obtain ⟨v13, hv13, h⟩ := bind_some h
      refine ht_seqR hn (El := [_, _, _, _, _, _, (20, .v (.int .i64 s23)), (21, .v (.int .i64 v10)), (22, .v (.int .u8 v4)), (23, .v (.int .u8 v11)), (24, .v (.int .i64 v12)), (25, .v (.int .i64 v13)), (4, .v (.int .i64 v13))]) (init := [0, 1, 2, 3, 4, 5]) (fin := [1, 2, 3, 12]) (sps := [⟨[0], [], [6], [(.slot 20)]⟩, ⟨[6], [], [7], [(.slot 21)]⟩, ⟨[4], [], [8], [(.slot 22)]⟩, ⟨[8], [], [9], [(.slot 23)]⟩, ⟨[9], [], [10], [(.slot 24)]⟩, ⟨[7, 10], [], [11], [(.slot 25)]⟩, ⟨[11], [0], [12], [(.slot 4)]⟩]) (es' := [(_, _), (_, _), (_, _), (4, .v (.int .i64 v13))]) (by kernel_rfl) rfl rfl
       ⟨st_plain rfl (op_move _ _ _ _ rfl rfl),
       st_plain rfl (op_bin _ _ _ _ _ rfl rfl (ibind (f := Value.int .i64) (Option.some.inj hv10))),
       st_plain rfl (op_move _ _ _ _ rfl rfl),
       st_plain rfl (op_bin _ _ _ _ _ rfl rfl (ibind (f := Value.int .u8) (Option.some.inj hv11))),
       st_plain rfl ((Option.some.inj hv12) ▸ op_conv _ _ _ Try.underlying5 Try.underlying3 rfl),
       st_plain rfl (op_bin _ _ _ _ _ rfl rfl (ibind (f := Value.int .i64) (Option.some.inj hv13))),
       st_plain rfl (LOp.drop [_] (op_assign _ _ _ _ rfl rfl)),
       trivial⟩ ?_
      refine pt_inb ?_
      refine pt_then ?_
      obtain ⟨v14, hv14, h⟩ := bind_some h
      refine ht_seqR hn (El := [_, _, _, _, (26, .v (.int .i64 v14)), (10, .v (.int .i64 v14))]) (init := [0, 1, 2, 3]) (fin := [0, 1, 3, 5]) (sps := [⟨[2], [], [4], [(.slot 26)]⟩, ⟨[4], [2], [5], [(.slot 10)]⟩]) (es' := [(_, _), (_, _), (_, _), (10, .v (.int .i64 v14))]) (by kernel_rfl) rfl rfl
       ⟨st_plain rfl (op_bin _ _ _ _ _ rfl rfl (ibind (f := Value.int .i64) (Option.some.inj hv14))),
       st_plain rfl (LOp.drop [_] (op_move _ _ _ _ rfl rfl)),
       trivial⟩ ?_
      refine pt_pick [2, 0, 1, 3] (by kernel_rfl) (es' := [(_, _), (_, _), (_, _), (_, _)]) rfl ?_
      exact pt_next _ (Option.some.inj h).symm rfl
    ·intro u40 h hl41 hr42
     refine cond_some h (fun hg5_2 h => ?_) (fun hg5_2 h => ?_)
     ·refine ht_seqR hn (El := [_, _, _, _, _, (14, .v (.int .u8 v4)), (15, .v (.bool ((decide (v4 < 48))))), (16, .v (.bool true)), (17, .v undef), (18, .v undef), (19, .v (.bool true))]) (init := [0, 1, 2, 3, 4]) (fin := [0, 1, 2, 3, 4, 10]) (sps := [⟨[4], [], [5], [(.slot 14)]⟩, ⟨[5], [], [6], [(.slot 15)]⟩, ⟨[6], [], [7], [(.slot 16)]⟩, ⟨[7], [], [8], [(.slot 17)]⟩, ⟨[7], [], [9], [(.slot 18)]⟩, ⟨[7], [], [10], [(.slot 19)]⟩]) (es' := [(_, _), (_, _), (_, _), (_, _), (_, _), (19, .v (.bool true))]) (by kernel_rfl) rfl rfl
       ⟨st_plain rfl (op_move _ _ _ _ rfl rfl),
       st_plain rfl (op_bin _ _ _ _ _ rfl rfl rfl),
       st_plain rfl (op_move _ _ _ _ (congrArg (fun b => AV.v (Value.bool b)) hg5_2) rfl),
       st_skip 2 16 _ false rfl rfl rfl rfl (List.Mem.head _),
       st_skip 2 16 _ false rfl rfl rfl rfl (List.Mem.head _),
       st_plain rfl (op_pick _ _ true _ rfl rfl),
       trivial⟩ ?_
      exact hl41 _ (Option.some.inj h).symm
     ·refine ht_seqR hn (El := [_, _, _, _, _, (14, .v (.int .u8 v4)), (15, .v (.bool ((decide (v4 < 48))))), (16, .v (.bool false)), (17, .v (.int .u8 v4)), (18, .v (.bool ((decide (57 < v4))))), (19, .v (.bool ((decide (57 < v4)))))]) (init := [0, 1, 2, 3, 4]) (fin := [0, 1, 2, 3, 4, 10]) (sps := [⟨[4], [], [5], [(.slot 14)]⟩, ⟨[5], [], [6], [(.slot 15)]⟩, ⟨[6], [], [7], [(.slot 16)]⟩, ⟨[7, 4], [], [8], [(.slot 17)]⟩, ⟨[7, 8], [], [9], [(.slot 18)]⟩, ⟨[7, 9], [], [10], [(.slot 19)]⟩]) (es' := [(_, _), (_, _), (_, _), (_, _), (_, _), (19, .v (.bool ((decide (57 < v4)))))]) (by kernel_rfl) rfl rfl
       ⟨st_plain rfl (op_move _ _ _ _ rfl rfl),
       st_plain rfl (op_bin _ _ _ _ _ rfl rfl rfl),
       st_plain rfl (op_move _ _ _ _ (congrArg (fun b => AV.v (Value.bool b)) hg5_2) rfl),
       st_run 2 16 false rfl rfl rfl (List.Mem.head _) (op_move _ _ _ _ rfl rfl),
       st_run 2 16 false rfl rfl rfl (List.Mem.head _) (op_bin _ _ _ _ _ rfl rfl rfl),
       st_plain rfl (op_pick _ _ false _ rfl rfl),
       trivial⟩ ?_
      exact hl41 _ (Option.some.inj h).symm
   ·have h := cond_f hb38 h
    refine ht_exit ?_
    refine pt_x_then ?_
    refine pt_x_then ?_
    refine pt_x_in ?_
    refine pt_pick [0] (by kernel_rfl) (es' := [(_, _)]) rfl ?_
    exact hl33 _ (ho35 _ (Option.some.inj h).symm).symm

set_option maxHeartbeats 1000000 in
theorem ok_answer_Read (mx : Int) (b : (List Int)) (r : (T_Reply × Int × Int)) (h : Sh.answer_Read b = some r) : FnG Try.prog (GL mx) 11 [.fl .shr 1 (List.map (Value.int .u8) b)] (.tup [.agg [.v (.int .i64 r.1.Code), .fl (.own 9) 1 (List.map Value.string r.1.Lines)], .v (.int .i64 r.2.1), .v (.int .i64 r.2.2)]) := by
  unfold Sh.answer_Read at h
  refine fn_okG Try.func11 rfl (Nat.le_of_ble_eq_true rfl) rfl rfl fun g0 hn hio => ?_
  refine ht_seq ?_
  refine ht_seqR hn (El := [_, _, (2, .box 24 [.v (.int .i64 0), .v (.slice none 0 0)]), (3, .v (.int .i64 0)), (4, .v (.int .i64 0))]) (init := [0, 1]) (fin := [0, 1, 2, 3]) (sps := [⟨[], [], [2], [(.slot 2)]⟩, ⟨[], [], [3], [(.slot 3)]⟩, ⟨[], [], [4], [(.slot 4)]⟩]) (es' := [(_, _), (_, _), (2, .box 24 [.v (.int .i64 0), .v (.slice none 0 0)]), (3, .v (.int .i64 0))]) (by kernel_rfl) rfl rfl
   ⟨st_plain rfl (op_alloc _ _ zr24),
   st_plain rfl (op_assign _ _ _ _ rfl rfl),
   st_plain rfl (op_assign _ _ _ _ rfl rfl),
   trivial⟩ ?_
  refine pt_then ?_
  refine ht_seq ?_
  refine ht_sub (fs := [(0, .fl .shr 1 (List.map (Value.int .u8) b)), (76, .glob (GL mx)), (2, .box 24 [.v (.int .i64 0), .fl (.own 9) 1 (List.map Value.string [])]), (3, .v (.int .i64 0))]) (.same _ (.same _ (.box _ _ (subs_cons (sub_refl _) (subs_cons (sub_nil 9 1) (subs_nil))) rfl (.same _ .nil)))) ?_
  refine ht_loopS h (fun ((s43, s44, s45) : Int × (List ByteArray) × Int) => [(0, .fl .shr 1 (List.map (Value.int .u8) b)), (76, .glob (GL mx)), (2, .box 24 [.v (.int .i64 s43), .fl (.own 9) 1 (List.map Value.string s44)]), (3, .v (.int .i64 s45))]) (fun ((s59, s60) : Int × (List ByteArray)) => [(76, .glob (GL mx)), (2, .box 24 [.v (.int .i64 s59), .fl (.own 9) 1 (List.map Value.string s60)])]) ?_ ?_
  ·rintro ⟨s59, s60⟩ h
   refine pt_then ?_
   refine ht_seq ?_
   refine ht_seqR hn (El := [_, _, (75, .agg [.v (.int .i64 0), .v (.slice none 0 0)]), (2, .box 24 [.v (.int .i64 0), .v (.slice none 0 0)]), (3, .v (.int .i64 0)), (4, .v (.int .i64 3))]) (init := [0, 1]) (fin := [0, 3, 4, 5]) (sps := [⟨[], [], [2], [(.slot 75)]⟩, ⟨[2], [1], [3], [.cell 2 0, .cell 2 1]⟩, ⟨[], [], [4], [(.slot 3)]⟩, ⟨[], [], [5], [(.slot 4)]⟩]) (es' := [(_, _), (2, .box 24 [.v (.int .i64 0), .v (.slice none 0 0)]), (3, .v (.int .i64 0)), (4, .v (.int .i64 3))]) (by kernel_rfl) rfl rfl
    ⟨st_plain rfl (op_build _ _ _ _ [1, 1] _ _ Try.underlying24 zr24 (fs24 _ Try.underlying24) Src.nil rfl rfl rfl),
    st_plain rfl (op_store _ _ _ _ _ _ _ _ sz24 rfl rfl rfl rfl (Nat.le_of_ble_eq_true rfl) rfl rfl),
    st_plain rfl (op_assign _ _ _ _ rfl rfl),
    st_plain rfl (op_assign _ _ _ _ rfl rfl),
    trivial⟩ ?_
   refine pt_then ?_
   refine ht_ret ?_
   refine pt_pick [1, 2, 3] (by kernel_rfl) (es' := [(_, _), (_, _), (_, _)]) rfl ?_
   refine pt_sub (fs := [(2, .box 24 [.v (.int .i64 0), .fl (.own 9) 1 (List.map Value.string [])]), (3, .v (.int .i64 0)), (4, .v (.int .i64 3))]) (.box _ _ (subs_cons (sub_refl _) (subs_cons (sub_nil 9 1) (subs_nil))) rfl (.same _ (.same _ .nil))) ?_
   obtain rfl := Option.some.inj h
   exact pt_ret hio rfl (.cellA _ _ _ _ Try.underlying24 rfl sz24 (.tmp _ _ (.tmp _ _ .nil))) rfl rfl
  ·rintro u61 hl62 hr63 ⟨s43, s44, s45⟩ rr66 h ho64
   refine ht_seq ?_
   refine ht_seq ?_
   refine ht_seqR hn (El := [_, _, _, _, (10, .ptr 2 1), (11, .same (.cell 2 1)), (12, .v (.int .i64 (s44.length : Int))), (13, .v (.bool ((decide ((s44.length : Int) < 20)))))]) (init := [0, 1, 2, 3]) (fin := [0, 1, 2, 3, 7]) (sps := [⟨[2], [], [4], [(.slot 10)]⟩, ⟨[4, 2], [], [5], [(.slot 11)]⟩, ⟨[5, 2], [], [6], [(.slot 12)]⟩, ⟨[6], [], [7], [(.slot 13)]⟩]) (es' := [(_, _), (_, _), (_, _), (_, _), (13, .v (.bool ((decide ((s44.length : Int) < 20)))))]) (by kernel_rfl) rfl rfl
    ⟨st_plain rfl (op_fieldAddr _ _ _ _ 2 0 _ Try.underlying24 rfl sz22 rfl rfl (by decide)),
    st_plain rfl (op_load _ _ _ _ _ _ Try.underlying22 rfl rfl rfl (Nat.le_of_ble_eq_true rfl) rfl rfl rfl),
    st_plain rfl (op_len_fl _ _ _ Try.underlying22 rfl (by decide) (map_len _)),
    st_plain rfl (op_bin _ _ _ _ _ rfl rfl rfl),
    trivial⟩ ?_
   refine pt_then ?_
   refine ht_cond _ rfl (fun hb67 => ?_) (fun hb67 => ?_)
   ·have h := cond_t hb67 h
    refine ht_skip ?_
    refine pt_then ?_
    refine ht_block ?_
    refine ht_seq ?_
    obtain ⟨v2, hv2, h⟩ := bind_some h
    obtain ⟨v3, hv3, h⟩ := bind_some h
    refine ht_seqR hn (El := [_, _, _, _, _, (14, .fl .shr 1 (List.map (Value.int .u8) b)), (15, .v (.int .i64 s45)), (16, .fl .shr 1 (List.map (Value.int .u8) v2)), (17, .fl (.own 5) 1 (List.map (Value.int .u8) [13, 10])), (18, .fl .ro 1 (List.map (Value.int .u8) [13, 10])), (19, .v (.int .i64 v3)), (5, .v (.int .i64 v3))]) (init := [0, 1, 2, 3, 4]) (fin := [0, 1, 2, 3, 11]) (sps := [⟨[0], [], [5], [(.slot 14)]⟩, ⟨[3], [], [6], [(.slot 15)]⟩, ⟨[5, 6], [], [7], [(.slot 16)]⟩, ⟨[], [], [8], [(.slot 17)]⟩, ⟨[], [8], [9], [(.slot 18)]⟩, ⟨[7, 9, 1], [], [10], [(.slot 19)]⟩, ⟨[10], [], [11], [(.slot 5)]⟩]) (es' := [(_, _), (_, _), (_, _), (_, _), (5, .v (.int .i64 v3))]) (by kernel_rfl) rfl rfl
     ⟨st_plain rfl (op_move _ _ _ _ rfl rfl),
     st_plain rfl (op_move _ _ _ _ rfl rfl),
     st_plain rfl (op_sl _ _ _ s45 (b.length : Int) _ Try.underlying25 sz5 rfl rfl ⟨_, rfl⟩ rfl hv2),
     st_plain rfl (op_buildSlice _ _ 1 (.int .u8 0) (List.map (Value.int .u8) [13, 10]) [(0, .int .u8 13), (1, .int .u8 10)] Try.underlying25 sz5 zr5 (fun _ V w o a hv hes => by simp only [List.map_toArray, List.map_cons, List.map_nil]; try rfl) (litfill (by simp [Instr.fill, Value.cells]; rfl) (by simp [List.range, List.range.loop])) (by simp [Value.oneCell']) rfl (by decide) (by decide) (by decide)),
     st_plain rfl (op_conv_mark _ _ _ Try.underlying25 Try.underlying5 (by intro h; cases h)),
     st_plain rfl (op_callG _ _ 76 21 _ _ rfl Try.call21 rfl rfl (fun _ h => h) (ok_bytes_Index mx v2 [13, 10] _ hv3) rfl rfl),
     st_plain rfl (op_assign _ _ _ _ rfl rfl),
     trivial⟩ ?_
    refine pt_then ?_
    refine ht_seq ?_
    refine ht_seq ?_
    refine ht_seqR hn (El := [_, _, _, _, _, (20, .v (.int .i64 v3)), (21, .v (.bool ((decide (v3 < 4)))))]) (init := [0, 1, 2, 3, 4]) (fin := [0, 1, 2, 3, 4, 6]) (sps := [⟨[4], [], [5], [(.slot 20)]⟩, ⟨[5], [], [6], [(.slot 21)]⟩]) (es' := [(_, _), (_, _), (_, _), (_, _), (_, _), (21, .v (.bool ((decide (v3 < 4)))))]) (by kernel_rfl) rfl rfl
     ⟨st_plain rfl (op_move _ _ _ _ rfl rfl),
     st_plain rfl (op_bin _ _ _ _ _ rfl rfl rfl),
     trivial⟩ ?_
    refine pt_then ?_
    refine ht_cond _ rfl (fun hb68 => ?_) (fun hb68 => ?_)
    ·have h := cond_t hb68 h
     refine ht_exit ?_
     refine pt_x_then ?_
     refine pt_x_out (by decide) ?_
     refine pt_x_then ?_
     refine pt_x_in ?_
     refine pt_pick [1, 2] (by kernel_rfl) (es' := [(_, _), (_, _)]) rfl ?_
     exact hl62 _ (ho64 _ (Option.some.inj h).symm).symm
    ·have h := cond_f hb68 h
     refine ht_skip ?_
     refine pt_then ?_
     refine ht_seq ?_
     obtain ⟨v5, hv5, h⟩ := bind_some h
     obtain ⟨v6, hv6, h⟩ := bind_some h
     refine ht_seqR hn (El := [_, _, _, _, _, _, (22, .fl .shr 1 (List.map (Value.int .u8) b)), (23, .v (.int .i64 s45)), (24, .v (.int .i64 s45)), (25, .v (.int .i64 v3)), (26, .v (.int .i64 v5)), (27, .fl .shr 1 (List.map (Value.int .u8) v6)), (6, .fl .shr 1 (List.map (Value.int .u8) v6))]) (init := [0, 1, 2, 3, 4, 5]) (fin := [0, 1, 2, 3, 4, 12]) (sps := [⟨[0], [], [6], [(.slot 22)]⟩, ⟨[3], [], [7], [(.slot 23)]⟩, ⟨[3], [], [8], [(.slot 24)]⟩, ⟨[4], [], [9], [(.slot 25)]⟩, ⟨[8, 9], [], [10], [(.slot 26)]⟩, ⟨[6, 7, 10], [], [11], [(.slot 27)]⟩, ⟨[11], [], [12], [(.slot 6)]⟩]) (es' := [(_, _), (_, _), (_, _), (_, _), (_, _), (6, .fl .shr 1 (List.map (Value.int .u8) v6))]) (by kernel_rfl) rfl rfl
      ⟨st_plain rfl (op_move _ _ _ _ rfl rfl),
      st_plain rfl (op_move _ _ _ _ rfl rfl),
      st_plain rfl (op_move _ _ _ _ rfl rfl),
      st_plain rfl (op_move _ _ _ _ rfl rfl),
      st_plain rfl (op_bin _ _ _ _ _ rfl rfl (ibind (f := Value.int .i64) (Option.some.inj hv5))),
      st_plain rfl (op_sl _ _ _ s45 v5 _ Try.underlying25 sz5 rfl rfl ⟨_, rfl⟩ ⟨_, rfl⟩ hv6),
      st_plain rfl (op_assign _ _ _ _ rfl rfl),
      trivial⟩ ?_
     refine pt_then ?_
     refine ht_seq ?_
     obtain ⟨v7, hv7, h⟩ := bind_some h
     obtain ⟨v8, hv8, h⟩ := bind_some h
     refine ht_seqR hn (El := [_, _, _, _, _, _, (28, .v (.int .i64 s45)), (29, .v (.int .i64 v3)), (30, .v (.int .i64 v7)), (31, .v (.int .i64 v8)), (3, .v (.int .i64 v8))]) (init := [0, 1, 2, 3, 4, 5]) (fin := [0, 1, 2, 5, 10]) (sps := [⟨[3], [], [6], [(.slot 28)]⟩, ⟨[4], [], [7], [(.slot 29)]⟩, ⟨[7], [], [8], [(.slot 30)]⟩, ⟨[6, 8], [], [9], [(.slot 31)]⟩, ⟨[9], [3], [10], [(.slot 3)]⟩]) (es' := [(_, _), (_, _), (_, _), (_, _), (3, .v (.int .i64 v8))]) (by kernel_rfl) rfl rfl
      ⟨st_plain rfl (op_move _ _ _ _ rfl rfl),
      st_plain rfl (op_move _ _ _ _ rfl rfl),
      st_plain rfl (op_bin _ _ _ _ _ rfl rfl (ibind (f := Value.int .i64) (Option.some.inj hv7))),
      st_plain rfl (op_bin _ _ _ _ _ rfl rfl (ibind (f := Value.int .i64) (Option.some.inj hv8))),
      st_plain rfl (LOp.drop [_] (op_assign _ _ _ _ rfl rfl)),
      trivial⟩ ?_
     refine pt_then ?_
     refine ht_seq ?_
     obtain ⟨v9, hv9, h⟩ := bind_some h
     refine ht_seqR hn (El := [_, _, _, _, _, (33, .fl .shr 1 (List.map (Value.int .u8) v6)), (34, .tup [.v (.int .i64 v9.1), .v (.bool v9.2)]), (32, .tup [.v (.int .i64 v9.1), .v (.bool v9.2)]), (35, .v (.int .i64 v9.1)), (36, .v (.bool v9.2)), (7, .v (.int .i64 v9.1)), (8, .v (.bool v9.2))]) (init := [0, 1, 2, 3, 4]) (fin := [0, 1, 2, 3, 4, 10, 11]) (sps := [⟨[3], [], [5], [(.slot 33)]⟩, ⟨[5], [], [6], [(.slot 34)]⟩, ⟨[], [6], [7], [(.slot 32)]⟩, ⟨[7], [], [8], [(.slot 35)]⟩, ⟨[7], [], [9], [(.slot 36)]⟩, ⟨[8], [], [10], [(.slot 7)]⟩, ⟨[9], [], [11], [(.slot 8)]⟩]) (es' := [(_, _), (_, _), (_, _), (_, _), (_, _), (7, .v (.int .i64 v9.1)), (8, .v (.bool v9.2))]) (by kernel_rfl) rfl rfl
      ⟨st_plain rfl (op_move _ _ _ _ rfl rfl),
      st_plain rfl (op_call _ _ 22 _ _ rfl Try.call22 rfl (ok_answer_number v6 _ hv9) rfl rfl),
      st_plain rfl (op_move_take _ _ _ _ rfl),
      st_plain rfl (op_extract _ _ _ _ _ rfl rfl (Nat.le_of_ble_eq_true rfl) rfl rfl),
      st_plain rfl (op_extract _ _ _ _ _ rfl rfl (Nat.le_of_ble_eq_true rfl) rfl rfl),
      st_plain rfl (op_assign _ _ _ _ rfl rfl),
      st_plain rfl (op_assign _ _ _ _ rfl rfl),
      trivial⟩ ?_
     refine pt_then ?_
     refine ht_seq ?_
     refine ht_seq ?_
     refine ht_joinS h (fun (s69 : Bool) => [(0, .fl .shr 1 (List.map (Value.int .u8) b)), (76, .glob (GL mx)), (2, .box 24 [.v (.int .i64 s43), .fl (.own 9) 1 (List.map Value.string s44)]), (6, .fl .shr 1 (List.map (Value.int .u8) v6)), (3, .v (.int .i64 v8)), (7, .v (.int .i64 v9.1)), (50, .v (.bool s69))]) ?_ ?_
     ·rintro s69 h
      refine pt_then ?_
      refine ht_cond _ rfl (fun hb73 => ?_) (fun hb73 => ?_)
      ·have h := cond_t hb73 h
       refine ht_exit ?_
       refine pt_x_then ?_
       refine pt_x_out (by decide) ?_
       refine pt_x_then ?_
       refine pt_x_in ?_
       refine pt_pick [1, 2] (by kernel_rfl) (es' := [(_, _), (_, _)]) rfl ?_
       exact hl62 _ (ho64 _ (Option.some.inj h).symm).symm
      ·have h := cond_f hb73 h
       refine ht_skip ?_
       refine pt_then ?_
       refine ht_seq ?_
       refine ht_seqR hn (El := [_, _, _, _, _, _, _, (51, .v (.int .i64 v9.1)), (52, .ptr 2 0), (2, .box 24 [.v (.int .i64 v9.1), .fl (.own 9) 1 (List.map Value.string s44)])]) (init := [0, 1, 2, 3, 4, 5, 6]) (fin := [0, 1, 9, 3, 4]) (sps := [⟨[5], [], [7], [(.slot 51)]⟩, ⟨[2], [], [8], [(.slot 52)]⟩, ⟨[8, 7], [2], [9], [.cell 2 0]⟩]) (es' := [(_, _), (_, _), (2, .box 24 [.v (.int .i64 v9.1), .fl (.own 9) 1 (List.map Value.string s44)]), (_, _), (_, _)]) (by kernel_rfl) rfl rfl
        ⟨st_plain rfl (op_move _ _ _ _ rfl rfl),
        st_plain rfl (op_fieldAddr _ _ _ _ 2 0 _ Try.underlying24 rfl sz3 rfl rfl (by decide)),
        st_plain rfl (op_store _ _ _ _ _ _ _ _ sz3 rfl rfl rfl rfl (Nat.le_of_ble_eq_true rfl) rfl rfl),
        trivial⟩ ?_
       refine pt_then ?_
       refine ht_seq ?_
       obtain ⟨v15, hv15, h⟩ := bind_some h
       obtain ⟨v16, hv16, h⟩ := bind_some h
       obtain ⟨v17, hv17, h⟩ := bind_some h
       refine ht_anyR (by kernel_rfl) hn (El := (_ :: _ :: _ :: _ :: _ :: (53, .ptr 2 1) :: (54, .same (.cell 2 1)) :: (55, .fl .shr 1 (List.map (Value.int .u8) v6)) :: (56, .fl .shr 1 (List.map (Value.int .u8) v15)) :: (57, .v (.string v16)) :: (58, .fl (.own 9) 1 (List.map Value.string [v16])) :: (59, .fl (.own 9) 1 (List.map Value.string v17)) :: (2, .box 24 [.v (.int .i64 v9.1), .any]) :: (60, .ptr 2 1) :: (2, .box 24 [.v (.int .i64 v9.1), .fl (.own 9) 1 (List.map Value.string v17)]) :: [])) (init := [0, 1, 2, 3, 4]) (fin := [0, 1, 14, 3, 4]) (sps := [⟨[2], [], [5], [(.slot 53)]⟩, ⟨[5, 2], [], [6], [(.slot 54)]⟩, ⟨[3], [], [7], [(.slot 55)]⟩, ⟨[7], [], [8], [(.slot 56)]⟩, ⟨[8], [], [9], [(.slot 57)]⟩, ⟨[9], [], [10], [(.slot 58)]⟩, ⟨[6, 10], [2], [12, 11], [(.slot 59)]⟩, ⟨[12], [], [13], [(.slot 60)]⟩, ⟨[13], [6, 11, 12], [14], [.cell 2 1]⟩]) (es' := [(_, _), (_, _), (2, .box 24 [.v (.int .i64 v9.1), .fl (.own 9) 1 (List.map Value.string v17)]), (_, _), (_, _)]) (by kernel_rfl) rfl rfl
        ⟨st_plain rfl (op_fieldAddr _ _ _ _ 2 0 _ Try.underlying24 rfl sz22 rfl rfl (by decide)),
        st_plain rfl (op_load _ _ _ _ _ _ Try.underlying22 rfl rfl rfl (Nat.le_of_ble_eq_true rfl) rfl rfl rfl),
        st_plain rfl (op_move _ _ _ _ rfl rfl),
        st_plain rfl (op_sl _ _ _ 4 (v6.length : Int) _ Try.underlying25 sz5 rfl rfl ⟨_, rfl⟩ rfl hv15),
        st_plain rfl ((Option.some.inj hv16) ▸ op_bytes_str _ _ _ v15 Try.underlying25 Try.underlying9 Try.underlying5 rfl),
        st_plain rfl (op_buildSlice _ _ 1 (.string ByteArray.empty) (List.map Value.string [v16]) [(0, .string v16)] Try.underlying22 sz9 zr9 (fun _ V w o a hv hes => by have e0 := rd_v hv hes (x := .tmp 57) rfl; simp only [List.map_toArray, List.map_cons, List.map_nil, e0]; try rfl) (litfill (by simp [Instr.fill, Value.cells]; rfl) (by simp [List.range, List.range.loop])) (by simp [Value.oneCell']) rfl (by decide) (by decide) (by decide)),
        st_plain rfl (op_app_cell _ _ _ _ _ _ el22 rfl rfl (Nat.le_of_ble_eq_true rfl) rfl (map_len _) (map_len _) hv17 ((List.map_append).symm.trans (congrArg (List.map _) (app_eq hv17))) (by decide) rfl rfl),
        st_plain rfl (op_fieldAddr _ _ _ _ 2 0 _ Try.underlying24 rfl sz22 rfl rfl (by decide)),
        st_plain rfl (LOp.drop [_] (op_store_take _ _ _ _ _ _ _ _ sz22 rfl rfl rfl (Nat.le_of_ble_eq_true rfl) rfl rfl)),
        trivial⟩ ?_
       refine pt_then ?_
       refine ht_seq ?_
       obtain ⟨v18, hv18, h⟩ := bind_some h
       obtain ⟨v19, hv19, h⟩ := bind_some h
       refine ht_seqR hn (El := [_, _, _, _, _, (61, .fl .shr 1 (List.map (Value.int .u8) v6)), (62, .eref (.slot 61) (v18 * 1)), (63, .v (.int .u8 v19)), (9, .v (.int .u8 v19))]) (init := [0, 1, 2, 3, 4]) (fin := [0, 1, 2, 4, 8]) (sps := [⟨[3], [], [5], [(.slot 61)]⟩, ⟨[5], [], [6], [(.slot 62)]⟩, ⟨[6, 5], [], [7], [(.slot 63)]⟩, ⟨[7], [], [8], [(.slot 9)]⟩]) (es' := [(_, _), (_, _), (_, _), (_, _), (9, .v (.int .u8 v19))]) (by kernel_rfl) rfl rfl
        ⟨st_plain rfl (op_move _ _ _ _ rfl rfl),
        st_plain rfl (op_ix _ _ _ _ _ _ _ _ Try.underlying25 sz5 (by decide) rfl rfl rfl (ix_ok hv18).1 (map_lt (ix_ok hv18).2) rfl),
        st_plain rfl (op_load_e _ _ _ _ _ _ Try.underlying5 rfl rfl rfl (map_get hv19)),
        st_plain rfl (op_assign _ _ _ _ rfl rfl),
        trivial⟩ ?_
       refine pt_then ?_
       refine ht_seq ?_
       refine ht_seq ?_
       refine ht_joinS h (fun (s74 : Bool) => [(0, .fl .shr 1 (List.map (Value.int .u8) b)), (76, .glob (GL mx)), (2, .box 24 [.v (.int .i64 v9.1), .fl (.own 9) 1 (List.map Value.string v17)]), (3, .v (.int .i64 v8)), (9, .v (.int .u8 v19)), (70, .v (.bool s74))]) ?_ ?_
       ·rintro s74 h
        refine pt_then ?_
        refine ht_cond _ rfl (fun hb78 => ?_) (fun hb78 => ?_)
        ·have h := cond_t hb78 h
         refine ht_seq ?_
         refine ht_seqR hn (El := [_, _, _, _, _, _, (71, .agg [.v (.int .i64 v9.1), .same (.cell 2 1)]), (72, .v (.int .i64 v8)), (2, .box 24 [.v (.int .i64 v9.1), .fl (.own 9) 1 (List.map Value.string v17)]), (3, .v (.int .i64 v8)), (4, .v (.int .i64 0))]) (init := [0, 1, 2, 3, 4, 5]) (fin := [1, 8, 9, 10]) (sps := [⟨[2], [], [6], [(.slot 71)]⟩, ⟨[3], [], [7], [(.slot 72)]⟩, ⟨[], [6, 2], [8], [.cell 2 0, .cell 2 1]⟩, ⟨[7], [3], [9], [(.slot 3)]⟩, ⟨[], [], [10], [(.slot 4)]⟩]) (es' := [(_, _), (2, .box 24 [.v (.int .i64 v9.1), .fl (.own 9) 1 (List.map Value.string v17)]), (3, .v (.int .i64 v8)), (4, .v (.int .i64 0))]) (by kernel_rfl) rfl rfl
          ⟨st_plain rfl (op_loadA _ _ _ _ _ _ _ Try.underlying24 rfl sz24 rfl rfl (Nat.le_of_ble_eq_true rfl) rfl rfl),
          st_plain rfl (op_move _ _ _ _ rfl rfl),
          st_plain rfl (op_store_self _ _ _ 71 2 2 sz24 rfl rfl rfl rfl rfl (.eq _ (.same _ (.nil _))) rfl),
          st_plain rfl (LOp.drop [_] (op_assign _ _ _ _ rfl rfl)),
          st_plain rfl (op_assign _ _ _ _ rfl rfl),
          trivial⟩ ?_
         refine pt_then ?_
         refine ht_ret ?_
         refine pt_pick [1, 2, 3] (by kernel_rfl) (es' := [(_, _), (_, _), (_, _)]) rfl ?_
         refine pt_r_then ?_
         refine pt_r_in ?_
         refine pt_r_then ?_
         refine pt_r_in ?_
         refine pt_r_then ?_
         have h := hr63 _ (ho64 _ (Option.some.inj h).symm).symm
         obtain rfl := Option.some.inj h
         exact pt_ret hio rfl (.cellA _ _ _ _ Try.underlying24 rfl sz24 (.tmp _ _ (.tmp _ _ .nil))) rfl rfl
        ·have h := cond_f hb78 h
         refine ht_skip ?_
         refine pt_then ?_
         refine ht_seq ?_
         refine ht_seqR hn (El := [_, _, _, _, _, _, (73, .v (.int .u8 v19)), (74, .v (.bool (v19 != 45)))]) (init := [0, 1, 2, 3, 4, 5]) (fin := [0, 1, 2, 3, 7]) (sps := [⟨[4], [], [6], [(.slot 73)]⟩, ⟨[6], [], [7], [(.slot 74)]⟩]) (es' := [(_, _), (_, _), (_, _), (_, _), (74, .v (.bool (v19 != 45)))]) (by kernel_rfl) rfl rfl
          ⟨st_plain rfl (op_move _ _ _ _ rfl rfl),
          st_plain rfl (op_bin _ _ _ _ _ rfl rfl rfl),
          trivial⟩ ?_
         refine pt_then ?_
         refine ht_cond _ rfl (fun hb79 => ?_) (fun hb79 => ?_)
         ·have h := cond_t hb79 h
          refine ht_exit ?_
          refine pt_x_out (by decide) ?_
          refine pt_x_then ?_
          refine pt_x_in ?_
          refine pt_pick [1, 2] (by kernel_rfl) (es' := [(_, _), (_, _)]) rfl ?_
          exact hl62 _ (ho64 _ (Option.some.inj h).symm).symm
         ·have h := cond_f hb79 h
          refine ht_skip ?_
          refine pt_inb ?_
          refine pt_pick [0, 1, 2, 3] (by kernel_rfl) (es' := [(_, _), (_, _), (_, _), (_, _)]) rfl ?_
          exact pt_next _ (Option.some.inj h).symm rfl
       ·intro u75 h hl76 hr77
        refine cond_some h (fun hg11_2 h => ?_) (fun hg11_2 h => ?_)
        ·obtain ⟨v20, hv20, h⟩ := bind_some h
         refine ht_seqR hn (El := [_, _, _, _, _, (64, .v (.int .u8 v19)), (65, .v (.bool (v19 == 32))), (66, .v (.bool true)), (67, .agg [.v (.int .i64 v9.1), .same (.cell 2 1)]), (68, .v (.int .i64 v20)), (69, .v (.bool (v20 == 0))), (70, .v (.bool (v20 == 0)))]) (init := [0, 1, 2, 3, 4]) (fin := [0, 1, 2, 3, 4, 11]) (sps := [⟨[4], [], [5], [(.slot 64)]⟩, ⟨[5], [], [6], [(.slot 65)]⟩, ⟨[6], [], [7], [(.slot 66)]⟩, ⟨[7, 2], [], [8], [(.slot 67)]⟩, ⟨[7, 8, 2], [], [9], [(.slot 68)]⟩, ⟨[7, 9], [], [10], [(.slot 69)]⟩, ⟨[7, 10], [], [11], [(.slot 70)]⟩]) (es' := [(_, _), (_, _), (_, _), (_, _), (_, _), (70, .v (.bool (v20 == 0)))]) (by kernel_rfl) rfl rfl
          ⟨st_plain rfl (op_move _ _ _ _ rfl rfl),
          st_plain rfl (op_bin _ _ _ _ _ rfl rfl rfl),
          st_plain rfl (op_move _ _ _ _ (congrArg (fun b => AV.v (Value.bool b)) hg11_2) rfl),
          st_run 2 66 true rfl rfl rfl (List.Mem.head _) (op_loadA _ _ _ _ _ _ _ Try.underlying24 rfl sz24 rfl rfl (Nat.le_of_ble_eq_true rfl) rfl rfl),
          st_run 2 66 true rfl rfl rfl (List.Mem.head _) (op_call _ _ 14 _ _ rfl Try.call14 rfl (ok_answer_Check (T_Reply.mk v9.1 v17) _ hv20) rfl rfl),
          st_run 2 66 true rfl rfl rfl (List.Mem.head _) (op_bin _ _ _ _ _ rfl rfl rfl),
          st_plain rfl (op_pick _ _ true _ rfl rfl),
          trivial⟩ ?_
         exact hl76 _ (Option.some.inj h).symm
        ·refine ht_seqR hn (El := [_, _, _, _, _, (64, .v (.int .u8 v19)), (65, .v (.bool (v19 == 32))), (66, .v (.bool false)), (67, .v undef), (68, .v undef), (69, .v undef), (70, .v (.bool false))]) (init := [0, 1, 2, 3, 4]) (fin := [0, 1, 2, 3, 4, 11]) (sps := [⟨[4], [], [5], [(.slot 64)]⟩, ⟨[5], [], [6], [(.slot 65)]⟩, ⟨[6], [], [7], [(.slot 66)]⟩, ⟨[7], [], [8], [(.slot 67)]⟩, ⟨[7], [], [9], [(.slot 68)]⟩, ⟨[7], [], [10], [(.slot 69)]⟩, ⟨[7], [], [11], [(.slot 70)]⟩]) (es' := [(_, _), (_, _), (_, _), (_, _), (_, _), (70, .v (.bool false))]) (by kernel_rfl) rfl rfl
          ⟨st_plain rfl (op_move _ _ _ _ rfl rfl),
          st_plain rfl (op_bin _ _ _ _ _ rfl rfl rfl),
          st_plain rfl (op_move _ _ _ _ (congrArg (fun b => AV.v (Value.bool b)) hg11_2) rfl),
          st_skip 2 66 _ true rfl rfl rfl rfl (List.Mem.head _),
          st_skip 2 66 _ true rfl rfl rfl rfl (List.Mem.head _),
          st_skip 2 66 _ true rfl rfl rfl rfl (List.Mem.head _),
          st_plain rfl (op_pick _ _ false _ rfl rfl),
          trivial⟩ ?_
         exact hl76 _ (Option.some.inj h).symm
     ·intro u70 h hl71 hr72
      refine cond_some h (fun hg7_2 h => ?_) (fun hg7_2 h => ?_)
      ·refine ht_seqR hn (El := (_ :: _ :: _ :: _ :: _ :: _ :: _ :: (37, .v (.bool v9.2)) :: (38, .v (.bool (!v9.2))) :: (39, .v (.bool true)) :: (40, .v undef) :: (41, .v undef) :: (42, .v undef) :: (43, .v undef) :: (44, .v undef) :: (45, .v undef) :: (46, .v undef) :: (47, .v undef) :: (48, .v undef) :: (49, .v undef) :: (50, .v (.bool true)) :: [])) (init := [0, 1, 2, 3, 4, 5, 6]) (fin := [0, 1, 2, 3, 4, 5, 20]) (sps := [⟨[6], [], [7], [(.slot 37)]⟩, ⟨[7], [], [8], [(.slot 38)]⟩, ⟨[8], [], [9], [(.slot 39)]⟩, ⟨[9], [], [10], [(.slot 40)]⟩, ⟨[9], [], [11], [(.slot 41)]⟩, ⟨[9], [], [12], [(.slot 42)]⟩, ⟨[9], [], [13], [(.slot 43)]⟩, ⟨[9], [], [14], [(.slot 44)]⟩, ⟨[14], [], [15], [(.slot 45)]⟩, ⟨[14], [], [16], [(.slot 46)]⟩, ⟨[14], [], [17], [(.slot 47)]⟩, ⟨[14], [], [18], [(.slot 48)]⟩, ⟨[9], [], [19], [(.slot 49)]⟩, ⟨[9], [], [20], [(.slot 50)]⟩]) (es' := [(_, _), (_, _), (_, _), (_, _), (_, _), (_, _), (50, .v (.bool true))]) (by kernel_rfl) rfl rfl
        ⟨st_plain rfl (op_move _ _ _ _ rfl rfl),
        st_plain rfl (op_un _ _ _ _ rfl rfl),
        st_plain rfl (op_move _ _ _ _ (congrArg (fun b => AV.v (Value.bool b)) hg7_2) rfl),
        st_skip 2 39 _ false rfl rfl rfl rfl (List.Mem.head _),
        st_skip 2 39 _ false rfl rfl rfl rfl (List.Mem.head _),
        st_skip 2 39 _ false rfl rfl rfl rfl (List.Mem.head _),
        st_skip 2 39 _ false rfl rfl rfl rfl (List.Mem.head _),
        st_skip 2 39 _ false rfl rfl rfl rfl (List.Mem.head _),
        st_skipU 7 44 _ true rfl rfl rfl rfl (List.Mem.head _),
        st_skipU 7 44 _ true rfl rfl rfl rfl (List.Mem.head _),
        st_skipU 7 44 _ true rfl rfl rfl rfl (List.Mem.head _),
        st_skipU 7 44 _ true rfl rfl rfl rfl (List.Mem.head _),
        st_skip 2 39 _ false rfl rfl rfl rfl (List.Mem.head _),
        st_plain rfl (op_pick _ _ true _ rfl rfl),
        trivial⟩ ?_
       exact hl71 _ (Option.some.inj h).symm
      ·refine cond_some h (fun hg7_7 h => ?_) (fun hg7_7 h => ?_)
       ·refine ht_seqR hn (El := (_ :: _ :: _ :: _ :: _ :: _ :: _ :: (37, .v (.bool v9.2)) :: (38, .v (.bool (!v9.2))) :: (39, .v (.bool false)) :: (40, .ptr 2 1) :: (41, .same (.cell 2 1)) :: (42, .v (.int .i64 (s44.length : Int))) :: (43, .v (.bool ((decide (0 < (s44.length : Int)))))) :: (44, .v (.bool true)) :: (45, .v (.int .i64 v9.1)) :: (46, .ptr 2 0) :: (47, .v (.int .i64 s43)) :: (48, .v (.bool (v9.1 != s43))) :: (49, .v (.bool (v9.1 != s43))) :: (50, .v (.bool (v9.1 != s43))) :: [])) (init := [0, 1, 2, 3, 4, 5, 6]) (fin := [0, 1, 2, 3, 4, 5, 20]) (sps := [⟨[6], [], [7], [(.slot 37)]⟩, ⟨[7], [], [8], [(.slot 38)]⟩, ⟨[8], [], [9], [(.slot 39)]⟩, ⟨[9, 2], [], [10], [(.slot 40)]⟩, ⟨[9, 10, 2], [], [11], [(.slot 41)]⟩, ⟨[9, 11, 2], [], [12], [(.slot 42)]⟩, ⟨[9, 12], [], [13], [(.slot 43)]⟩, ⟨[9, 13], [], [14], [(.slot 44)]⟩, ⟨[14, 5], [], [15], [(.slot 45)]⟩, ⟨[14, 2], [], [16], [(.slot 46)]⟩, ⟨[14, 16, 2], [], [17], [(.slot 47)]⟩, ⟨[14, 15, 17], [], [18], [(.slot 48)]⟩, ⟨[9, 14, 18], [], [19], [(.slot 49)]⟩, ⟨[9, 19], [], [20], [(.slot 50)]⟩]) (es' := [(_, _), (_, _), (_, _), (_, _), (_, _), (_, _), (50, .v (.bool (v9.1 != s43)))]) (by kernel_rfl) rfl rfl
         ⟨st_plain rfl (op_move _ _ _ _ rfl rfl),
         st_plain rfl (op_un _ _ _ _ rfl rfl),
         st_plain rfl (op_move _ _ _ _ (congrArg (fun b => AV.v (Value.bool b)) hg7_2) rfl),
         st_run 2 39 false rfl rfl rfl (List.Mem.head _) (op_fieldAddr _ _ _ _ 2 0 _ Try.underlying24 rfl sz22 rfl rfl (by decide)),
         st_run 2 39 false rfl rfl rfl (List.Mem.head _) (op_load _ _ _ _ _ _ Try.underlying22 rfl rfl rfl (Nat.le_of_ble_eq_true rfl) rfl rfl rfl),
         st_run 2 39 false rfl rfl rfl (List.Mem.head _) (op_len_fl _ _ _ Try.underlying22 rfl (by decide) (map_len _)),
         st_run 2 39 false rfl rfl rfl (List.Mem.head _) (op_bin _ _ _ _ _ rfl rfl rfl),
         st_run 2 39 false rfl rfl rfl (List.Mem.head _) (op_move _ _ _ _ (congrArg (fun b => AV.v (Value.bool b)) hg7_7) rfl),
         st_run 7 44 true rfl rfl rfl (List.Mem.head _) (op_move _ _ _ _ rfl rfl),
         st_run 7 44 true rfl rfl rfl (List.Mem.head _) (op_fieldAddr _ _ _ _ 2 0 _ Try.underlying24 rfl sz3 rfl rfl (by decide)),
         st_run 7 44 true rfl rfl rfl (List.Mem.head _) (op_load _ _ _ _ _ _ Try.underlying3 rfl rfl rfl (Nat.le_of_ble_eq_true rfl) rfl rfl rfl),
         st_run 7 44 true rfl rfl rfl (List.Mem.head _) (op_bin _ _ _ _ _ rfl rfl rfl),
         st_run 2 39 false rfl rfl rfl (List.Mem.head _) (op_pick _ _ true _ rfl rfl),
         st_plain rfl (op_pick _ _ false _ rfl rfl),
         trivial⟩ ?_
        exact hl71 _ (Option.some.inj h).symm
       ·refine ht_seqR hn (El := (_ :: _ :: _ :: _ :: _ :: _ :: _ :: (37, .v (.bool v9.2)) :: (38, .v (.bool (!v9.2))) :: (39, .v (.bool false)) :: (40, .ptr 2 1) :: (41, .same (.cell 2 1)) :: (42, .v (.int .i64 (s44.length : Int))) :: (43, .v (.bool ((decide (0 < (s44.length : Int)))))) :: (44, .v (.bool false)) :: (45, .v undef) :: (46, .v undef) :: (47, .v undef) :: (48, .v undef) :: (49, .v (.bool false)) :: (50, .v (.bool false)) :: [])) (init := [0, 1, 2, 3, 4, 5, 6]) (fin := [0, 1, 2, 3, 4, 5, 20]) (sps := [⟨[6], [], [7], [(.slot 37)]⟩, ⟨[7], [], [8], [(.slot 38)]⟩, ⟨[8], [], [9], [(.slot 39)]⟩, ⟨[9, 2], [], [10], [(.slot 40)]⟩, ⟨[9, 10, 2], [], [11], [(.slot 41)]⟩, ⟨[9, 11, 2], [], [12], [(.slot 42)]⟩, ⟨[9, 12], [], [13], [(.slot 43)]⟩, ⟨[9, 13], [], [14], [(.slot 44)]⟩, ⟨[14], [], [15], [(.slot 45)]⟩, ⟨[14], [], [16], [(.slot 46)]⟩, ⟨[14], [], [17], [(.slot 47)]⟩, ⟨[14], [], [18], [(.slot 48)]⟩, ⟨[9, 14], [], [19], [(.slot 49)]⟩, ⟨[9, 19], [], [20], [(.slot 50)]⟩]) (es' := [(_, _), (_, _), (_, _), (_, _), (_, _), (_, _), (50, .v (.bool false))]) (by kernel_rfl) rfl rfl
         ⟨st_plain rfl (op_move _ _ _ _ rfl rfl),
         st_plain rfl (op_un _ _ _ _ rfl rfl),
         st_plain rfl (op_move _ _ _ _ (congrArg (fun b => AV.v (Value.bool b)) hg7_2) rfl),
         st_run 2 39 false rfl rfl rfl (List.Mem.head _) (op_fieldAddr _ _ _ _ 2 0 _ Try.underlying24 rfl sz22 rfl rfl (by decide)),
         st_run 2 39 false rfl rfl rfl (List.Mem.head _) (op_load _ _ _ _ _ _ Try.underlying22 rfl rfl rfl (Nat.le_of_ble_eq_true rfl) rfl rfl rfl),
         st_run 2 39 false rfl rfl rfl (List.Mem.head _) (op_len_fl _ _ _ Try.underlying22 rfl (by decide) (map_len _)),
         st_run 2 39 false rfl rfl rfl (List.Mem.head _) (op_bin _ _ _ _ _ rfl rfl rfl),
         st_run 2 39 false rfl rfl rfl (List.Mem.head _) (op_move _ _ _ _ (congrArg (fun b => AV.v (Value.bool b)) hg7_7) rfl),
         st_skip 7 44 _ true rfl rfl rfl rfl (List.Mem.head _),
         st_skip 7 44 _ true rfl rfl rfl rfl (List.Mem.head _),
         st_skip 7 44 _ true rfl rfl rfl rfl (List.Mem.head _),
         st_skip 7 44 _ true rfl rfl rfl rfl (List.Mem.head _),
         st_run 2 39 false rfl rfl rfl (List.Mem.head _) (op_pick _ _ false _ rfl rfl),
         st_plain rfl (op_pick _ _ false _ rfl rfl),
         trivial⟩ ?_
        exact hl71 _ (Option.some.inj h).symm
   ·have h := cond_f hb67 h
    refine ht_exit ?_
    refine pt_x_then ?_
    refine pt_x_then ?_
    refine pt_x_in ?_
    refine pt_pick [1, 2] (by kernel_rfl) (es' := [(_, _), (_, _)]) rfl ?_
    exact hl62 _ (ho64 _ (Option.some.inj h).symm).symm

set_option maxHeartbeats 1000000 in
theorem ok_wherryref11_end (b : (List Int)) (at_ : Int) (r : Int) (h : Sh.wherryref11_end b at_ = some r) : FnOK Try.prog 23 [.fl .shr 1 (List.map (Value.int .u8) b), .v (.int .i64 at_)] (.v (.int .i64 r)) := by
  unfold Sh.wherryref11_end at h
  refine fn_ok Try.func23 rfl (Nat.le_of_ble_eq_true rfl) rfl rfl fun g0 hn hio => ?_
  refine ht_seq ?_
  refine ht_seqR hn (El := [_, _, (4, .v (.int .i64 0))]) (init := [0, 1]) (fin := [0, 1]) (sps := [⟨[], [], [2], [(.slot 4)]⟩]) (es' := [(_, _), (_, _)]) (by kernel_rfl) rfl rfl
   ⟨st_plain rfl (op_assign _ _ _ _ rfl rfl),
   trivial⟩ ?_
  refine pt_then ?_
  refine ht_seq ?_
  refine ht_seq ?_
  refine ht_seqR hn (El := [_, _, (6, .v (.int .i64 at_)), (5, .v (.int .i64 at_))]) (init := [0, 1]) (fin := [0, 3]) (sps := [⟨[1], [], [2], [(.slot 6)]⟩, ⟨[2], [], [3], [(.slot 5)]⟩]) (es' := [(_, _), (5, .v (.int .i64 at_))]) (by kernel_rfl) rfl rfl
   ⟨st_plain rfl (op_move _ _ _ _ rfl rfl),
   st_plain rfl (op_assign _ _ _ _ rfl rfl),
   trivial⟩ ?_
  refine pt_then ?_
  refine ht_loopS h (fun (s21 : Int) => [(0, .fl .shr 1 (List.map (Value.int .u8) b)), (5, .v (.int .i64 s21))]) (fun (() : Unit) => []) ?_ ?_
  ·rintro ⟨⟩ h
   refine pt_then ?_
   refine ht_seq ?_
   refine ht_seqR hn (El := [(4, .v (.int .i64 (-1)))]) (init := []) (fin := [0]) (sps := [⟨[], [], [0], [(.slot 4)]⟩]) (es' := [(4, .v (.int .i64 (-1)))]) (by kernel_rfl) rfl rfl
    ⟨st_plain rfl (op_assign _ _ _ _ rfl rfl),
    trivial⟩ ?_
   refine pt_then ?_
   refine ht_ret ?_
   obtain rfl := Option.some.inj h
   exact pt_ret hio rfl (.tmp _ _ .nil) rfl rfl
  ·rintro u28 hl29 hr30 s21 rr33 h ho31
   refine ht_seq ?_
   refine ht_seq ?_
   obtain ⟨v1, hv1, h⟩ := bind_some h
   refine ht_seqR hn (El := [_, _, (7, .v (.int .i64 s21)), (8, .v (.int .i64 v1)), (9, .fl .shr 1 (List.map (Value.int .u8) b)), (10, .v (.int .i64 (b.length : Int))), (11, .v (.bool ((decide (v1 < (b.length : Int))))))]) (init := [0, 1]) (fin := [0, 1, 6]) (sps := [⟨[1], [], [2], [(.slot 7)]⟩, ⟨[2], [], [3], [(.slot 8)]⟩, ⟨[0], [], [4], [(.slot 9)]⟩, ⟨[4], [], [5], [(.slot 10)]⟩, ⟨[3, 5], [], [6], [(.slot 11)]⟩]) (es' := [(_, _), (_, _), (11, .v (.bool ((decide (v1 < (b.length : Int))))))]) (by kernel_rfl) rfl rfl
    ⟨st_plain rfl (op_move _ _ _ _ rfl rfl),
    st_plain rfl (op_bin _ _ _ _ _ rfl rfl (ibind (f := Value.int .i64) (Option.some.inj hv1))),
    st_plain rfl (op_move _ _ _ _ rfl rfl),
    st_plain rfl (op_len_fl _ _ _ Try.underlying25 rfl (by decide) (map_len _)),
    st_plain rfl (op_bin _ _ _ _ _ rfl rfl rfl),
    trivial⟩ ?_
   refine pt_then ?_
   refine ht_cond _ rfl (fun hb34 => ?_) (fun hb34 => ?_)
   ·have h := cond_t hb34 h
    refine ht_skip ?_
    refine pt_then ?_
    refine ht_seq ?_
    refine ht_block ?_
    refine ht_seq ?_
    refine ht_joinS h (fun (s35 : Bool) => [(0, .fl .shr 1 (List.map (Value.int .u8) b)), (5, .v (.int .i64 s21)), (26, .v (.bool s35))]) ?_ ?_
    ·rintro s35 h
     refine pt_then ?_
     refine ht_cond _ rfl (fun hb39 => ?_) (fun hb39 => ?_)
     ·have h := cond_t hb39 h
      refine ht_seq ?_
      refine ht_seqR hn (El := [_, _, _, (27, .v (.int .i64 s21)), (4, .v (.int .i64 s21))]) (init := [0, 1, 2]) (fin := [4]) (sps := [⟨[1], [], [3], [(.slot 27)]⟩, ⟨[3], [], [4], [(.slot 4)]⟩]) (es' := [(4, .v (.int .i64 s21))]) (by kernel_rfl) rfl rfl
       ⟨st_plain rfl (op_move _ _ _ _ rfl rfl),
       st_plain rfl (op_assign _ _ _ _ rfl rfl),
       trivial⟩ ?_
      refine pt_then ?_
      refine ht_ret ?_
      refine pt_r_in ?_
      refine pt_r_then ?_
      refine pt_r_then ?_
      refine pt_r_in ?_
      refine pt_r_then ?_
      have h := hr30 _ (ho31 _ (Option.some.inj h).symm).symm
      obtain rfl := Option.some.inj h
      exact pt_ret hio rfl (.tmp _ _ .nil) rfl rfl
     ·have h := cond_f hb39 h
      refine ht_skip ?_
      refine pt_inb ?_
      refine pt_then ?_
      obtain ⟨v13, hv13, h⟩ := bind_some h
      refine ht_seqR hn (El := [_, _, _, (12, .v (.int .i64 s21)), (13, .v (.int .i64 v13)), (5, .v (.int .i64 v13))]) (init := [0, 1, 2]) (fin := [0, 5]) (sps := [⟨[1], [], [3], [(.slot 12)]⟩, ⟨[3], [], [4], [(.slot 13)]⟩, ⟨[4], [1], [5], [(.slot 5)]⟩]) (es' := [(_, _), (5, .v (.int .i64 v13))]) (by kernel_rfl) rfl rfl
       ⟨st_plain rfl (op_move _ _ _ _ rfl rfl),
       st_plain rfl (op_bin _ _ _ _ _ rfl rfl (ibind (f := Value.int .i64) (Option.some.inj hv13))),
       st_plain rfl (LOp.drop [_] (op_assign _ _ _ _ rfl rfl)),
       trivial⟩ ?_
      exact pt_next _ (Option.some.inj h).symm rfl
    ·intro u36 h hl37 hr38
     obtain ⟨v3, hv3, h⟩ := bind_some h
     obtain ⟨v4, hv4, h⟩ := bind_some h
     refine cond_some h (fun hg4_5 h => ?_) (fun hg4_5 h => ?_)
     ·obtain ⟨v5, hv5, h⟩ := bind_some h
      obtain ⟨v6, hv6, h⟩ := bind_some h
      obtain ⟨v7, hv7, h⟩ := bind_some h
      refine ht_seqR hn (El := (_ :: _ :: _ :: (14, .fl .shr 1 (List.map (Value.int .u8) b)) :: (15, .v (.int .i64 s21)) :: (16, .eref (.slot 14) (v3 * 1)) :: (17, .v (.int .u8 v4)) :: (18, .v (.bool (v4 == 13))) :: (19, .v (.bool true)) :: (20, .fl .shr 1 (List.map (Value.int .u8) b)) :: (21, .v (.int .i64 s21)) :: (22, .v (.int .i64 v5)) :: (23, .eref (.slot 20) (v6 * 1)) :: (24, .v (.int .u8 v7)) :: (25, .v (.bool (v7 == 10))) :: (26, .v (.bool (v7 == 10))) :: [])) (init := [0, 1, 2]) (fin := [0, 1, 15]) (sps := [⟨[0], [], [3], [(.slot 14)]⟩, ⟨[1], [], [4], [(.slot 15)]⟩, ⟨[3, 4], [], [5], [(.slot 16)]⟩, ⟨[5, 3], [], [6], [(.slot 17)]⟩, ⟨[6], [], [7], [(.slot 18)]⟩, ⟨[7], [], [8], [(.slot 19)]⟩, ⟨[8, 0], [], [9], [(.slot 20)]⟩, ⟨[8, 1], [], [10], [(.slot 21)]⟩, ⟨[8, 10], [], [11], [(.slot 22)]⟩, ⟨[8, 9, 11], [], [12], [(.slot 23)]⟩, ⟨[8, 12, 9], [], [13], [(.slot 24)]⟩, ⟨[8, 13], [], [14], [(.slot 25)]⟩, ⟨[8, 14], [], [15], [(.slot 26)]⟩]) (es' := [(_, _), (_, _), (26, .v (.bool (v7 == 10)))]) (by kernel_rfl) rfl rfl
       ⟨st_plain rfl (op_move _ _ _ _ rfl rfl),
       st_plain rfl (op_move _ _ _ _ rfl rfl),
       st_plain rfl (op_ix _ _ _ _ _ _ _ _ Try.underlying25 sz5 (by decide) rfl rfl rfl (ix_ok hv3).1 (map_lt (ix_ok hv3).2) rfl),
       st_plain rfl (op_load_e _ _ _ _ _ _ Try.underlying5 rfl rfl rfl (map_get hv4)),
       st_plain rfl (op_bin _ _ _ _ _ rfl rfl rfl),
       st_plain rfl (op_move _ _ _ _ (congrArg (fun b => AV.v (Value.bool b)) hg4_5) rfl),
       st_run 5 19 true rfl rfl rfl (List.Mem.head _) (op_move _ _ _ _ rfl rfl),
       st_run 5 19 true rfl rfl rfl (List.Mem.head _) (op_move _ _ _ _ rfl rfl),
       st_run 5 19 true rfl rfl rfl (List.Mem.head _) (op_bin _ _ _ _ _ rfl rfl (ibind (f := Value.int .i64) (Option.some.inj hv5))),
       st_run 5 19 true rfl rfl rfl (List.Mem.head _) (op_ix _ _ _ _ _ _ _ _ Try.underlying25 sz5 (by decide) rfl rfl rfl (ix_ok hv6).1 (map_lt (ix_ok hv6).2) rfl),
       st_run 5 19 true rfl rfl rfl (List.Mem.head _) (op_load_e _ _ _ _ _ _ Try.underlying5 rfl rfl rfl (map_get hv7)),
       st_run 5 19 true rfl rfl rfl (List.Mem.head _) (op_bin _ _ _ _ _ rfl rfl rfl),
       st_plain rfl (op_pick _ _ true _ rfl rfl),
       trivial⟩ ?_
      exact hl37 _ (Option.some.inj h).symm
     ·refine ht_seqR hn (El := (_ :: _ :: _ :: (14, .fl .shr 1 (List.map (Value.int .u8) b)) :: (15, .v (.int .i64 s21)) :: (16, .eref (.slot 14) (v3 * 1)) :: (17, .v (.int .u8 v4)) :: (18, .v (.bool (v4 == 13))) :: (19, .v (.bool false)) :: (20, .v undef) :: (21, .v undef) :: (22, .v undef) :: (23, .v undef) :: (24, .v undef) :: (25, .v undef) :: (26, .v (.bool false)) :: [])) (init := [0, 1, 2]) (fin := [0, 1, 15]) (sps := [⟨[0], [], [3], [(.slot 14)]⟩, ⟨[1], [], [4], [(.slot 15)]⟩, ⟨[3, 4], [], [5], [(.slot 16)]⟩, ⟨[5, 3], [], [6], [(.slot 17)]⟩, ⟨[6], [], [7], [(.slot 18)]⟩, ⟨[7], [], [8], [(.slot 19)]⟩, ⟨[8], [], [9], [(.slot 20)]⟩, ⟨[8], [], [10], [(.slot 21)]⟩, ⟨[8], [], [11], [(.slot 22)]⟩, ⟨[8], [], [12], [(.slot 23)]⟩, ⟨[8], [], [13], [(.slot 24)]⟩, ⟨[8], [], [14], [(.slot 25)]⟩, ⟨[8], [], [15], [(.slot 26)]⟩]) (es' := [(_, _), (_, _), (26, .v (.bool false))]) (by kernel_rfl) rfl rfl
       ⟨st_plain rfl (op_move _ _ _ _ rfl rfl),
       st_plain rfl (op_move _ _ _ _ rfl rfl),
       st_plain rfl (op_ix _ _ _ _ _ _ _ _ Try.underlying25 sz5 (by decide) rfl rfl rfl (ix_ok hv3).1 (map_lt (ix_ok hv3).2) rfl),
       st_plain rfl (op_load_e _ _ _ _ _ _ Try.underlying5 rfl rfl rfl (map_get hv4)),
       st_plain rfl (op_bin _ _ _ _ _ rfl rfl rfl),
       st_plain rfl (op_move _ _ _ _ (congrArg (fun b => AV.v (Value.bool b)) hg4_5) rfl),
       st_skip 5 19 _ true rfl rfl rfl rfl (List.Mem.head _),
       st_skip 5 19 _ true rfl rfl rfl rfl (List.Mem.head _),
       st_skip 5 19 _ true rfl rfl rfl rfl (List.Mem.head _),
       st_skip 5 19 _ true rfl rfl rfl rfl (List.Mem.head _),
       st_skip 5 19 _ true rfl rfl rfl rfl (List.Mem.head _),
       st_skip 5 19 _ true rfl rfl rfl rfl (List.Mem.head _),
       st_plain rfl (op_pick _ _ false _ rfl rfl),
       trivial⟩ ?_
      exact hl37 _ (Option.some.inj h).symm
   ·have h := cond_f hb34 h
    refine ht_exit ?_
    refine pt_x_then ?_
    refine pt_x_then ?_
    refine pt_x_in ?_
    refine pt_pick [] (by kernel_rfl) (es' := []) rfl ?_
    exact hl29 _ (ho31 _ (Option.some.inj h).symm).symm

set_option maxHeartbeats 1000000 in
theorem ok_wherryref11_in (n : Int) (lo : Int) (hi : Int) (r : Bool) (h : Sh.wherryref11_in n lo hi = some r) : FnOK Try.prog 25 [.v (.int .i64 n), .v (.int .i64 lo), .v (.int .i64 hi)] (.v (.bool r)) := by
  unfold Sh.wherryref11_in at h
  refine fn_ok Try.func25 rfl (Nat.le_of_ble_eq_true rfl) rfl rfl fun g0 hn hio => ?_
  refine ht_seq ?_
  refine ht_seqR hn (El := [_, _, _, (6, .v (.bool false))]) (init := [0, 1, 2]) (fin := [0, 1, 2]) (sps := [⟨[], [], [3], [(.slot 6)]⟩]) (es' := [(_, _), (_, _), (_, _)]) (by kernel_rfl) rfl rfl
   ⟨st_plain rfl (op_assign _ _ _ _ rfl rfl),
   trivial⟩ ?_
  refine pt_then ?_
  refine ht_seq ?_
  refine ht_joinS h (fun (s1 : Bool) => [(6, .v (.bool s1))]) ?_ ?_
  ·rintro s1 h
   refine pt_then ?_
   refine ht_ret ?_
   obtain rfl := Option.some.inj h
   exact pt_ret hio rfl (.tmp _ _ .nil) rfl rfl
  ·intro u2 h hl3 hr4
   refine cond_some h (fun hg1_3 h => ?_) (fun hg1_3 h => ?_)
   ·refine ht_seqR hn (El := [_, _, _, (7, .v (.int .i64 n)), (8, .v (.int .i64 lo)), (9, .v (.bool ((decide (lo ≤ n))))), (10, .v (.bool true)), (11, .v (.int .i64 n)), (12, .v (.int .i64 hi)), (13, .v (.bool ((decide (n ≤ hi))))), (14, .v (.bool ((decide (n ≤ hi))))), (6, .v (.bool ((decide (n ≤ hi)))))]) (init := [0, 1, 2]) (fin := [11]) (sps := [⟨[0], [], [3], [(.slot 7)]⟩, ⟨[1], [], [4], [(.slot 8)]⟩, ⟨[3, 4], [], [5], [(.slot 9)]⟩, ⟨[5], [], [6], [(.slot 10)]⟩, ⟨[6, 0], [], [7], [(.slot 11)]⟩, ⟨[6, 2], [], [8], [(.slot 12)]⟩, ⟨[6, 7, 8], [], [9], [(.slot 13)]⟩, ⟨[6, 9], [], [10], [(.slot 14)]⟩, ⟨[10], [], [11], [(.slot 6)]⟩]) (es' := [(6, .v (.bool ((decide (n ≤ hi)))))]) (by kernel_rfl) rfl rfl
     ⟨st_plain rfl (op_move _ _ _ _ rfl rfl),
     st_plain rfl (op_move _ _ _ _ rfl rfl),
     st_plain rfl (op_bin _ _ _ _ _ rfl rfl rfl),
     st_plain rfl (op_move _ _ _ _ (congrArg (fun b => AV.v (Value.bool b)) hg1_3) rfl),
     st_run 3 10 true rfl rfl rfl (List.Mem.head _) (op_move _ _ _ _ rfl rfl),
     st_run 3 10 true rfl rfl rfl (List.Mem.head _) (op_move _ _ _ _ rfl rfl),
     st_run 3 10 true rfl rfl rfl (List.Mem.head _) (op_bin _ _ _ _ _ rfl rfl rfl),
     st_plain rfl (op_pick _ _ true _ rfl rfl),
     st_plain rfl (op_assign _ _ _ _ rfl rfl),
     trivial⟩ ?_
    exact hl3 _ (Option.some.inj h).symm
   ·refine ht_seqR hn (El := [_, _, _, (7, .v (.int .i64 n)), (8, .v (.int .i64 lo)), (9, .v (.bool ((decide (lo ≤ n))))), (10, .v (.bool false)), (11, .v undef), (12, .v undef), (13, .v undef), (14, .v (.bool false)), (6, .v (.bool false))]) (init := [0, 1, 2]) (fin := [11]) (sps := [⟨[0], [], [3], [(.slot 7)]⟩, ⟨[1], [], [4], [(.slot 8)]⟩, ⟨[3, 4], [], [5], [(.slot 9)]⟩, ⟨[5], [], [6], [(.slot 10)]⟩, ⟨[6], [], [7], [(.slot 11)]⟩, ⟨[6], [], [8], [(.slot 12)]⟩, ⟨[6], [], [9], [(.slot 13)]⟩, ⟨[6], [], [10], [(.slot 14)]⟩, ⟨[10], [], [11], [(.slot 6)]⟩]) (es' := [(6, .v (.bool false))]) (by kernel_rfl) rfl rfl
     ⟨st_plain rfl (op_move _ _ _ _ rfl rfl),
     st_plain rfl (op_move _ _ _ _ rfl rfl),
     st_plain rfl (op_bin _ _ _ _ _ rfl rfl rfl),
     st_plain rfl (op_move _ _ _ _ (congrArg (fun b => AV.v (Value.bool b)) hg1_3) rfl),
     st_skip 3 10 _ true rfl rfl rfl rfl (List.Mem.head _),
     st_skip 3 10 _ true rfl rfl rfl rfl (List.Mem.head _),
     st_skip 3 10 _ true rfl rfl rfl rfl (List.Mem.head _),
     st_plain rfl (op_pick _ _ false _ rfl rfl),
     st_plain rfl (op_assign _ _ _ _ rfl rfl),
     trivial⟩ ?_
    exact hl3 _ (Option.some.inj h).symm

set_option maxHeartbeats 1000000 in
theorem ok_wherryref11_digit (c : Int) (r : Bool) (h : Sh.wherryref11_digit c = some r) : FnOK Try.prog 32 [.v (.int .u8 c)] (.v (.bool r)) := by
  unfold Sh.wherryref11_digit at h
  refine fn_ok Try.func32 rfl (Nat.le_of_ble_eq_true rfl) rfl rfl fun g0 hn hio => ?_
  refine ht_seq ?_
  refine ht_seqR hn (El := [_, (2, .v (.bool false))]) (init := [0]) (fin := [0]) (sps := [⟨[], [], [1], [(.slot 2)]⟩]) (es' := [(_, _)]) (by kernel_rfl) rfl rfl
   ⟨st_plain rfl (op_assign _ _ _ _ rfl rfl),
   trivial⟩ ?_
  refine pt_then ?_
  refine ht_seq ?_
  refine ht_joinS h (fun (s1 : Bool) => [(2, .v (.bool s1))]) ?_ ?_
  ·rintro s1 h
   refine pt_then ?_
   refine ht_ret ?_
   obtain rfl := Option.some.inj h
   exact pt_ret hio rfl (.tmp _ _ .nil) rfl rfl
  ·intro u2 h hl3 hr4
   refine cond_some h (fun hg1_2 h => ?_) (fun hg1_2 h => ?_)
   ·refine ht_seqR hn (El := [_, (3, .v (.int .u8 c)), (4, .v (.bool ((decide (48 ≤ c))))), (5, .v (.bool true)), (6, .v (.int .u8 c)), (7, .v (.bool ((decide (c ≤ 57))))), (8, .v (.bool ((decide (c ≤ 57))))), (2, .v (.bool ((decide (c ≤ 57)))))]) (init := [0]) (fin := [7]) (sps := [⟨[0], [], [1], [(.slot 3)]⟩, ⟨[1], [], [2], [(.slot 4)]⟩, ⟨[2], [], [3], [(.slot 5)]⟩, ⟨[3, 0], [], [4], [(.slot 6)]⟩, ⟨[3, 4], [], [5], [(.slot 7)]⟩, ⟨[3, 5], [], [6], [(.slot 8)]⟩, ⟨[6], [], [7], [(.slot 2)]⟩]) (es' := [(2, .v (.bool ((decide (c ≤ 57)))))]) (by kernel_rfl) rfl rfl
     ⟨st_plain rfl (op_move _ _ _ _ rfl rfl),
     st_plain rfl (op_bin _ _ _ _ _ rfl rfl rfl),
     st_plain rfl (op_move _ _ _ _ (congrArg (fun b => AV.v (Value.bool b)) hg1_2) rfl),
     st_run 2 5 true rfl rfl rfl (List.Mem.head _) (op_move _ _ _ _ rfl rfl),
     st_run 2 5 true rfl rfl rfl (List.Mem.head _) (op_bin _ _ _ _ _ rfl rfl rfl),
     st_plain rfl (op_pick _ _ true _ rfl rfl),
     st_plain rfl (op_assign _ _ _ _ rfl rfl),
     trivial⟩ ?_
    exact hl3 _ (Option.some.inj h).symm
   ·refine ht_seqR hn (El := [_, (3, .v (.int .u8 c)), (4, .v (.bool ((decide (48 ≤ c))))), (5, .v (.bool false)), (6, .v undef), (7, .v undef), (8, .v (.bool false)), (2, .v (.bool false))]) (init := [0]) (fin := [7]) (sps := [⟨[0], [], [1], [(.slot 3)]⟩, ⟨[1], [], [2], [(.slot 4)]⟩, ⟨[2], [], [3], [(.slot 5)]⟩, ⟨[3], [], [4], [(.slot 6)]⟩, ⟨[3], [], [5], [(.slot 7)]⟩, ⟨[3], [], [6], [(.slot 8)]⟩, ⟨[6], [], [7], [(.slot 2)]⟩]) (es' := [(2, .v (.bool false))]) (by kernel_rfl) rfl rfl
     ⟨st_plain rfl (op_move _ _ _ _ rfl rfl),
     st_plain rfl (op_bin _ _ _ _ _ rfl rfl rfl),
     st_plain rfl (op_move _ _ _ _ (congrArg (fun b => AV.v (Value.bool b)) hg1_2) rfl),
     st_skip 2 5 _ true rfl rfl rfl rfl (List.Mem.head _),
     st_skip 2 5 _ true rfl rfl rfl rfl (List.Mem.head _),
     st_plain rfl (op_pick _ _ false _ rfl rfl),
     st_plain rfl (op_assign _ _ _ _ rfl rfl),
     trivial⟩ ?_
    exact hl3 _ (Option.some.inj h).symm

set_option maxHeartbeats 1000000 in
theorem ok_wherryref11_number (s : ByteArray) (most : Int) (r : Int) (h : Sh.wherryref11_number s most = some r) : FnOK Try.prog 24 [.v (.string s), .v (.int .i64 most)] (.v (.int .i64 r)) := by
  unfold Sh.wherryref11_number at h
  refine fn_ok Try.func24 rfl (Nat.le_of_ble_eq_true rfl) rfl rfl fun g0 hn hio => ?_
  refine ht_seq ?_
  refine ht_seqR hn (El := [_, _, (4, .v (.int .i64 0))]) (init := [0, 1]) (fin := [0, 1]) (sps := [⟨[], [], [2], [(.slot 4)]⟩]) (es' := [(_, _), (_, _)]) (by kernel_rfl) rfl rfl
   ⟨st_plain rfl (op_assign _ _ _ _ rfl rfl),
   trivial⟩ ?_
  refine pt_then ?_
  refine ht_seq ?_
  refine ht_seq ?_
  refine ht_joinS h (fun (s3 : Bool) => [(0, .v (.string s)), (21, .v (.bool s3))]) ?_ ?_
  ·rintro s3 h
   refine pt_then ?_
   refine ht_cond _ rfl (fun hb7 => ?_) (fun hb7 => ?_)
   ·have h := cond_t hb7 h
    refine ht_seq ?_
    refine ht_seqR hn (El := [_, _, (4, .v (.int .i64 (-1)))]) (init := [0, 1]) (fin := [2]) (sps := [⟨[], [], [2], [(.slot 4)]⟩]) (es' := [(4, .v (.int .i64 (-1)))]) (by kernel_rfl) rfl rfl
     ⟨st_plain rfl (op_assign _ _ _ _ rfl rfl),
     trivial⟩ ?_
    refine pt_then ?_
    refine ht_ret ?_
    refine pt_r_then ?_
    obtain rfl := Option.some.inj h
    exact pt_ret hio rfl (.tmp _ _ .nil) rfl rfl
   ·have h := cond_f hb7 h
    refine ht_skip ?_
    refine pt_then ?_
    refine ht_seq ?_
    refine ht_seqR hn (El := [_, _, (5, .v (.int .i64 0))]) (init := [0, 1]) (fin := [0, 2]) (sps := [⟨[], [], [2], [(.slot 5)]⟩]) (es' := [(_, _), (5, .v (.int .i64 0))]) (by kernel_rfl) rfl rfl
     ⟨st_plain rfl (op_assign _ _ _ _ rfl rfl),
     trivial⟩ ?_
    refine pt_then ?_
    refine ht_seq ?_
    refine ht_seq ?_
    refine ht_seqR hn (El := [_, _, (6, .v (.int .i64 0))]) (init := [0, 1]) (fin := [0, 1, 2]) (sps := [⟨[], [], [2], [(.slot 6)]⟩]) (es' := [(_, _), (_, _), (6, .v (.int .i64 0))]) (by kernel_rfl) rfl rfl
     ⟨st_plain rfl (op_assign _ _ _ _ rfl rfl),
     trivial⟩ ?_
    refine pt_then ?_
    refine ht_loopS h (fun ((s22, s23) : Int × Int) => [(0, .v (.string s)), (5, .v (.int .i64 s22)), (6, .v (.int .i64 s23))]) (fun (s26 : Int) => [(5, .v (.int .i64 s26))]) ?_ ?_
    ·rintro s26 h
     refine pt_then ?_
     refine ht_seq ?_
     refine ht_seqR hn (El := [_, (41, .v (.int .i64 s26)), (4, .v (.int .i64 s26))]) (init := [0]) (fin := [2]) (sps := [⟨[0], [], [1], [(.slot 41)]⟩, ⟨[1], [], [2], [(.slot 4)]⟩]) (es' := [(4, .v (.int .i64 s26))]) (by kernel_rfl) rfl rfl
      ⟨st_plain rfl (op_move _ _ _ _ rfl rfl),
      st_plain rfl (op_assign _ _ _ _ rfl rfl),
      trivial⟩ ?_
     refine pt_then ?_
     refine ht_ret ?_
     obtain rfl := Option.some.inj h
     exact pt_ret hio rfl (.tmp _ _ .nil) rfl rfl
    ·rintro u27 hl28 hr29 ⟨s22, s23⟩ rr32 h ho30
     refine ht_seq ?_
     refine ht_seq ?_
     refine ht_seqR hn (El := [_, _, _, (22, .v (.int .i64 s23)), (23, .v (.string s)), (24, .v (.int .i64 (s.size : Int))), (25, .v (.bool ((decide (s23 < (s.size : Int))))))]) (init := [0, 1, 2]) (fin := [0, 1, 2, 6]) (sps := [⟨[2], [], [3], [(.slot 22)]⟩, ⟨[0], [], [4], [(.slot 23)]⟩, ⟨[4], [], [5], [(.slot 24)]⟩, ⟨[3, 5], [], [6], [(.slot 25)]⟩]) (es' := [(_, _), (_, _), (_, _), (25, .v (.bool ((decide (s23 < (s.size : Int))))))]) (by kernel_rfl) rfl rfl
      ⟨st_plain rfl (op_move _ _ _ _ rfl rfl),
      st_plain rfl (op_move _ _ _ _ rfl rfl),
      st_plain rfl (op_len_str _ _ _ Try.underlying9 rfl),
      st_plain rfl (op_bin _ _ _ _ _ rfl rfl rfl),
      trivial⟩ ?_
     refine pt_then ?_
     refine ht_cond _ rfl (fun hb33 => ?_) (fun hb33 => ?_)
     ·have h := cond_t hb33 h
      refine ht_skip ?_
      refine pt_then ?_
      refine ht_seq ?_
      refine ht_block ?_
      refine ht_seq ?_
      refine ht_seq ?_
      obtain ⟨v9, hv9, h⟩ := bind_some h
      obtain ⟨v10, hv10, h⟩ := bind_some h
      refine ht_seqR hn (El := [_, _, _, _, (28, .v (.string s)), (29, .v (.int .i64 s23)), (30, .v (.int .u8 v9)), (31, .v (.bool v10)), (32, .v (.bool (!v10)))]) (init := [0, 1, 2, 3]) (fin := [0, 1, 2, 8]) (sps := [⟨[0], [], [4], [(.slot 28)]⟩, ⟨[2], [], [5], [(.slot 29)]⟩, ⟨[4, 5], [], [6], [(.slot 30)]⟩, ⟨[6], [], [7], [(.slot 31)]⟩, ⟨[7], [], [8], [(.slot 32)]⟩]) (es' := [(_, _), (_, _), (_, _), (32, .v (.bool (!v10)))]) (by kernel_rfl) rfl rfl
       ⟨st_plain rfl (op_move _ _ _ _ rfl rfl),
       st_plain rfl (op_move _ _ _ _ rfl rfl),
       st_plain rfl (op_chr _ _ _ s23 _ Try.underlying9 rfl rfl hv9),
       st_plain rfl (op_call _ _ 32 _ _ rfl Try.call32 rfl (ok_wherryref11_digit v9 _ hv10) rfl rfl),
       st_plain rfl (op_un _ _ _ _ rfl rfl),
       trivial⟩ ?_
      refine pt_then ?_
      refine ht_cond _ rfl (fun hb34 => ?_) (fun hb34 => ?_)
      ·have h := cond_t hb34 h
       refine ht_seq ?_
       refine ht_seqR hn (El := [_, _, _, _, (4, .v (.int .i64 (-1)))]) (init := [0, 1, 2, 3]) (fin := [4]) (sps := [⟨[], [], [4], [(.slot 4)]⟩]) (es' := [(4, .v (.int .i64 (-1)))]) (by kernel_rfl) rfl rfl
        ⟨st_plain rfl (op_assign _ _ _ _ rfl rfl),
        trivial⟩ ?_
       refine pt_then ?_
       refine ht_ret ?_
       refine pt_r_then ?_
       refine pt_r_in ?_
       refine pt_r_then ?_
       refine pt_r_then ?_
       refine pt_r_in ?_
       refine pt_r_then ?_
       have h := hr29 _ (ho30 _ (Option.some.inj h).symm).symm
       obtain rfl := Option.some.inj h
       exact pt_ret hio rfl (.tmp _ _ .nil) rfl rfl
      ·have h := cond_f hb34 h
       refine ht_skip ?_
       refine pt_then ?_
       obtain ⟨v12, hv12, h⟩ := bind_some h
       obtain ⟨v13, hv13, h⟩ := bind_some h
       obtain ⟨v14, hv14, h⟩ := bind_some h
       obtain ⟨v15, hv15, h⟩ := bind_some h
       obtain ⟨v16, hv16, h⟩ := bind_some h
       refine ht_seqR hn (El := [_, _, _, _, (33, .v (.int .i64 s22)), (34, .v (.int .i64 v12)), (35, .v (.string s)), (36, .v (.int .i64 s23)), (37, .v (.int .u8 v13)), (38, .v (.int .u8 v14)), (39, .v (.int .i64 v15)), (40, .v (.int .i64 v16)), (5, .v (.int .i64 v16))]) (init := [0, 1, 2, 3]) (fin := [0, 2, 12]) (sps := [⟨[1], [], [4], [(.slot 33)]⟩, ⟨[4], [], [5], [(.slot 34)]⟩, ⟨[0], [], [6], [(.slot 35)]⟩, ⟨[2], [], [7], [(.slot 36)]⟩, ⟨[6, 7], [], [8], [(.slot 37)]⟩, ⟨[8], [], [9], [(.slot 38)]⟩, ⟨[9], [], [10], [(.slot 39)]⟩, ⟨[5, 10], [], [11], [(.slot 40)]⟩, ⟨[11], [1], [12], [(.slot 5)]⟩]) (es' := [(_, _), (_, _), (5, .v (.int .i64 v16))]) (by kernel_rfl) rfl rfl
        ⟨st_plain rfl (op_move _ _ _ _ rfl rfl),
        st_plain rfl (op_bin _ _ _ _ _ rfl rfl (ibind (f := Value.int .i64) (Option.some.inj hv12))),
        st_plain rfl (op_move _ _ _ _ rfl rfl),
        st_plain rfl (op_move _ _ _ _ rfl rfl),
        st_plain rfl (op_chr _ _ _ s23 _ Try.underlying9 rfl rfl hv13),
        st_plain rfl (op_bin _ _ _ _ _ rfl rfl (ibind (f := Value.int .u8) (Option.some.inj hv14))),
        st_plain rfl ((Option.some.inj hv15) ▸ op_conv _ _ _ Try.underlying5 Try.underlying3 rfl),
        st_plain rfl (op_bin _ _ _ _ _ rfl rfl (ibind (f := Value.int .i64) (Option.some.inj hv16))),
        st_plain rfl (LOp.drop [_] (op_assign _ _ _ _ rfl rfl)),
        trivial⟩ ?_
       refine pt_inb ?_
       refine pt_then ?_
       obtain ⟨v17, hv17, h⟩ := bind_some h
       refine ht_seqR hn (El := [_, _, _, (26, .v (.int .i64 s23)), (27, .v (.int .i64 v17)), (6, .v (.int .i64 v17))]) (init := [0, 1, 2]) (fin := [0, 2, 5]) (sps := [⟨[1], [], [3], [(.slot 26)]⟩, ⟨[3], [], [4], [(.slot 27)]⟩, ⟨[4], [1], [5], [(.slot 6)]⟩]) (es' := [(_, _), (_, _), (6, .v (.int .i64 v17))]) (by kernel_rfl) rfl rfl
        ⟨st_plain rfl (op_move _ _ _ _ rfl rfl),
        st_plain rfl (op_bin _ _ _ _ _ rfl rfl (ibind (f := Value.int .i64) (Option.some.inj hv17))),
        st_plain rfl (LOp.drop [_] (op_assign _ _ _ _ rfl rfl)),
        trivial⟩ ?_
       exact pt_next _ (Option.some.inj h).symm rfl
     ·have h := cond_f hb33 h
      refine ht_exit ?_
      refine pt_x_then ?_
      refine pt_x_then ?_
      refine pt_x_in ?_
      refine pt_pick [1] (by kernel_rfl) (es' := [(_, _)]) rfl ?_
      exact hl28 _ (ho30 _ (Option.some.inj h).symm).symm
  ·intro u4 h hl5 hr6
   obtain ⟨v1, hv1, h⟩ := bind_some h
   refine cond_some h (fun hg1_5 h => ?_) (fun hg1_5 h => ?_)
   ·refine ht_seqR hn (El := (_ :: _ :: (7, .v (.string s)) :: (8, .v (.int .i64 (s.size : Int))) :: (9, .v (.int .i64 most)) :: (10, .v (.bool v1)) :: (11, .v (.bool (!v1))) :: (12, .v (.bool true)) :: (13, .v undef) :: (14, .v undef) :: (15, .v undef) :: (16, .v undef) :: (17, .v undef) :: (18, .v undef) :: (19, .v undef) :: (20, .v undef) :: (21, .v (.bool true)) :: [])) (init := [0, 1]) (fin := [0, 16]) (sps := (⟨[0], [], [2], [(.slot 7)]⟩ :: ⟨[2], [], [3], [(.slot 8)]⟩ :: ⟨[1], [], [4], [(.slot 9)]⟩ :: ⟨[3, 4], [], [5], [(.slot 10)]⟩ :: ⟨[5], [], [6], [(.slot 11)]⟩ :: ⟨[6], [], [7], [(.slot 12)]⟩ :: ⟨[7], [], [8], [(.slot 13)]⟩ :: ⟨[7], [], [9], [(.slot 14)]⟩ :: ⟨[7], [], [10], [(.slot 15)]⟩ :: ⟨[7], [], [11], [(.slot 16)]⟩ :: ⟨[11], [], [12], [(.slot 17)]⟩ :: ⟨[11], [], [13], [(.slot 18)]⟩ :: ⟨[11], [], [14], [(.slot 19)]⟩ :: ⟨[7], [], [15], [(.slot 20)]⟩ :: ⟨[7], [], [16], [(.slot 21)]⟩ :: [])) (es' := [(_, _), (21, .v (.bool true))]) (by kernel_rfl) rfl rfl
     ⟨st_plain rfl (op_move _ _ _ _ rfl rfl),
     st_plain rfl (op_len_str _ _ _ Try.underlying9 rfl),
     st_plain rfl (op_move _ _ _ _ rfl rfl),
     st_plain rfl (op_call _ _ 25 _ _ rfl Try.call25 rfl (ok_wherryref11_in (s.size : Int) 1 most _ hv1) rfl rfl),
     st_plain rfl (op_un _ _ _ _ rfl rfl),
     st_plain rfl (op_move _ _ _ _ (congrArg (fun b => AV.v (Value.bool b)) hg1_5) rfl),
     st_skip 5 12 _ false rfl rfl rfl rfl (List.Mem.head _),
     st_skip 5 12 _ false rfl rfl rfl rfl (List.Mem.head _),
     st_skip 5 12 _ false rfl rfl rfl rfl (List.Mem.head _),
     st_skip 5 12 _ false rfl rfl rfl rfl (List.Mem.head _),
     st_skipU 9 16 _ true rfl rfl rfl rfl (List.Mem.head _),
     st_skipU 9 16 _ true rfl rfl rfl rfl (List.Mem.head _),
     st_skipU 9 16 _ true rfl rfl rfl rfl (List.Mem.head _),
     st_skip 5 12 _ false rfl rfl rfl rfl (List.Mem.head _),
     st_plain rfl (op_pick _ _ true _ rfl rfl),
     trivial⟩ ?_
    exact hl5 _ (Option.some.inj h).symm
   ·refine cond_some h (fun hg1_9 h => ?_) (fun hg1_9 h => ?_)
    ·obtain ⟨v2, hv2, h⟩ := bind_some h
     refine ht_seqR hn (El := (_ :: _ :: (7, .v (.string s)) :: (8, .v (.int .i64 (s.size : Int))) :: (9, .v (.int .i64 most)) :: (10, .v (.bool v1)) :: (11, .v (.bool (!v1))) :: (12, .v (.bool false)) :: (13, .v (.string s)) :: (14, .v (.int .i64 (s.size : Int))) :: (15, .v (.bool ((decide (1 < (s.size : Int)))))) :: (16, .v (.bool true)) :: (17, .v (.string s)) :: (18, .v (.int .u8 v2)) :: (19, .v (.bool (v2 == 48))) :: (20, .v (.bool (v2 == 48))) :: (21, .v (.bool (v2 == 48))) :: [])) (init := [0, 1]) (fin := [0, 16]) (sps := (⟨[0], [], [2], [(.slot 7)]⟩ :: ⟨[2], [], [3], [(.slot 8)]⟩ :: ⟨[1], [], [4], [(.slot 9)]⟩ :: ⟨[3, 4], [], [5], [(.slot 10)]⟩ :: ⟨[5], [], [6], [(.slot 11)]⟩ :: ⟨[6], [], [7], [(.slot 12)]⟩ :: ⟨[7, 0], [], [8], [(.slot 13)]⟩ :: ⟨[7, 8], [], [9], [(.slot 14)]⟩ :: ⟨[7, 9], [], [10], [(.slot 15)]⟩ :: ⟨[7, 10], [], [11], [(.slot 16)]⟩ :: ⟨[11, 0], [], [12], [(.slot 17)]⟩ :: ⟨[11, 12], [], [13], [(.slot 18)]⟩ :: ⟨[11, 13], [], [14], [(.slot 19)]⟩ :: ⟨[7, 11, 14], [], [15], [(.slot 20)]⟩ :: ⟨[7, 15], [], [16], [(.slot 21)]⟩ :: [])) (es' := [(_, _), (21, .v (.bool (v2 == 48)))]) (by kernel_rfl) rfl rfl
      ⟨st_plain rfl (op_move _ _ _ _ rfl rfl),
      st_plain rfl (op_len_str _ _ _ Try.underlying9 rfl),
      st_plain rfl (op_move _ _ _ _ rfl rfl),
      st_plain rfl (op_call _ _ 25 _ _ rfl Try.call25 rfl (ok_wherryref11_in (s.size : Int) 1 most _ hv1) rfl rfl),
      st_plain rfl (op_un _ _ _ _ rfl rfl),
      st_plain rfl (op_move _ _ _ _ (congrArg (fun b => AV.v (Value.bool b)) hg1_5) rfl),
      st_run 5 12 false rfl rfl rfl (List.Mem.head _) (op_move _ _ _ _ rfl rfl),
      st_run 5 12 false rfl rfl rfl (List.Mem.head _) (op_len_str _ _ _ Try.underlying9 rfl),
      st_run 5 12 false rfl rfl rfl (List.Mem.head _) (op_bin _ _ _ _ _ rfl rfl rfl),
      st_run 5 12 false rfl rfl rfl (List.Mem.head _) (op_move _ _ _ _ (congrArg (fun b => AV.v (Value.bool b)) hg1_9) rfl),
      st_run 9 16 true rfl rfl rfl (List.Mem.head _) (op_move _ _ _ _ rfl rfl),
      st_run 9 16 true rfl rfl rfl (List.Mem.head _) (op_chr _ _ _ 0 _ Try.underlying9 rfl rfl hv2),
      st_run 9 16 true rfl rfl rfl (List.Mem.head _) (op_bin _ _ _ _ _ rfl rfl rfl),
      st_run 5 12 false rfl rfl rfl (List.Mem.head _) (op_pick _ _ true _ rfl rfl),
      st_plain rfl (op_pick _ _ false _ rfl rfl),
      trivial⟩ ?_
     exact hl5 _ (Option.some.inj h).symm
    ·refine ht_seqR hn (El := (_ :: _ :: (7, .v (.string s)) :: (8, .v (.int .i64 (s.size : Int))) :: (9, .v (.int .i64 most)) :: (10, .v (.bool v1)) :: (11, .v (.bool (!v1))) :: (12, .v (.bool false)) :: (13, .v (.string s)) :: (14, .v (.int .i64 (s.size : Int))) :: (15, .v (.bool ((decide (1 < (s.size : Int)))))) :: (16, .v (.bool false)) :: (17, .v undef) :: (18, .v undef) :: (19, .v undef) :: (20, .v (.bool false)) :: (21, .v (.bool false)) :: [])) (init := [0, 1]) (fin := [0, 16]) (sps := (⟨[0], [], [2], [(.slot 7)]⟩ :: ⟨[2], [], [3], [(.slot 8)]⟩ :: ⟨[1], [], [4], [(.slot 9)]⟩ :: ⟨[3, 4], [], [5], [(.slot 10)]⟩ :: ⟨[5], [], [6], [(.slot 11)]⟩ :: ⟨[6], [], [7], [(.slot 12)]⟩ :: ⟨[7, 0], [], [8], [(.slot 13)]⟩ :: ⟨[7, 8], [], [9], [(.slot 14)]⟩ :: ⟨[7, 9], [], [10], [(.slot 15)]⟩ :: ⟨[7, 10], [], [11], [(.slot 16)]⟩ :: ⟨[11], [], [12], [(.slot 17)]⟩ :: ⟨[11], [], [13], [(.slot 18)]⟩ :: ⟨[11], [], [14], [(.slot 19)]⟩ :: ⟨[7, 11], [], [15], [(.slot 20)]⟩ :: ⟨[7, 15], [], [16], [(.slot 21)]⟩ :: [])) (es' := [(_, _), (21, .v (.bool false))]) (by kernel_rfl) rfl rfl
      ⟨st_plain rfl (op_move _ _ _ _ rfl rfl),
      st_plain rfl (op_len_str _ _ _ Try.underlying9 rfl),
      st_plain rfl (op_move _ _ _ _ rfl rfl),
      st_plain rfl (op_call _ _ 25 _ _ rfl Try.call25 rfl (ok_wherryref11_in (s.size : Int) 1 most _ hv1) rfl rfl),
      st_plain rfl (op_un _ _ _ _ rfl rfl),
      st_plain rfl (op_move _ _ _ _ (congrArg (fun b => AV.v (Value.bool b)) hg1_5) rfl),
      st_run 5 12 false rfl rfl rfl (List.Mem.head _) (op_move _ _ _ _ rfl rfl),
      st_run 5 12 false rfl rfl rfl (List.Mem.head _) (op_len_str _ _ _ Try.underlying9 rfl),
      st_run 5 12 false rfl rfl rfl (List.Mem.head _) (op_bin _ _ _ _ _ rfl rfl rfl),
      st_run 5 12 false rfl rfl rfl (List.Mem.head _) (op_move _ _ _ _ (congrArg (fun b => AV.v (Value.bool b)) hg1_9) rfl),
      st_skip 9 16 _ true rfl rfl rfl rfl (List.Mem.head _),
      st_skip 9 16 _ true rfl rfl rfl rfl (List.Mem.head _),
      st_skip 9 16 _ true rfl rfl rfl rfl (List.Mem.head _),
      st_run 5 12 false rfl rfl rfl (List.Mem.head _) (op_pick _ _ false _ rfl rfl),
      st_plain rfl (op_pick _ _ false _ rfl rfl),
      trivial⟩ ?_
     exact hl5 _ (Option.some.inj h).symm

set_option maxHeartbeats 1000000 in
theorem ok_wherryref11_Reply (p_r : T_Reply) (r : Bool) (h : Sh.wherryref11_Reply p_r = some r) : FnOK Try.prog 13 [.agg [.v (.int .i64 p_r.Code), .fl .shr 1 (List.map Value.string p_r.Lines)]] (.v (.bool r)) := by
  unfold Sh.wherryref11_Reply at h
  refine fn_ok Try.func13 rfl (Nat.le_of_ble_eq_true rfl) rfl rfl fun g0 hn hio => ?_
  refine ht_seq ?_
  refine ht_seqR hn (El := [_, (1, .box 24 [.v (.int .i64 p_r.Code), .fl .shr 1 (List.map Value.string p_r.Lines)]), (2, .v (.bool false))]) (init := [0]) (fin := [1]) (sps := [⟨[0], [], [1], [(.slot 1)]⟩, ⟨[], [], [2], [(.slot 2)]⟩]) (es' := [(1, .box 24 [.v (.int .i64 p_r.Code), .fl .shr 1 (List.map Value.string p_r.Lines)])]) (by kernel_rfl) rfl rfl
   ⟨st_plain rfl (op_box _ _ _ _ rfl rfl rfl),
   st_plain rfl (op_assign _ _ _ _ rfl rfl),
   trivial⟩ ?_
  refine pt_then ?_
  refine ht_seq ?_
  refine ht_seq ?_
  refine ht_joinS h (fun (s5 : Bool) => [(1, .box 24 [.v (.int .i64 p_r.Code), .fl .shr 1 (List.map Value.string p_r.Lines)]), (22, .v (.bool s5))]) ?_ ?_
  ·rintro s5 h
   refine pt_then ?_
   refine ht_cond _ rfl (fun hb9 => ?_) (fun hb9 => ?_)
   ·have h := cond_t hb9 h
    refine ht_seq ?_
    refine ht_seqR hn (El := [_, _, (2, .v (.bool false))]) (init := [0, 1]) (fin := [2]) (sps := [⟨[], [], [2], [(.slot 2)]⟩]) (es' := [(2, .v (.bool false))]) (by kernel_rfl) rfl rfl
     ⟨st_plain rfl (op_assign _ _ _ _ rfl rfl),
     trivial⟩ ?_
    refine pt_then ?_
    refine ht_ret ?_
    refine pt_r_then ?_
    obtain rfl := Option.some.inj h
    exact pt_ret hio rfl (.tmp _ _ .nil) rfl rfl
   ·have h := cond_f hb9 h
    refine ht_skip ?_
    refine pt_then ?_
    refine ht_seq ?_
    refine ht_seq ?_
    refine ht_seqR hn (El := [_, _, (3, .v (.int .i64 0))]) (init := [0, 1]) (fin := [0, 2]) (sps := [⟨[], [], [2], [(.slot 3)]⟩]) (es' := [(_, _), (3, .v (.int .i64 0))]) (by kernel_rfl) rfl rfl
     ⟨st_plain rfl (op_assign _ _ _ _ rfl rfl),
     trivial⟩ ?_
    refine pt_then ?_
    refine ht_loopS h (fun (s91 : Int) => [(1, .box 24 [.v (.int .i64 p_r.Code), .fl .shr 1 (List.map Value.string p_r.Lines)]), (3, .v (.int .i64 s91))]) (fun (() : Unit) => []) ?_ ?_
    ·rintro ⟨⟩ h
     refine pt_then ?_
     refine ht_seq ?_
     refine ht_seqR hn (El := [(2, .v (.bool true))]) (init := []) (fin := [0]) (sps := [⟨[], [], [0], [(.slot 2)]⟩]) (es' := [(2, .v (.bool true))]) (by kernel_rfl) rfl rfl
      ⟨st_plain rfl (op_assign _ _ _ _ rfl rfl),
      trivial⟩ ?_
     refine pt_then ?_
     refine ht_ret ?_
     obtain rfl := Option.some.inj h
     exact pt_ret hio rfl (.tmp _ _ .nil) rfl rfl
    ·rintro u126 hl127 hr128 s91 rr131 h ho129
     refine ht_seq ?_
     refine ht_seq ?_
     refine ht_seqR hn (El := [_, _, (23, .v (.int .i64 s91)), (24, .ptr 1 1), (25, .fl .shr 1 (List.map Value.string p_r.Lines)), (26, .v (.int .i64 (p_r.Lines.length : Int))), (27, .v (.bool ((decide (s91 < (p_r.Lines.length : Int))))))]) (init := [0, 1]) (fin := [0, 1, 6]) (sps := [⟨[1], [], [2], [(.slot 23)]⟩, ⟨[0], [], [3], [(.slot 24)]⟩, ⟨[3, 0], [], [4], [(.slot 25)]⟩, ⟨[4], [], [5], [(.slot 26)]⟩, ⟨[2, 5], [], [6], [(.slot 27)]⟩]) (es' := [(_, _), (_, _), (27, .v (.bool ((decide (s91 < (p_r.Lines.length : Int))))))]) (by kernel_rfl) rfl rfl
      ⟨st_plain rfl (op_move _ _ _ _ rfl rfl),
      st_plain rfl (op_fieldAddr _ _ _ _ 1 0 _ Try.underlying24 rfl sz22 rfl rfl (by decide)),
      st_plain rfl (op_load _ _ _ _ _ _ Try.underlying22 rfl rfl rfl (Nat.le_of_ble_eq_true rfl) rfl rfl rfl),
      st_plain rfl (op_len_fl _ _ _ Try.underlying22 rfl (by decide) (map_len _)),
      st_plain rfl (op_bin _ _ _ _ _ rfl rfl rfl),
      trivial⟩ ?_
     refine pt_then ?_
     refine ht_cond _ rfl (fun hb132 => ?_) (fun hb132 => ?_)
     ·have h := cond_t hb132 h
      refine ht_skip ?_
      refine pt_then ?_
      refine ht_seq ?_
      refine ht_block ?_
      refine ht_seq ?_
      refine ht_seq ?_
      obtain ⟨v11, hv11, h⟩ := bind_some h
      obtain ⟨v12, hv12, h⟩ := bind_some h
      refine ht_seqR hn (El := [_, _, _, (30, .ptr 1 1), (31, .fl .shr 1 (List.map Value.string p_r.Lines)), (32, .v (.int .i64 s91)), (33, .eref (.slot 31) (v11 * 1)), (34, .v (.string v12)), (35, .v (.int .i64 (v12.size : Int))), (36, .v (.bool ((decide (200 < (v12.size : Int))))))]) (init := [0, 1, 2]) (fin := [0, 1, 9]) (sps := [⟨[0], [], [3], [(.slot 30)]⟩, ⟨[3, 0], [], [4], [(.slot 31)]⟩, ⟨[1], [], [5], [(.slot 32)]⟩, ⟨[4, 5], [], [6], [(.slot 33)]⟩, ⟨[6, 4], [], [7], [(.slot 34)]⟩, ⟨[7], [], [8], [(.slot 35)]⟩, ⟨[8], [], [9], [(.slot 36)]⟩]) (es' := [(_, _), (_, _), (36, .v (.bool ((decide (200 < (v12.size : Int))))))]) (by kernel_rfl) rfl rfl
       ⟨st_plain rfl (op_fieldAddr _ _ _ _ 1 0 _ Try.underlying24 rfl sz22 rfl rfl (by decide)),
       st_plain rfl (op_load _ _ _ _ _ _ Try.underlying22 rfl rfl rfl (Nat.le_of_ble_eq_true rfl) rfl rfl rfl),
       st_plain rfl (op_move _ _ _ _ rfl rfl),
       st_plain rfl (op_ix _ _ _ _ _ _ _ _ Try.underlying22 sz9 (by decide) rfl rfl rfl (ix_ok hv11).1 (map_lt (ix_ok hv11).2) rfl),
       st_plain rfl (op_load_e _ _ _ _ _ _ Try.underlying9 rfl rfl rfl (map_get hv12)),
       st_plain rfl (op_len_str _ _ _ Try.underlying9 rfl),
       st_plain rfl (op_bin _ _ _ _ _ rfl rfl rfl),
       trivial⟩ ?_
      refine pt_then ?_
      refine ht_cond _ rfl (fun hb133 => ?_) (fun hb133 => ?_)
      ·have h := cond_t hb133 h
       refine ht_seq ?_
       refine ht_seqR hn (El := [_, _, _, (2, .v (.bool false))]) (init := [0, 1, 2]) (fin := [3]) (sps := [⟨[], [], [3], [(.slot 2)]⟩]) (es' := [(2, .v (.bool false))]) (by kernel_rfl) rfl rfl
        ⟨st_plain rfl (op_assign _ _ _ _ rfl rfl),
        trivial⟩ ?_
       refine pt_then ?_
       refine ht_ret ?_
       refine pt_r_then ?_
       refine pt_r_in ?_
       refine pt_r_then ?_
       refine pt_r_then ?_
       refine pt_r_in ?_
       refine pt_r_then ?_
       have h := hr128 _ (ho129 _ (Option.some.inj h).symm).symm
       obtain rfl := Option.some.inj h
       exact pt_ret hio rfl (.tmp _ _ .nil) rfl rfl
      ·have h := cond_f hb133 h
       refine ht_skip ?_
       refine pt_then ?_
       refine ht_seq ?_
       refine ht_seqR hn (El := [_, _, _, (4, .v (.int .i64 0))]) (init := [0, 1, 2]) (fin := [0, 1, 3]) (sps := [⟨[], [], [3], [(.slot 4)]⟩]) (es' := [(_, _), (_, _), (4, .v (.int .i64 0))]) (by kernel_rfl) rfl rfl
        ⟨st_plain rfl (op_assign _ _ _ _ rfl rfl),
        trivial⟩ ?_
       refine pt_then ?_
       refine ht_loopS h (fun (s147 : Int) => [(1, .box 24 [.v (.int .i64 p_r.Code), .fl .shr 1 (List.map Value.string p_r.Lines)]), (3, .v (.int .i64 s91)), (4, .v (.int .i64 s147))]) (fun (() : Unit) => [(1, .box 24 [.v (.int .i64 p_r.Code), .fl .shr 1 (List.map Value.string p_r.Lines)]), (3, .v (.int .i64 s91))]) ?_ ?_
       ·rintro ⟨⟩ h
        refine pt_inb ?_
        refine pt_then ?_
        obtain ⟨v55, hv55, h⟩ := bind_some h
        refine ht_seqR hn (El := [_, _, (28, .v (.int .i64 s91)), (29, .v (.int .i64 v55)), (3, .v (.int .i64 v55))]) (init := [0, 1]) (fin := [0, 4]) (sps := [⟨[1], [], [2], [(.slot 28)]⟩, ⟨[2], [], [3], [(.slot 29)]⟩, ⟨[3], [1], [4], [(.slot 3)]⟩]) (es' := [(_, _), (3, .v (.int .i64 v55))]) (by kernel_rfl) rfl rfl
         ⟨st_plain rfl (op_move _ _ _ _ rfl rfl),
         st_plain rfl (op_bin _ _ _ _ _ rfl rfl (ibind (f := Value.int .i64) (Option.some.inj hv55))),
         st_plain rfl (LOp.drop [_] (op_assign _ _ _ _ rfl rfl)),
         trivial⟩ ?_
        exact pt_next _ (Option.some.inj h).symm rfl
       ·rintro u154 hl155 hr156 s147 rr159 h ho157
        refine ht_seq ?_
        refine ht_seq ?_
        obtain ⟨v14, hv14, h⟩ := bind_some h
        obtain ⟨v15, hv15, h⟩ := bind_some h
        refine ht_seqR hn (El := [_, _, _, (37, .v (.int .i64 s147)), (38, .ptr 1 1), (39, .fl .shr 1 (List.map Value.string p_r.Lines)), (40, .v (.int .i64 s91)), (41, .eref (.slot 39) (v14 * 1)), (42, .v (.string v15)), (43, .v (.int .i64 (v15.size : Int))), (44, .v (.bool ((decide (s147 < (v15.size : Int))))))]) (init := [0, 1, 2]) (fin := [0, 1, 2, 10]) (sps := [⟨[2], [], [3], [(.slot 37)]⟩, ⟨[0], [], [4], [(.slot 38)]⟩, ⟨[4, 0], [], [5], [(.slot 39)]⟩, ⟨[1], [], [6], [(.slot 40)]⟩, ⟨[5, 6], [], [7], [(.slot 41)]⟩, ⟨[7, 5], [], [8], [(.slot 42)]⟩, ⟨[8], [], [9], [(.slot 43)]⟩, ⟨[3, 9], [], [10], [(.slot 44)]⟩]) (es' := [(_, _), (_, _), (_, _), (44, .v (.bool ((decide (s147 < (v15.size : Int))))))]) (by kernel_rfl) rfl rfl
         ⟨st_plain rfl (op_move _ _ _ _ rfl rfl),
         st_plain rfl (op_fieldAddr _ _ _ _ 1 0 _ Try.underlying24 rfl sz22 rfl rfl (by decide)),
         st_plain rfl (op_load _ _ _ _ _ _ Try.underlying22 rfl rfl rfl (Nat.le_of_ble_eq_true rfl) rfl rfl rfl),
         st_plain rfl (op_move _ _ _ _ rfl rfl),
         st_plain rfl (op_ix _ _ _ _ _ _ _ _ Try.underlying22 sz9 (by decide) rfl rfl rfl (ix_ok hv14).1 (map_lt (ix_ok hv14).2) rfl),
         st_plain rfl (op_load_e _ _ _ _ _ _ Try.underlying9 rfl rfl rfl (map_get hv15)),
         st_plain rfl (op_len_str _ _ _ Try.underlying9 rfl),
         st_plain rfl (op_bin _ _ _ _ _ rfl rfl rfl),
         trivial⟩ ?_
        refine pt_then ?_
        refine ht_cond _ rfl (fun hb160 => ?_) (fun hb160 => ?_)
        ·have h := cond_t hb160 h
         refine ht_skip ?_
         refine pt_then ?_
         refine ht_seq ?_
         refine ht_block ?_
         refine ht_seq ?_
         refine ht_joinS h (fun (s161 : Bool) => [(1, .box 24 [.v (.int .i64 p_r.Code), .fl .shr 1 (List.map Value.string p_r.Lines)]), (3, .v (.int .i64 s91)), (4, .v (.int .i64 s147)), (64, .v (.bool s161))]) ?_ ?_
         ·rintro s161 h
          refine pt_then ?_
          refine ht_cond _ rfl (fun hb165 => ?_) (fun hb165 => ?_)
          ·have h := cond_t hb165 h
           refine ht_seq ?_
           refine ht_seqR hn (El := [_, _, _, _, (2, .v (.bool false))]) (init := [0, 1, 2, 3]) (fin := [4]) (sps := [⟨[], [], [4], [(.slot 2)]⟩]) (es' := [(2, .v (.bool false))]) (by kernel_rfl) rfl rfl
            ⟨st_plain rfl (op_assign _ _ _ _ rfl rfl),
            trivial⟩ ?_
           refine pt_then ?_
           refine ht_ret ?_
           refine pt_r_in ?_
           refine pt_r_then ?_
           refine pt_r_then ?_
           refine pt_r_in ?_
           refine pt_r_in ?_
           refine pt_r_then ?_
           refine pt_r_then ?_
           refine pt_r_in ?_
           refine pt_r_then ?_
           have h := hr156 _ (ho157 _ (Option.some.inj h).symm).symm
           have h := hr128 _ (ho129 _ (Option.some.inj h).symm).symm
           obtain rfl := Option.some.inj h
           exact pt_ret hio rfl (.tmp _ _ .nil) rfl rfl
          ·have h := cond_f hb165 h
           refine ht_skip ?_
           refine pt_inb ?_
           refine pt_then ?_
           obtain ⟨v28, hv28, h⟩ := bind_some h
           refine ht_seqR hn (El := [_, _, _, _, (45, .v (.int .i64 s147)), (46, .v (.int .i64 v28)), (4, .v (.int .i64 v28))]) (init := [0, 1, 2, 3]) (fin := [0, 1, 6]) (sps := [⟨[2], [], [4], [(.slot 45)]⟩, ⟨[4], [], [5], [(.slot 46)]⟩, ⟨[5], [2], [6], [(.slot 4)]⟩]) (es' := [(_, _), (_, _), (4, .v (.int .i64 v28))]) (by kernel_rfl) rfl rfl
            ⟨st_plain rfl (op_move _ _ _ _ rfl rfl),
            st_plain rfl (op_bin _ _ _ _ _ rfl rfl (ibind (f := Value.int .i64) (Option.some.inj hv28))),
            st_plain rfl (LOp.drop [_] (op_assign _ _ _ _ rfl rfl)),
            trivial⟩ ?_
           exact pt_next _ (Option.some.inj h).symm rfl
         ·intro u162 h hl163 hr164
          obtain ⟨v17, hv17, h⟩ := bind_some h
          obtain ⟨v18, hv18, h⟩ := bind_some h
          obtain ⟨v19, hv19, h⟩ := bind_some h
          refine cond_some h (fun hg11_8 h => ?_) (fun hg11_8 h => ?_)
          ·refine ht_seqR hn (El := (_ :: _ :: _ :: _ :: (47, .ptr 1 1) :: (48, .fl .shr 1 (List.map Value.string p_r.Lines)) :: (49, .v (.int .i64 s91)) :: (50, .eref (.slot 48) (v17 * 1)) :: (51, .v (.string v18)) :: (52, .v (.int .i64 s147)) :: (53, .v (.int .u8 v19)) :: (54, .v (.bool ((decide (v19 < 32))))) :: (55, .v (.bool true)) :: (56, .v undef) :: (57, .v undef) :: (58, .v undef) :: (59, .v undef) :: (60, .v undef) :: (61, .v undef) :: (62, .v undef) :: (63, .v undef) :: (64, .v (.bool true)) :: [])) (init := [0, 1, 2, 3]) (fin := [0, 1, 2, 21]) (sps := (⟨[0], [], [4], [(.slot 47)]⟩ :: ⟨[4, 0], [], [5], [(.slot 48)]⟩ :: ⟨[1], [], [6], [(.slot 49)]⟩ :: ⟨[5, 6], [], [7], [(.slot 50)]⟩ :: ⟨[7, 5], [], [8], [(.slot 51)]⟩ :: ⟨[2], [], [9], [(.slot 52)]⟩ :: ⟨[8, 9], [], [10], [(.slot 53)]⟩ :: ⟨[10], [], [11], [(.slot 54)]⟩ :: ⟨[11], [], [12], [(.slot 55)]⟩ :: ⟨[12], [], [13], [(.slot 56)]⟩ :: ⟨[12], [], [14], [(.slot 57)]⟩ :: ⟨[12], [], [15], [(.slot 58)]⟩ :: ⟨[12], [], [16], [(.slot 59)]⟩ :: ⟨[12], [], [17], [(.slot 60)]⟩ :: ⟨[12], [], [18], [(.slot 61)]⟩ :: ⟨[12], [], [19], [(.slot 62)]⟩ :: ⟨[12], [], [20], [(.slot 63)]⟩ :: ⟨[12], [], [21], [(.slot 64)]⟩ :: [])) (es' := [(_, _), (_, _), (_, _), (64, .v (.bool true))]) (by kernel_rfl) rfl rfl
            ⟨st_plain rfl (op_fieldAddr _ _ _ _ 1 0 _ Try.underlying24 rfl sz22 rfl rfl (by decide)),
            st_plain rfl (op_load _ _ _ _ _ _ Try.underlying22 rfl rfl rfl (Nat.le_of_ble_eq_true rfl) rfl rfl rfl),
            st_plain rfl (op_move _ _ _ _ rfl rfl),
            st_plain rfl (op_ix _ _ _ _ _ _ _ _ Try.underlying22 sz9 (by decide) rfl rfl rfl (ix_ok hv17).1 (map_lt (ix_ok hv17).2) rfl),
            st_plain rfl (op_load_e _ _ _ _ _ _ Try.underlying9 rfl rfl rfl (map_get hv18)),
            st_plain rfl (op_move _ _ _ _ rfl rfl),
            st_plain rfl (op_chr _ _ _ s147 _ Try.underlying9 rfl rfl hv19),
            st_plain rfl (op_bin _ _ _ _ _ rfl rfl rfl),
            st_plain rfl (op_move _ _ _ _ (congrArg (fun b => AV.v (Value.bool b)) hg11_8) rfl),
            st_skip 8 55 _ false rfl rfl rfl rfl (List.Mem.head _),
            st_skip 8 55 _ false rfl rfl rfl rfl (List.Mem.head _),
            st_skip 8 55 _ false rfl rfl rfl rfl (List.Mem.head _),
            st_skip 8 55 _ false rfl rfl rfl rfl (List.Mem.head _),
            st_skip 8 55 _ false rfl rfl rfl rfl (List.Mem.head _),
            st_skip 8 55 _ false rfl rfl rfl rfl (List.Mem.head _),
            st_skip 8 55 _ false rfl rfl rfl rfl (List.Mem.head _),
            st_skip 8 55 _ false rfl rfl rfl rfl (List.Mem.head _),
            st_plain rfl (op_pick _ _ true _ rfl rfl),
            trivial⟩ ?_
           exact hl163 _ (Option.some.inj h).symm
          ·obtain ⟨v20, hv20, h⟩ := bind_some h
           obtain ⟨v21, hv21, h⟩ := bind_some h
           obtain ⟨v22, hv22, h⟩ := bind_some h
           refine ht_seqR hn (El := (_ :: _ :: _ :: _ :: (47, .ptr 1 1) :: (48, .fl .shr 1 (List.map Value.string p_r.Lines)) :: (49, .v (.int .i64 s91)) :: (50, .eref (.slot 48) (v17 * 1)) :: (51, .v (.string v18)) :: (52, .v (.int .i64 s147)) :: (53, .v (.int .u8 v19)) :: (54, .v (.bool ((decide (v19 < 32))))) :: (55, .v (.bool false)) :: (56, .ptr 1 1) :: (57, .fl .shr 1 (List.map Value.string p_r.Lines)) :: (58, .v (.int .i64 s91)) :: (59, .eref (.slot 57) (v20 * 1)) :: (60, .v (.string v21)) :: (61, .v (.int .i64 s147)) :: (62, .v (.int .u8 v22)) :: (63, .v (.bool ((decide (126 < v22))))) :: (64, .v (.bool ((decide (126 < v22))))) :: [])) (init := [0, 1, 2, 3]) (fin := [0, 1, 2, 21]) (sps := (⟨[0], [], [4], [(.slot 47)]⟩ :: ⟨[4, 0], [], [5], [(.slot 48)]⟩ :: ⟨[1], [], [6], [(.slot 49)]⟩ :: ⟨[5, 6], [], [7], [(.slot 50)]⟩ :: ⟨[7, 5], [], [8], [(.slot 51)]⟩ :: ⟨[2], [], [9], [(.slot 52)]⟩ :: ⟨[8, 9], [], [10], [(.slot 53)]⟩ :: ⟨[10], [], [11], [(.slot 54)]⟩ :: ⟨[11], [], [12], [(.slot 55)]⟩ :: ⟨[12, 0], [], [13], [(.slot 56)]⟩ :: ⟨[12, 13, 0], [], [14], [(.slot 57)]⟩ :: ⟨[12, 1], [], [15], [(.slot 58)]⟩ :: ⟨[12, 14, 15], [], [16], [(.slot 59)]⟩ :: ⟨[12, 16, 14], [], [17], [(.slot 60)]⟩ :: ⟨[12, 2], [], [18], [(.slot 61)]⟩ :: ⟨[12, 17, 18], [], [19], [(.slot 62)]⟩ :: ⟨[12, 19], [], [20], [(.slot 63)]⟩ :: ⟨[12, 20], [], [21], [(.slot 64)]⟩ :: [])) (es' := [(_, _), (_, _), (_, _), (64, .v (.bool ((decide (126 < v22)))))]) (by kernel_rfl) rfl rfl
            ⟨st_plain rfl (op_fieldAddr _ _ _ _ 1 0 _ Try.underlying24 rfl sz22 rfl rfl (by decide)),
            st_plain rfl (op_load _ _ _ _ _ _ Try.underlying22 rfl rfl rfl (Nat.le_of_ble_eq_true rfl) rfl rfl rfl),
            st_plain rfl (op_move _ _ _ _ rfl rfl),
            st_plain rfl (op_ix _ _ _ _ _ _ _ _ Try.underlying22 sz9 (by decide) rfl rfl rfl (ix_ok hv17).1 (map_lt (ix_ok hv17).2) rfl),
            st_plain rfl (op_load_e _ _ _ _ _ _ Try.underlying9 rfl rfl rfl (map_get hv18)),
            st_plain rfl (op_move _ _ _ _ rfl rfl),
            st_plain rfl (op_chr _ _ _ s147 _ Try.underlying9 rfl rfl hv19),
            st_plain rfl (op_bin _ _ _ _ _ rfl rfl rfl),
            st_plain rfl (op_move _ _ _ _ (congrArg (fun b => AV.v (Value.bool b)) hg11_8) rfl),
            st_run 8 55 false rfl rfl rfl (List.Mem.head _) (op_fieldAddr _ _ _ _ 1 0 _ Try.underlying24 rfl sz22 rfl rfl (by decide)),
            st_run 8 55 false rfl rfl rfl (List.Mem.head _) (op_load _ _ _ _ _ _ Try.underlying22 rfl rfl rfl (Nat.le_of_ble_eq_true rfl) rfl rfl rfl),
            st_run 8 55 false rfl rfl rfl (List.Mem.head _) (op_move _ _ _ _ rfl rfl),
            st_run 8 55 false rfl rfl rfl (List.Mem.head _) (op_ix _ _ _ _ _ _ _ _ Try.underlying22 sz9 (by decide) rfl rfl rfl (ix_ok hv20).1 (map_lt (ix_ok hv20).2) rfl),
            st_run 8 55 false rfl rfl rfl (List.Mem.head _) (op_load_e _ _ _ _ _ _ Try.underlying9 rfl rfl rfl (map_get hv21)),
            st_run 8 55 false rfl rfl rfl (List.Mem.head _) (op_move _ _ _ _ rfl rfl),
            st_run 8 55 false rfl rfl rfl (List.Mem.head _) (op_chr _ _ _ s147 _ Try.underlying9 rfl rfl hv22),
            st_run 8 55 false rfl rfl rfl (List.Mem.head _) (op_bin _ _ _ _ _ rfl rfl rfl),
            st_plain rfl (op_pick _ _ false _ rfl rfl),
            trivial⟩ ?_
           exact hl163 _ (Option.some.inj h).symm
        ·have h := cond_f hb160 h
         refine ht_exit ?_
         refine pt_x_then ?_
         refine pt_x_then ?_
         refine pt_x_in ?_
         refine pt_pick [0, 1] (by kernel_rfl) (es' := [(_, _), (_, _)]) rfl ?_
         exact hl155 _ (ho157 _ (Option.some.inj h).symm).symm
     ·have h := cond_f hb132 h
      refine ht_exit ?_
      refine pt_x_then ?_
      refine pt_x_then ?_
      refine pt_x_in ?_
      refine pt_pick [] (by kernel_rfl) (es' := []) rfl ?_
      exact hl127 _ (ho129 _ (Option.some.inj h).symm).symm
  ·intro u6 h hl7 hr8
   obtain ⟨v1, hv1, h⟩ := bind_some h
   refine cond_some h (fun hg1_4 h => ?_) (fun hg1_4 h => ?_)
   ·refine ht_seqR hn (El := (_ :: (5, .ptr 1 0) :: (6, .v (.int .i64 p_r.Code)) :: (7, .v (.bool v1)) :: (8, .v (.bool (!v1))) :: (9, .v (.bool true)) :: (10, .v undef) :: (11, .v undef) :: (12, .v undef) :: (13, .v undef) :: (14, .v undef) :: (15, .v (.bool true)) :: (16, .v (.bool true)) :: (17, .v undef) :: (18, .v undef) :: (19, .v undef) :: (20, .v undef) :: (21, .v undef) :: (22, .v (.bool true)) :: [])) (init := [0]) (fin := [0, 18]) (sps := (⟨[0], [], [1], [(.slot 5)]⟩ :: ⟨[1, 0], [], [2], [(.slot 6)]⟩ :: ⟨[2], [], [3], [(.slot 7)]⟩ :: ⟨[3], [], [4], [(.slot 8)]⟩ :: ⟨[4], [], [5], [(.slot 9)]⟩ :: ⟨[5], [], [6], [(.slot 10)]⟩ :: ⟨[5], [], [7], [(.slot 11)]⟩ :: ⟨[5], [], [8], [(.slot 12)]⟩ :: ⟨[5], [], [9], [(.slot 13)]⟩ :: ⟨[5], [], [10], [(.slot 14)]⟩ :: ⟨[5], [], [11], [(.slot 15)]⟩ :: ⟨[11], [], [12], [(.slot 16)]⟩ :: ⟨[12], [], [13], [(.slot 17)]⟩ :: ⟨[12], [], [14], [(.slot 18)]⟩ :: ⟨[12], [], [15], [(.slot 19)]⟩ :: ⟨[12], [], [16], [(.slot 20)]⟩ :: ⟨[12], [], [17], [(.slot 21)]⟩ :: ⟨[12], [], [18], [(.slot 22)]⟩ :: [])) (es' := [(_, _), (22, .v (.bool true))]) (by kernel_rfl) rfl rfl
     ⟨st_plain rfl (op_fieldAddr _ _ _ _ 1 0 _ Try.underlying24 rfl sz3 rfl rfl (by decide)),
     st_plain rfl (op_load _ _ _ _ _ _ Try.underlying3 rfl rfl rfl (Nat.le_of_ble_eq_true rfl) rfl rfl rfl),
     st_plain rfl (op_call _ _ 25 _ _ rfl Try.call25 rfl (ok_wherryref11_in p_r.Code 200 559 _ hv1) rfl rfl),
     st_plain rfl (op_un _ _ _ _ rfl rfl),
     st_plain rfl (op_move _ _ _ _ (congrArg (fun b => AV.v (Value.bool b)) hg1_4) rfl),
     st_skip 4 9 _ false rfl rfl rfl rfl (List.Mem.head _),
     st_skip 4 9 _ false rfl rfl rfl rfl (List.Mem.head _),
     st_skip 4 9 _ false rfl rfl rfl rfl (List.Mem.head _),
     st_skip 4 9 _ false rfl rfl rfl rfl (List.Mem.head _),
     st_skip 4 9 _ false rfl rfl rfl rfl (List.Mem.head _),
     st_plain rfl (op_pick _ _ true _ rfl rfl),
     st_plain rfl (op_move _ _ _ _ rfl rfl),
     st_skip 11 16 _ false rfl rfl rfl rfl (List.Mem.head _),
     st_skip 11 16 _ false rfl rfl rfl rfl (List.Mem.head _),
     st_skip 11 16 _ false rfl rfl rfl rfl (List.Mem.head _),
     st_skip 11 16 _ false rfl rfl rfl rfl (List.Mem.head _),
     st_skip 11 16 _ false rfl rfl rfl rfl (List.Mem.head _),
     st_plain rfl (op_pick _ _ true _ rfl rfl),
     trivial⟩ ?_
    exact hl7 _ (Option.some.inj h).symm
   ·obtain ⟨v2, hv2, h⟩ := bind_some h
    obtain ⟨v3, hv3, h⟩ := bind_some h
    refine cond_some h (fun hg1_11 h => ?_) (fun hg1_11 h => ?_)
    ·refine ht_seqR hn (El := (_ :: (5, .ptr 1 0) :: (6, .v (.int .i64 p_r.Code)) :: (7, .v (.bool v1)) :: (8, .v (.bool (!v1))) :: (9, .v (.bool false)) :: (10, .ptr 1 0) :: (11, .v (.int .i64 p_r.Code)) :: (12, .v (.int .i64 v2)) :: (13, .v (.int .i64 v3)) :: (14, .v (.bool ((decide (5 < v3))))) :: (15, .v (.bool ((decide (5 < v3))))) :: (16, .v (.bool true)) :: (17, .v undef) :: (18, .v undef) :: (19, .v undef) :: (20, .v undef) :: (21, .v undef) :: (22, .v (.bool true)) :: [])) (init := [0]) (fin := [0, 18]) (sps := (⟨[0], [], [1], [(.slot 5)]⟩ :: ⟨[1, 0], [], [2], [(.slot 6)]⟩ :: ⟨[2], [], [3], [(.slot 7)]⟩ :: ⟨[3], [], [4], [(.slot 8)]⟩ :: ⟨[4], [], [5], [(.slot 9)]⟩ :: ⟨[5, 0], [], [6], [(.slot 10)]⟩ :: ⟨[5, 6, 0], [], [7], [(.slot 11)]⟩ :: ⟨[5, 7], [], [8], [(.slot 12)]⟩ :: ⟨[5, 8], [], [9], [(.slot 13)]⟩ :: ⟨[5, 9], [], [10], [(.slot 14)]⟩ :: ⟨[5, 10], [], [11], [(.slot 15)]⟩ :: ⟨[11], [], [12], [(.slot 16)]⟩ :: ⟨[12], [], [13], [(.slot 17)]⟩ :: ⟨[12], [], [14], [(.slot 18)]⟩ :: ⟨[12], [], [15], [(.slot 19)]⟩ :: ⟨[12], [], [16], [(.slot 20)]⟩ :: ⟨[12], [], [17], [(.slot 21)]⟩ :: ⟨[12], [], [18], [(.slot 22)]⟩ :: [])) (es' := [(_, _), (22, .v (.bool true))]) (by kernel_rfl) rfl rfl
      ⟨st_plain rfl (op_fieldAddr _ _ _ _ 1 0 _ Try.underlying24 rfl sz3 rfl rfl (by decide)),
      st_plain rfl (op_load _ _ _ _ _ _ Try.underlying3 rfl rfl rfl (Nat.le_of_ble_eq_true rfl) rfl rfl rfl),
      st_plain rfl (op_call _ _ 25 _ _ rfl Try.call25 rfl (ok_wherryref11_in p_r.Code 200 559 _ hv1) rfl rfl),
      st_plain rfl (op_un _ _ _ _ rfl rfl),
      st_plain rfl (op_move _ _ _ _ (congrArg (fun b => AV.v (Value.bool b)) hg1_4) rfl),
      st_run 4 9 false rfl rfl rfl (List.Mem.head _) (op_fieldAddr _ _ _ _ 1 0 _ Try.underlying24 rfl sz3 rfl rfl (by decide)),
      st_run 4 9 false rfl rfl rfl (List.Mem.head _) (op_load _ _ _ _ _ _ Try.underlying3 rfl rfl rfl (Nat.le_of_ble_eq_true rfl) rfl rfl rfl),
      st_run 4 9 false rfl rfl rfl (List.Mem.head _) (op_bin _ _ _ _ _ rfl rfl (quo_ok hv2)),
      st_run 4 9 false rfl rfl rfl (List.Mem.head _) (op_bin _ _ _ _ _ rfl rfl (rem_ok hv3)),
      st_run 4 9 false rfl rfl rfl (List.Mem.head _) (op_bin _ _ _ _ _ rfl rfl rfl),
      st_plain rfl (op_pick _ _ false _ rfl rfl),
      st_plain rfl (op_move _ _ _ _ (congrArg (fun b => AV.v (Value.bool b)) hg1_11) rfl),
      st_skip 11 16 _ false rfl rfl rfl rfl (List.Mem.head _),
      st_skip 11 16 _ false rfl rfl rfl rfl (List.Mem.head _),
      st_skip 11 16 _ false rfl rfl rfl rfl (List.Mem.head _),
      st_skip 11 16 _ false rfl rfl rfl rfl (List.Mem.head _),
      st_skip 11 16 _ false rfl rfl rfl rfl (List.Mem.head _),
      st_plain rfl (op_pick _ _ true _ rfl rfl),
      trivial⟩ ?_
     exact hl7 _ (Option.some.inj h).symm
    ·obtain ⟨v4, hv4, h⟩ := bind_some h
     refine ht_seqR hn (El := (_ :: (5, .ptr 1 0) :: (6, .v (.int .i64 p_r.Code)) :: (7, .v (.bool v1)) :: (8, .v (.bool (!v1))) :: (9, .v (.bool false)) :: (10, .ptr 1 0) :: (11, .v (.int .i64 p_r.Code)) :: (12, .v (.int .i64 v2)) :: (13, .v (.int .i64 v3)) :: (14, .v (.bool ((decide (5 < v3))))) :: (15, .v (.bool ((decide (5 < v3))))) :: (16, .v (.bool false)) :: (17, .ptr 1 1) :: (18, .fl .shr 1 (List.map Value.string p_r.Lines)) :: (19, .v (.int .i64 (p_r.Lines.length : Int))) :: (20, .v (.bool v4)) :: (21, .v (.bool (!v4))) :: (22, .v (.bool (!v4))) :: [])) (init := [0]) (fin := [0, 18]) (sps := (⟨[0], [], [1], [(.slot 5)]⟩ :: ⟨[1, 0], [], [2], [(.slot 6)]⟩ :: ⟨[2], [], [3], [(.slot 7)]⟩ :: ⟨[3], [], [4], [(.slot 8)]⟩ :: ⟨[4], [], [5], [(.slot 9)]⟩ :: ⟨[5, 0], [], [6], [(.slot 10)]⟩ :: ⟨[5, 6, 0], [], [7], [(.slot 11)]⟩ :: ⟨[5, 7], [], [8], [(.slot 12)]⟩ :: ⟨[5, 8], [], [9], [(.slot 13)]⟩ :: ⟨[5, 9], [], [10], [(.slot 14)]⟩ :: ⟨[5, 10], [], [11], [(.slot 15)]⟩ :: ⟨[11], [], [12], [(.slot 16)]⟩ :: ⟨[12, 0], [], [13], [(.slot 17)]⟩ :: ⟨[12, 13, 0], [], [14], [(.slot 18)]⟩ :: ⟨[12, 14], [], [15], [(.slot 19)]⟩ :: ⟨[12, 15], [], [16], [(.slot 20)]⟩ :: ⟨[12, 16], [], [17], [(.slot 21)]⟩ :: ⟨[12, 17], [], [18], [(.slot 22)]⟩ :: [])) (es' := [(_, _), (22, .v (.bool (!v4)))]) (by kernel_rfl) rfl rfl
      ⟨st_plain rfl (op_fieldAddr _ _ _ _ 1 0 _ Try.underlying24 rfl sz3 rfl rfl (by decide)),
      st_plain rfl (op_load _ _ _ _ _ _ Try.underlying3 rfl rfl rfl (Nat.le_of_ble_eq_true rfl) rfl rfl rfl),
      st_plain rfl (op_call _ _ 25 _ _ rfl Try.call25 rfl (ok_wherryref11_in p_r.Code 200 559 _ hv1) rfl rfl),
      st_plain rfl (op_un _ _ _ _ rfl rfl),
      st_plain rfl (op_move _ _ _ _ (congrArg (fun b => AV.v (Value.bool b)) hg1_4) rfl),
      st_run 4 9 false rfl rfl rfl (List.Mem.head _) (op_fieldAddr _ _ _ _ 1 0 _ Try.underlying24 rfl sz3 rfl rfl (by decide)),
      st_run 4 9 false rfl rfl rfl (List.Mem.head _) (op_load _ _ _ _ _ _ Try.underlying3 rfl rfl rfl (Nat.le_of_ble_eq_true rfl) rfl rfl rfl),
      st_run 4 9 false rfl rfl rfl (List.Mem.head _) (op_bin _ _ _ _ _ rfl rfl (quo_ok hv2)),
      st_run 4 9 false rfl rfl rfl (List.Mem.head _) (op_bin _ _ _ _ _ rfl rfl (rem_ok hv3)),
      st_run 4 9 false rfl rfl rfl (List.Mem.head _) (op_bin _ _ _ _ _ rfl rfl rfl),
      st_plain rfl (op_pick _ _ false _ rfl rfl),
      st_plain rfl (op_move _ _ _ _ (congrArg (fun b => AV.v (Value.bool b)) hg1_11) rfl),
      st_run 11 16 false rfl rfl rfl (List.Mem.head _) (op_fieldAddr _ _ _ _ 1 0 _ Try.underlying24 rfl sz22 rfl rfl (by decide)),
      st_run 11 16 false rfl rfl rfl (List.Mem.head _) (op_load _ _ _ _ _ _ Try.underlying22 rfl rfl rfl (Nat.le_of_ble_eq_true rfl) rfl rfl rfl),
      st_run 11 16 false rfl rfl rfl (List.Mem.head _) (op_len_fl _ _ _ Try.underlying22 rfl (by decide) (map_len _)),
      st_run 11 16 false rfl rfl rfl (List.Mem.head _) (op_call _ _ 25 _ _ rfl Try.call25 rfl (ok_wherryref11_in (p_r.Lines.length : Int) 1 20 _ hv4) rfl rfl),
      st_run 11 16 false rfl rfl rfl (List.Mem.head _) (op_un _ _ _ _ rfl rfl),
      st_plain rfl (op_pick _ _ false _ rfl rfl),
      trivial⟩ ?_
     exact hl7 _ (Option.some.inj h).symm

end Go.Proofs.Ytegjndibgnnpcaa
