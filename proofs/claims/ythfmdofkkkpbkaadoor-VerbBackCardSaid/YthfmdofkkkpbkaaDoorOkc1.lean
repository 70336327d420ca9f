/-
  The model's runs are what is told in Lean.
-/
import Derived.Test.YthfmdofkkkpbkaaDoorProg
import Derived.KernelRfl
import Derived.Test.YthfmdofkkkpbkaaDoorShelf
import Derived.Test.YthfmdofkkkpbkaaDoorSh
set_option linter.unusedVariables false
set_option linter.unusedSimpArgs false
namespace Go.Proofs.YthfmdofkkkpbkaaDoor
open Go.Abs Go.Abs.Sh

def GL (mx : Int) : List (Nat × List Value) := []
theorem sz26 : (Tryd.prog.info? 26).map (·.size) = some 6 := by kernel_rfl
theorem sz9 : (Tryd.prog.info? 9).map (·.size) = some 1 := by kernel_rfl
theorem sz23 : (Tryd.prog.info? 23).map (·.size) = some 3 := by kernel_rfl
theorem sz24 : (Tryd.prog.info? 24).map (·.size) = some 1 := by kernel_rfl
theorem sz46 : (Tryd.prog.info? 46).map (·.size) = some 2 := by kernel_rfl
theorem sz3 : (Tryd.prog.info? 3).map (·.size) = some 1 := by kernel_rfl
theorem fs23 : ∀ fs, Tryd.prog.underlying 23 = some (.struct fs) → fs.toList.map (fun f => (Tryd.prog.info? f.type).map (·.size)) = ([1, 1, 1] : List Nat).map some := by
  intro fs h
  rw [Tryd.underlying23] at h
  cases h
  kernel_rfl
theorem zr23 : (Tryd.prog.info? 23).bind (·.zero) = some (.agg #[.bool false, .string ByteArray.empty, .string ByteArray.empty]) := by kernel_rfl
theorem sz4 : (Tryd.prog.info? 4).map (·.size) = some 1 := by kernel_rfl
theorem zr4 : (Tryd.prog.info? 4).bind (·.zero) = some (.bool false) := by kernel_rfl
theorem zr59 : (Tryd.prog.info? 59).bind (·.zero) = some (.agg #[.pointer none, .slice none 0 0]) := by kernel_rfl
theorem sz37 : (Tryd.prog.info? 37).map (·.size) = some 1 := by kernel_rfl
theorem el37 : ElemT Tryd.prog 37 5 1 1 := ⟨⟨Tryd.t5, .int .u8 0, Tryd.underlying37, by kernel_rfl, by kernel_rfl, by kernel_rfl, by kernel_rfl, by decide, by kernel_rfl⟩⟩
theorem sz5 : (Tryd.prog.info? 5).map (·.size) = some 1 := by kernel_rfl
theorem zr5 : (Tryd.prog.info? 5).bind (·.zero) = some (.int .u8 0) := by kernel_rfl
theorem zr46 : (Tryd.prog.info? 46).bind (·.zero) = some (.agg #[.string ByteArray.empty, .string ByteArray.empty]) := by kernel_rfl
theorem zr26 : (Tryd.prog.info? 26).bind (·.zero) = some (.agg #[.int .i64 0, .string ByteArray.empty, .bool false, .string ByteArray.empty, .string ByteArray.empty, .slice none 0 0]) := by kernel_rfl
theorem fs26 : ∀ fs, Tryd.prog.underlying 26 = some (.struct fs) → fs.toList.map (fun f => (Tryd.prog.info? f.type).map (·.size)) = ([1, 1, 3, 1] : List Nat).map some := by
  intro fs h
  rw [Tryd.underlying26] at h
  cases h
  kernel_rfl
theorem zr24 : (Tryd.prog.info? 24).bind (·.zero) = some (.slice none 0 0) := by kernel_rfl
theorem fs46 : ∀ fs, Tryd.prog.underlying 46 = some (.struct fs) → fs.toList.map (fun f => (Tryd.prog.info? f.type).map (·.size)) = ([1, 1] : List Nat).map some := by
  intro fs h
  rw [Tryd.underlying46] at h
  cases h
  kernel_rfl
theorem zr9 : (Tryd.prog.info? 9).bind (·.zero) = some (.string ByteArray.empty) := by kernel_rfl
theorem el24 : ElemT Tryd.prog 24 46 2 32 := ⟨⟨Tryd.t46, .agg #[.string ByteArray.empty, .string ByteArray.empty], Tryd.underlying24, by kernel_rfl, by kernel_rfl, by kernel_rfl, by kernel_rfl, by decide, by kernel_rfl⟩⟩

set_option maxHeartbeats 1000000 in
theorem ok_wherrylaw12_heavy (c : T_Cmd) (r : Bool) (h : Sh.wherrylaw12_heavy c = some r) : FnOK Tryd.prog 8 [.agg [.v (.int .i64 c.Kind), .v (.string c.Text), .v (.bool c.Path.Null), .v (.string c.Path.Local), .v (.string c.Path.Domain), .fl .shr 2 (List.flatten (List.map T_Param.enc c.Params))]] (.v (.bool r)) := by
  unfold Sh.wherrylaw12_heavy at h
  refine fn_ok Tryd.func8 rfl (Nat.le_of_ble_eq_true rfl) rfl rfl fun g0 hn hio => ?_
  refine ht_seq ?_
  refine ht_seqR hn (El := [_, (1, .box 26 [.v (.int .i64 c.Kind), .v (.string c.Text), .v (.bool c.Path.Null), .v (.string c.Path.Local), .v (.string c.Path.Domain), .fl .shr 2 (List.flatten (List.map T_Param.enc c.Params))]), (2, .v (.bool false))]) (init := [0]) (fin := [1]) (sps := [⟨[0], [], [1], [(.slot 1)]⟩, ⟨[], [], [2], [(.slot 2)]⟩]) (es' := [(1, .box 26 [.v (.int .i64 c.Kind), .v (.string c.Text), .v (.bool c.Path.Null), .v (.string c.Path.Local), .v (.string c.Path.Domain), .fl .shr 2 (List.flatten (List.map T_Param.enc c.Params))])]) (by kernel_rfl) rfl rfl
   ⟨st_plain rfl (op_box _ _ _ _ rfl rfl rfl),
   st_plain rfl (op_assign _ _ _ _ rfl rfl),
   trivial⟩ ?_
  refine pt_then ?_
  refine ht_seq ?_
  obtain ⟨v1, hv1, h⟩ := bind_some h
  obtain ⟨v2, hv2, h⟩ := bind_some h
  refine ht_seqR hn (El := (_ :: (5, .ptr 1 1) :: (6, .v (.string c.Text)) :: (7, .v (.int .i64 (c.Text.size : Int))) :: (8, .ptr 1 2) :: (9, .ptr 1 3) :: (10, .v (.string c.Path.Local)) :: (11, .v (.int .i64 (c.Path.Local.size : Int))) :: (12, .v (.int .i64 v1)) :: (13, .ptr 1 2) :: (14, .ptr 1 4) :: (15, .v (.string c.Path.Domain)) :: (16, .v (.int .i64 (c.Path.Domain.size : Int))) :: (17, .v (.int .i64 v2)) :: (3, .v (.int .i64 v2)) :: [])) (init := [0]) (fin := [0, 14]) (sps := [⟨[0], [], [1], [(.slot 5)]⟩, ⟨[1, 0], [], [2], [(.slot 6)]⟩, ⟨[2], [], [3], [(.slot 7)]⟩, ⟨[0], [], [4], [(.slot 8)]⟩, ⟨[4, 0], [], [5], [(.slot 9)]⟩, ⟨[5, 0], [], [6], [(.slot 10)]⟩, ⟨[6], [], [7], [(.slot 11)]⟩, ⟨[3, 7], [], [8], [(.slot 12)]⟩, ⟨[0], [], [9], [(.slot 13)]⟩, ⟨[9, 0], [], [10], [(.slot 14)]⟩, ⟨[10, 0], [], [11], [(.slot 15)]⟩, ⟨[11], [], [12], [(.slot 16)]⟩, ⟨[8, 12], [], [13], [(.slot 17)]⟩, ⟨[13], [], [14], [(.slot 3)]⟩]) (es' := [(_, _), (3, .v (.int .i64 v2))]) (by kernel_rfl) rfl rfl
   ⟨st_plain rfl (op_fieldAddr _ _ _ _ 1 0 _ Tryd.underlying26 rfl sz9 rfl rfl (by decide)),
   st_plain rfl (op_load _ _ _ _ _ _ Tryd.underlying9 rfl rfl rfl (Nat.le_of_ble_eq_true rfl) rfl rfl rfl),
   st_plain rfl (op_len_str _ _ _ Tryd.underlying9 rfl),
   st_plain rfl (op_fieldAddr _ _ _ _ 1 0 _ Tryd.underlying26 rfl sz23 rfl rfl (by decide)),
   st_plain rfl (op_fieldAddr _ _ _ _ 1 2 _ Tryd.underlying23 rfl sz9 rfl rfl (by decide)),
   st_plain rfl (op_load _ _ _ _ _ _ Tryd.underlying9 rfl rfl rfl (Nat.le_of_ble_eq_true rfl) rfl rfl rfl),
   st_plain rfl (op_len_str _ _ _ Tryd.underlying9 rfl),
   st_plain rfl (op_bin _ _ _ _ _ rfl rfl (ibind (f := Value.int .i64) (Option.some.inj hv1))),
   st_plain rfl (op_fieldAddr _ _ _ _ 1 0 _ Tryd.underlying26 rfl sz23 rfl rfl (by decide)),
   st_plain rfl (op_fieldAddr _ _ _ _ 1 2 _ Tryd.underlying23 rfl sz9 rfl rfl (by decide)),
   st_plain rfl (op_load _ _ _ _ _ _ Tryd.underlying9 rfl rfl rfl (Nat.le_of_ble_eq_true rfl) rfl rfl rfl),
   st_plain rfl (op_len_str _ _ _ Tryd.underlying9 rfl),
   st_plain rfl (op_bin _ _ _ _ _ rfl rfl (ibind (f := Value.int .i64) (Option.some.inj hv2))),
   st_plain rfl (op_assign _ _ _ _ rfl rfl),
   trivial⟩ ?_
  refine pt_then ?_
  refine ht_seq ?_
  refine ht_seq ?_
  refine ht_seqR hn (El := [_, _, (4, .v (.int .i64 0))]) (init := [0, 1]) (fin := [0, 1, 2]) (sps := [⟨[], [], [2], [(.slot 4)]⟩]) (es' := [(_, _), (_, _), (4, .v (.int .i64 0))]) (by kernel_rfl) rfl rfl
   ⟨st_plain rfl (op_assign _ _ _ _ rfl rfl),
   trivial⟩ ?_
  refine pt_then ?_
  refine ht_loopS h (fun ((s14, s15) : Int × Int) => [(1, .box 26 [.v (.int .i64 c.Kind), .v (.string c.Text), .v (.bool c.Path.Null), .v (.string c.Path.Local), .v (.string c.Path.Domain), .fl .shr 2 (List.flatten (List.map T_Param.enc c.Params))]), (3, .v (.int .i64 s14)), (4, .v (.int .i64 s15))]) (fun (s17 : Int) => [(1, .box 26 [.v (.int .i64 c.Kind), .v (.string c.Text), .v (.bool c.Path.Null), .v (.string c.Path.Local), .v (.string c.Path.Domain), .fl .shr 2 (List.flatten (List.map T_Param.enc c.Params))]), (3, .v (.int .i64 s17))]) ?_ ?_
  ·rintro s17 h
   refine pt_then ?_
   refine ht_seq ?_
   refine ht_joinS h (fun (s25 : Bool) => [(2, .v (.bool s25))]) ?_ ?_
   ·rintro s25 h
    refine pt_then ?_
    refine ht_ret ?_
    obtain rfl := Option.some.inj h
    exact pt_ret hio rfl (.tmp _ _ .nil) rfl rfl
   ·intro u26 h hl27 hr28
    refine cond_some h (fun hg6_2 h => ?_) (fun hg6_2 h => ?_)
    ·refine ht_seqR hn (El := [_, _, (42, .v (.int .i64 s17)), (43, .v (.bool ((decide (3000 < s17))))), (44, .v (.bool true)), (45, .v undef), (46, .v undef), (47, .v undef), (48, .v undef), (49, .v (.bool true)), (2, .v (.bool true))]) (init := [0, 1]) (fin := [10]) (sps := [⟨[1], [], [2], [(.slot 42)]⟩, ⟨[2], [], [3], [(.slot 43)]⟩, ⟨[3], [], [4], [(.slot 44)]⟩, ⟨[4], [], [5], [(.slot 45)]⟩, ⟨[4], [], [6], [(.slot 46)]⟩, ⟨[4], [], [7], [(.slot 47)]⟩, ⟨[4], [], [8], [(.slot 48)]⟩, ⟨[4], [], [9], [(.slot 49)]⟩, ⟨[9], [], [10], [(.slot 2)]⟩]) (es' := [(2, .v (.bool true))]) (by kernel_rfl) rfl rfl
      ⟨st_plain rfl (op_move _ _ _ _ rfl rfl),
      st_plain rfl (op_bin _ _ _ _ _ rfl rfl rfl),
      st_plain rfl (op_move _ _ _ _ (congrArg (fun b => AV.v (Value.bool b)) hg6_2) rfl),
      st_skip 2 44 _ false rfl rfl rfl rfl (List.Mem.head _),
      st_skip 2 44 _ false rfl rfl rfl rfl (List.Mem.head _),
      st_skip 2 44 _ false rfl rfl rfl rfl (List.Mem.head _),
      st_skip 2 44 _ false rfl rfl rfl rfl (List.Mem.head _),
      st_plain rfl (op_pick _ _ true _ rfl rfl),
      st_plain rfl (op_assign _ _ _ _ rfl rfl),
      trivial⟩ ?_
     exact hl27 _ (Option.some.inj h).symm
    ·refine ht_seqR hn (El := [_, _, (42, .v (.int .i64 s17)), (43, .v (.bool ((decide (3000 < s17))))), (44, .v (.bool false)), (45, .ptr 1 5), (46, .fl .shr 2 (List.flatten (List.map T_Param.enc c.Params))), (47, .v (.int .i64 (c.Params.length : Int))), (48, .v (.bool ((decide (20 < (c.Params.length : Int)))))), (49, .v (.bool ((decide (20 < (c.Params.length : Int)))))), (2, .v (.bool ((decide (20 < (c.Params.length : Int))))))]) (init := [0, 1]) (fin := [10]) (sps := [⟨[1], [], [2], [(.slot 42)]⟩, ⟨[2], [], [3], [(.slot 43)]⟩, ⟨[3], [], [4], [(.slot 44)]⟩, ⟨[4, 0], [], [5], [(.slot 45)]⟩, ⟨[4, 5, 0], [], [6], [(.slot 46)]⟩, ⟨[4, 6], [], [7], [(.slot 47)]⟩, ⟨[4, 7], [], [8], [(.slot 48)]⟩, ⟨[4, 8], [], [9], [(.slot 49)]⟩, ⟨[9], [], [10], [(.slot 2)]⟩]) (es' := [(2, .v (.bool ((decide (20 < (c.Params.length : Int))))))]) (by kernel_rfl) rfl rfl
      ⟨st_plain rfl (op_move _ _ _ _ rfl rfl),
      st_plain rfl (op_bin _ _ _ _ _ rfl rfl rfl),
      st_plain rfl (op_move _ _ _ _ (congrArg (fun b => AV.v (Value.bool b)) hg6_2) rfl),
      st_run 2 44 false rfl rfl rfl (List.Mem.head _) (op_fieldAddr _ _ _ _ 1 0 _ Tryd.underlying26 rfl sz24 rfl rfl (by decide)),
      st_run 2 44 false rfl rfl rfl (List.Mem.head _) (op_load _ _ _ _ _ _ Tryd.underlying24 rfl rfl rfl (Nat.le_of_ble_eq_true rfl) rfl rfl rfl),
      st_run 2 44 false rfl rfl rfl (List.Mem.head _) (op_len_fl _ _ _ Tryd.underlying24 rfl (by decide) (flat_len T_Param.len _)),
      st_run 2 44 false rfl rfl rfl (List.Mem.head _) (op_bin _ _ _ _ _ rfl rfl rfl),
      st_plain rfl (op_pick _ _ false _ rfl rfl),
      st_plain rfl (op_assign _ _ _ _ rfl rfl),
      trivial⟩ ?_
     exact hl27 _ (Option.some.inj h).symm
  ·rintro u18 hl19 hr20 ⟨s14, s15⟩ rr23 h ho21
   refine ht_seq ?_
   refine ht_seq ?_
   refine ht_seqR hn (El := [_, _, _, (18, .v (.int .i64 s15)), (19, .ptr 1 5), (20, .fl .shr 2 (List.flatten (List.map T_Param.enc c.Params))), (21, .v (.int .i64 (c.Params.length : Int))), (22, .v (.bool ((decide (s15 < (c.Params.length : Int))))))]) (init := [0, 1, 2]) (fin := [0, 1, 2, 7]) (sps := [⟨[2], [], [3], [(.slot 18)]⟩, ⟨[0], [], [4], [(.slot 19)]⟩, ⟨[4, 0], [], [5], [(.slot 20)]⟩, ⟨[5], [], [6], [(.slot 21)]⟩, ⟨[3, 6], [], [7], [(.slot 22)]⟩]) (es' := [(_, _), (_, _), (_, _), (22, .v (.bool ((decide (s15 < (c.Params.length : Int))))))]) (by kernel_rfl) rfl rfl
    ⟨st_plain rfl (op_move _ _ _ _ rfl rfl),
    st_plain rfl (op_fieldAddr _ _ _ _ 1 0 _ Tryd.underlying26 rfl sz24 rfl rfl (by decide)),
    st_plain rfl (op_load _ _ _ _ _ _ Tryd.underlying24 rfl rfl rfl (Nat.le_of_ble_eq_true rfl) rfl rfl rfl),
    st_plain rfl (op_len_fl _ _ _ Tryd.underlying24 rfl (by decide) (flat_len T_Param.len _)),
    st_plain rfl (op_bin _ _ _ _ _ rfl rfl rfl),
    trivial⟩ ?_
   refine pt_then ?_
   refine ht_cond _ rfl (fun hb24 => ?_) (fun hb24 => ?_)
   ·have h := cond_t hb24 h
    refine ht_skip ?_
    refine pt_then ?_
    refine ht_seq ?_
    refine ht_block ?_
    obtain ⟨v4, hv4, h⟩ := bind_some h
    obtain ⟨v5, hv5, h⟩ := bind_some h
    obtain ⟨v6, hv6, h⟩ := bind_some h
    obtain ⟨v7, hv7, h⟩ := bind_some h
    obtain ⟨v8, hv8, h⟩ := bind_some h
    obtain ⟨v9, hv9, h⟩ := bind_some h
    refine ht_anyR (by kernel_rfl) hn (El := (_ :: _ :: _ :: _ :: (25, .v (.int .i64 s14)) :: (26, .ptr 1 5) :: (27, .fl .shr 2 (List.flatten (List.map T_Param.enc c.Params))) :: (28, .v (.int .i64 s15)) :: (29, .eref (.slot 27) (v4 * 2)) :: (30, .eref (.slot 27) (v4 * 2 + 0)) :: (31, .v (.string v5.Key)) :: (32, .v (.int .i64 (v5.Key.size : Int))) :: (33, .v (.int .i64 v6)) :: (34, .ptr 1 5) :: (35, .fl .shr 2 (List.flatten (List.map T_Param.enc c.Params))) :: (36, .v (.int .i64 s15)) :: (37, .eref (.slot 35) (v7 * 2)) :: (38, .eref (.slot 35) (v7 * 2 + 1)) :: (39, .v (.string v8.Val)) :: (40, .v (.int .i64 (v8.Val.size : Int))) :: (41, .v (.int .i64 v9)) :: (3, .v (.int .i64 v9)) :: [])) (init := [0, 1, 2, 3]) (fin := [0, 2, 21]) (sps := (⟨[1], [], [4], [(.slot 25)]⟩ :: ⟨[0], [], [5], [(.slot 26)]⟩ :: ⟨[5, 0], [], [6], [(.slot 27)]⟩ :: ⟨[2], [], [7], [(.slot 28)]⟩ :: ⟨[6, 7], [], [8], [(.slot 29)]⟩ :: ⟨[8, 6], [], [9], [(.slot 30)]⟩ :: ⟨[9, 6], [], [10], [(.slot 31)]⟩ :: ⟨[10], [], [11], [(.slot 32)]⟩ :: ⟨[4, 11], [], [12], [(.slot 33)]⟩ :: ⟨[0], [], [13], [(.slot 34)]⟩ :: ⟨[13, 0], [], [14], [(.slot 35)]⟩ :: ⟨[2], [], [15], [(.slot 36)]⟩ :: ⟨[14, 15], [], [16], [(.slot 37)]⟩ :: ⟨[16, 14], [], [17], [(.slot 38)]⟩ :: ⟨[17, 14], [], [18], [(.slot 39)]⟩ :: ⟨[18], [], [19], [(.slot 40)]⟩ :: ⟨[12, 19], [], [20], [(.slot 41)]⟩ :: ⟨[20], [1], [21], [(.slot 3)]⟩ :: [])) (es' := [(_, _), (_, _), (3, .v (.int .i64 v9))]) (by kernel_rfl) rfl rfl
     ⟨st_plain rfl (op_move _ _ _ _ rfl rfl),
     st_plain rfl (op_fieldAddr _ _ _ _ 1 0 _ Tryd.underlying26 rfl sz24 rfl rfl (by decide)),
     st_plain rfl (op_load _ _ _ _ _ _ Tryd.underlying24 rfl rfl rfl (Nat.le_of_ble_eq_true rfl) rfl rfl rfl),
     st_plain rfl (op_move _ _ _ _ rfl rfl),
     st_plain rfl (op_ix _ _ _ _ _ _ _ _ Tryd.underlying24 sz46 (by decide) rfl rfl rfl (ix_ok hv4).1 (flat_lt T_Param.len (ix_ok hv4).2) rfl),
     st_plain rfl (op_fieldAddr_e _ _ _ _ _ _ _ Tryd.underlying46 rfl sz9 rfl rfl rfl),
     st_plain rfl (op_load_e _ _ _ _ _ _ Tryd.underlying9 rfl rfl rfl (flat_cell T_Param.len hv5 rfl)),
     st_plain rfl (op_len_str _ _ _ Tryd.underlying9 rfl),
     st_plain rfl (op_bin _ _ _ _ _ rfl rfl (ibind (f := Value.int .i64) (Option.some.inj hv6))),
     st_plain rfl (op_fieldAddr _ _ _ _ 1 0 _ Tryd.underlying26 rfl sz24 rfl rfl (by decide)),
     st_plain rfl (op_load _ _ _ _ _ _ Tryd.underlying24 rfl rfl rfl (Nat.le_of_ble_eq_true rfl) rfl rfl rfl),
     st_plain rfl (op_move _ _ _ _ rfl rfl),
     st_plain rfl (op_ix _ _ _ _ _ _ _ _ Tryd.underlying24 sz46 (by decide) rfl rfl rfl (ix_ok hv7).1 (flat_lt T_Param.len (ix_ok hv7).2) rfl),
     st_plain rfl (op_fieldAddr_e _ _ _ _ _ _ _ Tryd.underlying46 rfl sz9 rfl rfl rfl),
     st_plain rfl (op_load_e _ _ _ _ _ _ Tryd.underlying9 rfl rfl rfl (flat_cell T_Param.len hv8 rfl)),
     st_plain rfl (op_len_str _ _ _ Tryd.underlying9 rfl),
     st_plain rfl (op_bin _ _ _ _ _ rfl rfl (ibind (f := Value.int .i64) (Option.some.inj hv9))),
     st_plain rfl (LOp.drop [_] (op_assign _ _ _ _ rfl rfl)),
     trivial⟩ ?_
    refine pt_inb ?_
    refine pt_then ?_
    obtain ⟨v10, hv10, h⟩ := bind_some h
    refine ht_seqR hn (El := [_, _, _, (23, .v (.int .i64 s15)), (24, .v (.int .i64 v10)), (4, .v (.int .i64 v10))]) (init := [0, 1, 2]) (fin := [0, 2, 5]) (sps := [⟨[1], [], [3], [(.slot 23)]⟩, ⟨[3], [], [4], [(.slot 24)]⟩, ⟨[4], [1], [5], [(.slot 4)]⟩]) (es' := [(_, _), (_, _), (4, .v (.int .i64 v10))]) (by kernel_rfl) rfl rfl
     ⟨st_plain rfl (op_move _ _ _ _ rfl rfl),
     st_plain rfl (op_bin _ _ _ _ _ rfl rfl (ibind (f := Value.int .i64) (Option.some.inj hv10))),
     st_plain rfl (LOp.drop [_] (op_assign _ _ _ _ rfl rfl)),
     trivial⟩ ?_
    exact pt_next _ (Option.some.inj h).symm rfl
   ·have h := cond_f hb24 h
    refine ht_exit ?_
    refine pt_x_then ?_
    refine pt_x_then ?_
    refine pt_x_in ?_
    refine pt_pick [0, 1] (by kernel_rfl) (es' := [(_, _), (_, _)]) rfl ?_
    exact hl19 _ (ho21 _ (Option.some.inj h).symm).symm

set_option maxHeartbeats 1000000 in
theorem ok_strings_splitSeq (s : ByteArray) (sep : ByteArray) (sepSave : Int) (r : (ByteArray × ByteArray × Int)) (h : Sh.strings_splitSeq s sep sepSave = some r) : FnOK Tryd.prog 61 [.v (.string s), .v (.string sep), .v (.int .i64 sepSave)] (.cloB 71 [.box 9 [.v (.string r.1)], .box 9 [.v (.string r.2.1)], .box 3 [.v (.int .i64 r.2.2)]]) := by
  unfold Sh.strings_splitSeq at h
  refine fn_ok Tryd.func61 rfl (Nat.le_of_ble_eq_true rfl) rfl rfl fun g0 hn hio => ?_
  refine ht_seq ?_
  refine ht_seqR hn (El := [_, _, _, (3, .box 9 [.v (.string s)]), (4, .box 9 [.v (.string sep)]), (5, .box 3 [.v (.int .i64 sepSave)]), (6, .v (.nilFunc))]) (init := [0, 1, 2]) (fin := [3, 4, 5]) (sps := [⟨[0], [], [3], [(.slot 3)]⟩, ⟨[1], [], [4], [(.slot 4)]⟩, ⟨[2], [], [5], [(.slot 5)]⟩, ⟨[], [], [6], [(.slot 6)]⟩]) (es' := [(3, .box 9 [.v (.string s)]), (4, .box 9 [.v (.string sep)]), (5, .box 3 [.v (.int .i64 sepSave)])]) (by kernel_rfl) rfl rfl
   ⟨st_plain rfl (op_box _ _ _ _ rfl rfl rfl),
   st_plain rfl (op_box _ _ _ _ rfl rfl rfl),
   st_plain rfl (op_box _ _ _ _ rfl rfl rfl),
   st_plain rfl (op_assign _ _ _ _ rfl rfl),
   trivial⟩ ?_
  refine pt_then ?_
  refine ht_seq ?_
  refine ht_seqR hn (El := [_, _, _, (7, .cloB 71 [.box 9 [.v (.string sep)], .box 9 [.v (.string s)], .box 3 [.v (.int .i64 sepSave)]]), (6, .cloB 71 [.box 9 [.v (.string sep)], .box 9 [.v (.string s)], .box 3 [.v (.int .i64 sepSave)]])]) (init := [0, 1, 2]) (fin := [4]) (sps := [⟨[], [1, 0, 2], [3], [(.slot 7)]⟩, ⟨[], [3], [4], [(.slot 6)]⟩]) (es' := [(6, .cloB 71 [.box 9 [.v (.string sep)], .box 9 [.v (.string s)], .box 3 [.v (.int .i64 sepSave)]])]) (by kernel_rfl) rfl rfl
   ⟨st_plain rfl (op_mkclo _ _ [4, 3, 5] [.box 9 [.v (.string sep)], .box 9 [.v (.string s)], .box 3 [.v (.int .i64 sepSave)]] rfl rfl rfl),
   st_plain rfl (op_assign_take _ _ _ _ rfl),
   trivial⟩ ?_
  refine pt_then ?_
  refine ht_ret ?_
  obtain rfl := Option.some.inj h
  exact pt_ret hio rfl (.tmp _ _ .nil) rfl rfl

set_option maxHeartbeats 1000000 in
theorem ok_strings_SplitSeq (s : ByteArray) (sep : ByteArray) (r : (ByteArray × ByteArray × Int)) (h : Sh.strings_SplitSeq s sep = some r) : FnOK Tryd.prog 47 [.v (.string s), .v (.string sep)] (.cloB 71 [.box 9 [.v (.string r.1)], .box 9 [.v (.string r.2.1)], .box 3 [.v (.int .i64 r.2.2)]]) := by
  unfold Sh.strings_SplitSeq at h
  refine fn_ok Tryd.func47 rfl (Nat.le_of_ble_eq_true rfl) rfl rfl fun g0 hn hio => ?_
  refine ht_seq ?_
  refine ht_seqR hn (El := [_, _, (4, .v (.nilFunc))]) (init := [0, 1]) (fin := [0, 1]) (sps := [⟨[], [], [2], [(.slot 4)]⟩]) (es' := [(_, _), (_, _)]) (by kernel_rfl) rfl rfl
   ⟨st_plain rfl (op_assign _ _ _ _ rfl rfl),
   trivial⟩ ?_
  refine pt_then ?_
  refine ht_seq ?_
  obtain ⟨v1, hv1, h⟩ := bind_some h
  refine ht_seqR hn (El := [_, _, (5, .v (.string s)), (6, .v (.string sep)), (7, .cloB 71 [.box 9 [.v (.string v1.1)], .box 9 [.v (.string v1.2.1)], .box 3 [.v (.int .i64 v1.2.2)]]), (4, .cloB 71 [.box 9 [.v (.string v1.1)], .box 9 [.v (.string v1.2.1)], .box 3 [.v (.int .i64 v1.2.2)]])]) (init := [0, 1]) (fin := [5]) (sps := [⟨[0], [], [2], [(.slot 5)]⟩, ⟨[1], [], [3], [(.slot 6)]⟩, ⟨[2, 3], [], [4], [(.slot 7)]⟩, ⟨[], [4], [5], [(.slot 4)]⟩]) (es' := [(4, .cloB 71 [.box 9 [.v (.string v1.1)], .box 9 [.v (.string v1.2.1)], .box 3 [.v (.int .i64 v1.2.2)]])]) (by kernel_rfl) rfl rfl
   ⟨st_plain rfl (op_move _ _ _ _ rfl rfl),
   st_plain rfl (op_move _ _ _ _ rfl rfl),
   st_plain rfl (op_callS _ _ 61 _ _ rfl Tryd.call61 rfl rfl (ok_strings_splitSeq s sep 0 _ hv1) rfl),
   st_plain rfl (op_assign_take _ _ _ _ rfl),
   trivial⟩ ?_
  refine pt_then ?_
  refine ht_ret ?_
  obtain rfl := Option.some.inj h
  exact pt_ret hio rfl (.tmp _ _ .nil) rfl rfl

set_option maxHeartbeats 1000000 in
theorem ok_unicode_utf8_decodeRuneInStringSlow (mx : Int) (s : ByteArray) (r : (Int × Int)) (h : Sh.unicode_utf8_decodeRuneInStringSlow s = some r) : FnG Tryd.prog (GL mx) 76 [.v (.string s)] (.tup [.v (.int .i32 r.1), .v (.int .i64 r.2)]) := by
  unfold Sh.unicode_utf8_decodeRuneInStringSlow at h
  refine fn_okG Tryd.func76 rfl (Nat.le_of_ble_eq_true rfl) rfl rfl fun g0 hn hio => ?_
  refine ht_seq ?_
  refine ht_seqR hn (El := [_, _, (2, .v (.int .i32 0)), (3, .v (.int .i64 0))]) (init := [0, 1]) (fin := [0, 1]) (sps := [⟨[], [], [2], [(.slot 2)]⟩, ⟨[], [], [3], [(.slot 3)]⟩]) (es' := [(_, _), (_, _)]) (by kernel_rfl) rfl rfl
   ⟨st_plain rfl (op_assign _ _ _ _ rfl rfl),
   st_plain rfl (op_assign _ _ _ _ rfl rfl),
   trivial⟩ ?_
  refine pt_then ?_
  refine ht_seq ?_
  refine ht_seqR hn (El := [_, _, (13, .v (.string s)), (14, .v (.int .i64 (s.size : Int))), (4, .v (.int .i64 (s.size : Int)))]) (init := [0, 1]) (fin := [0, 1, 4]) (sps := [⟨[0], [], [2], [(.slot 13)]⟩, ⟨[2], [], [3], [(.slot 14)]⟩, ⟨[3], [], [4], [(.slot 4)]⟩]) (es' := [(_, _), (_, _), (4, .v (.int .i64 (s.size : Int)))]) (by kernel_rfl) rfl rfl
   ⟨st_plain rfl (op_move _ _ _ _ rfl rfl),
   st_plain rfl (op_len_str _ _ _ Tryd.underlying9 rfl),
   st_plain rfl (op_assign _ _ _ _ rfl rfl),
   trivial⟩ ?_
  refine pt_then ?_
  refine ht_seq ?_
  refine ht_seq ?_
  refine ht_seqR hn (El := [_, _, _, (15, .v (.int .i64 (s.size : Int))), (16, .v (.bool ((decide ((s.size : Int) < 1)))))]) (init := [0, 1, 2]) (fin := [0, 1, 2, 4]) (sps := [⟨[2], [], [3], [(.slot 15)]⟩, ⟨[3], [], [4], [(.slot 16)]⟩]) (es' := [(_, _), (_, _), (_, _), (16, .v (.bool ((decide ((s.size : Int) < 1)))))]) (by kernel_rfl) rfl rfl
   ⟨st_plain rfl (op_move _ _ _ _ rfl rfl),
   st_plain rfl (op_bin _ _ _ _ _ rfl rfl rfl),
   trivial⟩ ?_
  refine pt_then ?_
  refine ht_cond _ rfl (fun hb1 => ?_) (fun hb1 => ?_)
  ·have h := cond_t hb1 h
   refine ht_seq ?_
   refine ht_seqR hn (El := [_, _, _, _, (2, .v (.int .i32 65533)), (3, .v (.int .i64 0))]) (init := [0, 1, 2, 3]) (fin := [1, 4, 5]) (sps := [⟨[], [], [4], [(.slot 2)]⟩, ⟨[], [], [5], [(.slot 3)]⟩]) (es' := [(_, _), (2, .v (.int .i32 65533)), (3, .v (.int .i64 0))]) (by kernel_rfl) rfl rfl
    ⟨st_plain rfl (op_assign _ _ _ _ rfl rfl),
    st_plain rfl (op_assign _ _ _ _ rfl rfl),
    trivial⟩ ?_
   refine pt_then ?_
   refine ht_ret ?_
   refine pt_pick [1, 2] (by kernel_rfl) (es' := [(_, _), (_, _)]) rfl ?_
   refine pt_r_then ?_
   obtain rfl := Option.some.inj h
   exact pt_ret hio rfl (.tmp _ _ (.tmp _ _ .nil)) rfl rfl
  ·have h := cond_f hb1 h
   cases h

set_option maxHeartbeats 1000000 in
theorem ok_unicode_utf8_DecodeRuneInString (mx : Int) (s : ByteArray) (r : (Int × Int)) (h : Sh.unicode_utf8_DecodeRuneInString s = some r) : FnG Tryd.prog (GL mx) 72 [.v (.string s)] (.tup [.v (.int .i32 r.1), .v (.int .i64 r.2)]) := by
  unfold Sh.unicode_utf8_DecodeRuneInString at h
  refine fn_okG Tryd.func72 rfl (Nat.le_of_ble_eq_true rfl) rfl rfl fun g0 hn hio => ?_
  refine ht_seq ?_
  refine ht_seqR hn (El := [_, _, (2, .v (.int .i32 0)), (3, .v (.int .i64 0))]) (init := [0, 1]) (fin := [0, 1]) (sps := [⟨[], [], [2], [(.slot 2)]⟩, ⟨[], [], [3], [(.slot 3)]⟩]) (es' := [(_, _), (_, _)]) (by kernel_rfl) rfl rfl
   ⟨st_plain rfl (op_assign _ _ _ _ rfl rfl),
   st_plain rfl (op_assign _ _ _ _ rfl rfl),
   trivial⟩ ?_
  refine pt_then ?_
  refine ht_seq ?_
  refine ht_seq ?_
  refine ht_joinS h (fun (s2 : Bool) => [(0, .v (.string s)), (19, .glob (GL mx)), (10, .v (.bool s2))]) ?_ ?_
  ·rintro s2 h
   refine pt_then ?_
   refine ht_cond _ rfl (fun hb6 => ?_) (fun hb6 => ?_)
   ·have h := cond_t hb6 h
    refine ht_seq ?_
    obtain ⟨v7, hv7, h⟩ := bind_some h
    obtain ⟨v8, hv8, h⟩ := bind_some h
    refine ht_seqR hn (El := [_, _, _, (11, .v (.string s)), (12, .v (.int .u8 v7)), (13, .v (.int .i32 v8)), (2, .v (.int .i32 v8)), (3, .v (.int .i64 1))]) (init := [0, 1, 2]) (fin := [1, 6, 7]) (sps := [⟨[0], [], [3], [(.slot 11)]⟩, ⟨[3], [], [4], [(.slot 12)]⟩, ⟨[4], [], [5], [(.slot 13)]⟩, ⟨[5], [], [6], [(.slot 2)]⟩, ⟨[], [], [7], [(.slot 3)]⟩]) (es' := [(_, _), (2, .v (.int .i32 v8)), (3, .v (.int .i64 1))]) (by kernel_rfl) rfl rfl
     ⟨st_plain rfl (op_move _ _ _ _ rfl rfl),
     st_plain rfl (op_chr _ _ _ 0 _ Tryd.underlying9 rfl rfl hv7),
     st_plain rfl ((Option.some.inj hv8) ▸ op_conv _ _ _ Tryd.underlying5 Tryd.underlying21 rfl),
     st_plain rfl (op_assign _ _ _ _ rfl rfl),
     st_plain rfl (op_assign _ _ _ _ rfl rfl),
     trivial⟩ ?_
    refine pt_then ?_
    refine ht_ret ?_
    refine pt_pick [1, 2] (by kernel_rfl) (es' := [(_, _), (_, _)]) rfl ?_
    refine pt_r_then ?_
    obtain rfl := Option.some.inj h
    exact pt_ret hio rfl (.tmp _ _ (.tmp _ _ .nil)) rfl rfl
   ·have h := cond_f hb6 h
    obtain ⟨v9, hv9, h⟩ := bind_some h
    refine ht_seqR hn (El := [_, _, _, (15, .v (.string s)), (16, .tup [.v (.int .i32 v9.1), .v (.int .i64 v9.2)]), (14, .tup [.v (.int .i32 v9.1), .v (.int .i64 v9.2)]), (17, .v (.int .i32 v9.1)), (18, .v (.int .i64 v9.2)), (2, .v (.int .i32 v9.1)), (3, .v (.int .i64 v9.2))]) (init := [0, 1, 2]) (fin := [1, 8, 9]) (sps := [⟨[0], [], [3], [(.slot 15)]⟩, ⟨[3, 1], [], [4], [(.slot 16)]⟩, ⟨[], [4], [5], [(.slot 14)]⟩, ⟨[5], [], [6], [(.slot 17)]⟩, ⟨[5], [], [7], [(.slot 18)]⟩, ⟨[6], [], [8], [(.slot 2)]⟩, ⟨[7], [], [9], [(.slot 3)]⟩]) (es' := [(_, _), (2, .v (.int .i32 v9.1)), (3, .v (.int .i64 v9.2))]) (by kernel_rfl) rfl rfl
     ⟨st_plain rfl (op_move _ _ _ _ rfl rfl),
     st_plain rfl (op_callG _ _ 19 76 _ _ rfl Tryd.call76 rfl rfl (fun _ h => h) (ok_unicode_utf8_decodeRuneInStringSlow mx s _ hv9) rfl rfl),
     st_plain rfl (op_move_take _ _ _ _ rfl),
     st_plain rfl (op_extract _ _ _ _ _ rfl rfl (Nat.le_of_ble_eq_true rfl) rfl rfl),
     st_plain rfl (op_extract _ _ _ _ _ rfl rfl (Nat.le_of_ble_eq_true rfl) rfl rfl),
     st_plain rfl (op_assign _ _ _ _ rfl rfl),
     st_plain rfl (op_assign _ _ _ _ rfl rfl),
     trivial⟩ ?_
    refine pt_then ?_
    refine ht_ret ?_
    refine pt_pick [1, 2] (by kernel_rfl) (es' := [(_, _), (_, _)]) rfl ?_
    obtain rfl := Option.some.inj h
    exact pt_ret hio rfl (.tmp _ _ (.tmp _ _ .nil)) rfl rfl
  ·intro u3 h hl4 hr5
   refine cond_some h (fun hg1_2 h => ?_) (fun hg1_2 h => ?_)
   ·obtain ⟨v1, hv1, h⟩ := bind_some h
    refine ht_seqR hn (El := [_, _, (4, .v (.string s)), (5, .v (.bool ((!(s.toList == (⟨#[]⟩ : ByteArray).toList))))), (6, .v (.bool true)), (7, .v (.string s)), (8, .v (.int .u8 v1)), (9, .v (.bool ((decide (v1 < 128))))), (10, .v (.bool ((decide (v1 < 128)))))]) (init := [0, 1]) (fin := [0, 1, 8]) (sps := [⟨[0], [], [2], [(.slot 4)]⟩, ⟨[2], [], [3], [(.slot 5)]⟩, ⟨[3], [], [4], [(.slot 6)]⟩, ⟨[4, 0], [], [5], [(.slot 7)]⟩, ⟨[4, 5], [], [6], [(.slot 8)]⟩, ⟨[4, 6], [], [7], [(.slot 9)]⟩, ⟨[4, 7], [], [8], [(.slot 10)]⟩]) (es' := [(_, _), (_, _), (10, .v (.bool ((decide (v1 < 128)))))]) (by kernel_rfl) rfl rfl
     ⟨st_plain rfl (op_move _ _ _ _ rfl rfl),
     st_plain rfl (op_bin _ _ _ _ _ rfl rfl rfl),
     st_plain rfl (op_move _ _ _ _ (congrArg (fun b => AV.v (Value.bool b)) hg1_2) rfl),
     st_run 2 6 true rfl rfl rfl (List.Mem.head _) (op_move _ _ _ _ rfl rfl),
     st_run 2 6 true rfl rfl rfl (List.Mem.head _) (op_chr _ _ _ 0 _ Tryd.underlying9 rfl rfl hv1),
     st_run 2 6 true rfl rfl rfl (List.Mem.head _) (op_bin _ _ _ _ _ rfl rfl rfl),
     st_plain rfl (op_pick _ _ true _ rfl rfl),
     trivial⟩ ?_
    exact hl4 _ (Option.some.inj h).symm
   ·refine ht_seqR hn (El := [_, _, (4, .v (.string s)), (5, .v (.bool ((!(s.toList == (⟨#[]⟩ : ByteArray).toList))))), (6, .v (.bool false)), (7, .v undef), (8, .v undef), (9, .v undef), (10, .v (.bool false))]) (init := [0, 1]) (fin := [0, 1, 8]) (sps := [⟨[0], [], [2], [(.slot 4)]⟩, ⟨[2], [], [3], [(.slot 5)]⟩, ⟨[3], [], [4], [(.slot 6)]⟩, ⟨[4], [], [5], [(.slot 7)]⟩, ⟨[4], [], [6], [(.slot 8)]⟩, ⟨[4], [], [7], [(.slot 9)]⟩, ⟨[4], [], [8], [(.slot 10)]⟩]) (es' := [(_, _), (_, _), (10, .v (.bool false))]) (by kernel_rfl) rfl rfl
     ⟨st_plain rfl (op_move _ _ _ _ rfl rfl),
     st_plain rfl (op_bin _ _ _ _ _ rfl rfl rfl),
     st_plain rfl (op_move _ _ _ _ (congrArg (fun b => AV.v (Value.bool b)) hg1_2) rfl),
     st_skip 2 6 _ true rfl rfl rfl rfl (List.Mem.head _),
     st_skip 2 6 _ true rfl rfl rfl rfl (List.Mem.head _),
     st_skip 2 6 _ true rfl rfl rfl rfl (List.Mem.head _),
     st_plain rfl (op_pick _ _ false _ rfl rfl),
     trivial⟩ ?_
    exact hl4 _ (Option.some.inj h).symm

theorem ok_strings_Index (s sub : ByteArray) (r : Int) (h : Sh.strings_Index s sub = some r) : FnOK Tryd.prog 41 [.v (.string s), .v (.string sub)] (.v (.int .i64 r)) := lib_strings_Index Tryd.strings_Index_one s sub r h

set_option maxHeartbeats 1000000 in
theorem ok_strings_splitSeq_1 (mx : Int) (l : Nat) {S : Type} (J : S → InvT) (Y : ByteArray → S → Option (S × Bool)) (hY : YieldOK Tryd.prog l (fun x => .v (.string x)) Y J) (c0 : ByteArray) (c1 : ByteArray) (c2 : Int) (st r : S) (h : Sh.strings_splitSeq_1 Y c0 c1 c2 st = some r) : FnI Tryd.prog (GL mx) 71 l [.box 9 [.v (.string c0)], .box 9 [.v (.string c1)], .box 3 [.v (.int .i64 c2)]] (J st) (J r) := by
  unfold Sh.strings_splitSeq_1 at h
  refine fn_okI Tryd.func71 rfl (Nat.le_of_ble_eq_true rfl) rfl fun g0 hn hio => ?_
  refine ht_seq ?_
  refine ht_seq ?_
  refine ht_seqR hn (El := [_, _, _, _, _, _, (9, .v (.string c0)), (10, .v (.int .i64 (c0.size : Int))), (11, .v (.bool (((c0.size : Int) == 0))))]) (init := [0, 1, 2, 3, 4, 5]) (fin := [0, 1, 2, 3, 4, 5, 8]) (sps := [⟨[1], [], [6], [(.slot 9)]⟩, ⟨[6], [], [7], [(.slot 10)]⟩, ⟨[7], [], [8], [(.slot 11)]⟩]) (es' := [(_, _), (_, _), (_, _), (_, _), (_, _), (_, _), (11, .v (.bool (((c0.size : Int) == 0))))]) (by kernel_rfl) rfl rfl
   ⟨st_plain rfl (op_load _ _ _ _ _ _ Tryd.underlying9 rfl rfl rfl (Nat.le_of_ble_eq_true rfl) rfl rfl rfl),
   st_plain rfl (op_len_str _ _ _ Tryd.underlying9 rfl),
   st_plain rfl (op_bin _ _ _ _ _ rfl rfl rfl),
   trivial⟩ ?_
  refine pt_then ?_
  refine ht_cond _ rfl (fun hb1 => ?_) (fun hb1 => ?_)
  ·have h := cond_t hb1 h
   refine ht_seq ?_
   refine ht_pick [0, 2, 4, 5] (by kernel_rfl) (es' := [(_, _), (_, _), (_, _), (_, _)]) rfl ?_
   refine ht_loopS h (fun ((s12, s13) : ByteArray × S) => [(0, .v (.func (.yield l) #[] #[])), (2, .box 9 [.v (.string s12)]), (52, .glob (GL mx)), (53, .inv (J s13))]) (fun (s16 : S) => [(52, .glob (GL mx)), (53, .inv (J s16))]) ?_ ?_
   ·rintro s16 h
    refine pt_then ?_
    refine ht_ret ?_
    refine pt_pick [1] (by kernel_rfl) (es' := [(53, .inv (J s16))]) rfl ?_
    refine pt_r_then ?_
    obtain rfl := Option.some.inj h
    exact pt_retI hio rfl rfl rfl
   ·rintro u17 hl18 hr19 ⟨s12, s13⟩ rr22 h ho20
    refine ht_seq ?_
    refine ht_seq ?_
    refine ht_seqR hn (El := [_, _, _, _, (12, .v (.string s12)), (13, .v (.int .i64 (s12.size : Int))), (14, .v (.bool ((decide (0 < (s12.size : Int))))))]) (init := [0, 1, 2, 3]) (fin := [0, 1, 2, 3, 6]) (sps := [⟨[1], [], [4], [(.slot 12)]⟩, ⟨[4], [], [5], [(.slot 13)]⟩, ⟨[5], [], [6], [(.slot 14)]⟩]) (es' := [(_, _), (_, _), (_, _), (_, _), (14, .v (.bool ((decide (0 < (s12.size : Int))))))]) (by kernel_rfl) rfl rfl
     ⟨st_plain rfl (op_load _ _ _ _ _ _ Tryd.underlying9 rfl rfl rfl (Nat.le_of_ble_eq_true rfl) rfl rfl rfl),
     st_plain rfl (op_len_str _ _ _ Tryd.underlying9 rfl),
     st_plain rfl (op_bin _ _ _ _ _ rfl rfl rfl),
     trivial⟩ ?_
    refine pt_then ?_
    refine ht_cond _ rfl (fun hb23 => ?_) (fun hb23 => ?_)
    ·have h := cond_t hb23 h
     refine ht_skip ?_
     refine pt_then ?_
     refine ht_block ?_
     refine ht_seq ?_
     obtain ⟨v3, hv3, h⟩ := bind_some h
     refine ht_seqR hn (El := [_, _, _, _, _, (16, .v (.string s12)), (17, .tup [.v (.int .i32 v3.1), .v (.int .i64 v3.2)]), (15, .tup [.v (.int .i32 v3.1), .v (.int .i64 v3.2)]), (18, .v (.int .i32 v3.1)), (19, .v (.int .i64 v3.2)), (5, .v (.int .i32 v3.1)), (6, .v (.int .i64 v3.2))]) (init := [0, 1, 2, 3, 4]) (fin := [0, 1, 2, 3, 11]) (sps := [⟨[1], [], [5], [(.slot 16)]⟩, ⟨[5, 2], [], [6], [(.slot 17)]⟩, ⟨[], [6], [7], [(.slot 15)]⟩, ⟨[7], [], [8], [(.slot 18)]⟩, ⟨[7], [], [9], [(.slot 19)]⟩, ⟨[8], [], [10], [(.slot 5)]⟩, ⟨[9], [], [11], [(.slot 6)]⟩]) (es' := [(_, _), (_, _), (_, _), (_, _), (6, .v (.int .i64 v3.2))]) (by kernel_rfl) rfl rfl
      ⟨st_plain rfl (op_load _ _ _ _ _ _ Tryd.underlying9 rfl rfl rfl (Nat.le_of_ble_eq_true rfl) rfl rfl rfl),
      st_plain rfl (op_callG _ _ 52 72 _ _ rfl Tryd.call72 rfl rfl (fun _ h => h) (ok_unicode_utf8_DecodeRuneInString mx s12 _ hv3) rfl rfl),
      st_plain rfl (op_move_take _ _ _ _ rfl),
      st_plain rfl (op_extract _ _ _ _ _ rfl rfl (Nat.le_of_ble_eq_true rfl) rfl rfl),
      st_plain rfl (op_extract _ _ _ _ _ rfl rfl (Nat.le_of_ble_eq_true rfl) rfl rfl),
      st_plain rfl (op_assign _ _ _ _ rfl rfl),
      st_plain rfl (op_assign _ _ _ _ rfl rfl),
      trivial⟩ ?_
     refine pt_then ?_
     refine ht_seq ?_
     refine ht_seq ?_
     obtain ⟨v4, hv4, h⟩ := bind_some h
     obtain ⟨v5, hv5, h⟩ := bind_some h
     refine ht_seqR hn (El := [_, _, _, _, _, (20, .v (.func (.yield l) #[] #[])), (21, .v (.string s12)), (22, .v (.int .i64 v3.2)), (23, .v (.string v4)), (24, .v (.bool v5.2)), (53, .inv (J v5.1)), (25, .v (.bool (!v5.2)))]) (init := [0, 1, 2, 3, 4]) (fin := [0, 1, 2, 10, 4, 11]) (sps := [⟨[0], [], [5], [(.slot 20)]⟩, ⟨[1], [], [6], [(.slot 21)]⟩, ⟨[4], [], [7], [(.slot 22)]⟩, ⟨[6, 7], [], [8], [(.slot 23)]⟩, ⟨[8, 5], [3], [10, 9], [(.slot 24)]⟩, ⟨[9], [], [11], [(.slot 25)]⟩]) (es' := [(_, _), (_, _), (_, _), (53, .inv (J v5.1)), (_, _), (25, .v (.bool (!v5.2)))]) (by kernel_rfl) rfl rfl
      ⟨st_plain rfl (op_move _ _ _ _ rfl rfl),
      st_plain rfl (op_load _ _ _ _ _ _ Tryd.underlying9 rfl rfl rfl (Nat.le_of_ble_eq_true rfl) rfl rfl rfl),
      st_plain rfl (op_move _ _ _ _ rfl rfl),
      st_plain rfl (op_substr _ _ _ 0 v3.2 _ Tryd.underlying9 rfl rfl ⟨_, rfl⟩ hv4),
      st_plain rfl (op_yield _ _ 53 l v4 s13 v5 hY hv5 rfl rfl rfl),
      st_plain rfl (op_un _ _ _ _ rfl rfl),
      trivial⟩ ?_
     refine pt_then ?_
     refine ht_cond _ rfl (fun hb24 => ?_) (fun hb24 => ?_)
     ·have h := cond_t hb24 h
      refine ht_ret ?_
      refine pt_pick [3] (by kernel_rfl) (es' := [(53, .inv (J v5.1))]) rfl ?_
      refine pt_r_then ?_
      refine pt_r_in ?_
      refine pt_r_then ?_
      refine pt_r_in ?_
      refine pt_r_then ?_
      refine pt_r_then ?_
      have h := hr19 _ (ho20 _ (Option.some.inj h).symm).symm
      obtain rfl := Option.some.inj h
      exact pt_retI hio rfl rfl rfl
     ·have h := cond_f hb24 h
      refine ht_skip ?_
      refine pt_then ?_
      obtain ⟨v7, hv7, h⟩ := bind_some h
      refine ht_seqR hn (El := [_, _, _, _, _, _, (26, .v (.string s12)), (27, .v (.int .i64 v3.2)), (28, .v (.string v7)), (2, .box 9 [.v (.string v7)])]) (init := [0, 1, 2, 3, 4, 5]) (fin := [0, 9, 2, 3]) (sps := [⟨[1], [], [6], [(.slot 26)]⟩, ⟨[4], [], [7], [(.slot 27)]⟩, ⟨[6, 7], [], [8], [(.slot 28)]⟩, ⟨[8], [1], [9], [.cell 2 0]⟩]) (es' := [(_, _), (2, .box 9 [.v (.string v7)]), (_, _), (_, _)]) (by kernel_rfl) rfl rfl
       ⟨st_plain rfl (op_load _ _ _ _ _ _ Tryd.underlying9 rfl rfl rfl (Nat.le_of_ble_eq_true rfl) rfl rfl rfl),
       st_plain rfl (op_move _ _ _ _ rfl rfl),
       st_plain rfl (op_substr _ _ _ v3.2 (s12.size : Int) _ Tryd.underlying9 rfl ⟨_, rfl⟩ rfl hv7),
       st_plain rfl (op_store _ _ _ _ _ _ _ _ sz9 rfl rfl rfl rfl (Nat.le_of_ble_eq_true rfl) rfl rfl),
       trivial⟩ ?_
      refine pt_inb ?_
      exact pt_next _ (Option.some.inj h).symm rfl
    ·have h := cond_f hb23 h
     refine ht_exit ?_
     refine pt_x_then ?_
     refine pt_x_then ?_
     refine pt_x_in ?_
     refine pt_pick [2, 3] (by kernel_rfl) (es' := [(_, _), (_, _)]) rfl ?_
     exact hl18 _ (ho20 _ (Option.some.inj h).symm).symm
  ·have h := cond_f hb1 h
   refine ht_skip ?_
   refine pt_then ?_
   refine ht_seq ?_
   refine ht_pick [0, 1, 2, 3, 4, 5] (by kernel_rfl) (es' := [(_, _), (_, _), (_, _), (_, _), (_, _), (_, _)]) rfl ?_
   refine ht_loopS h (fun ((s37, s38) : ByteArray × S) => [(0, .v (.func (.yield l) #[] #[])), (1, .box 9 [.v (.string c0)]), (2, .box 9 [.v (.string s37)]), (3, .box 3 [.v (.int .i64 c2)]), (52, .glob (GL mx)), (53, .inv (J s38))]) (fun ((s41, s42) : ByteArray × S) => [(0, .v (.func (.yield l) #[] #[])), (2, .box 9 [.v (.string s41)]), (52, .glob (GL mx)), (53, .inv (J s42))]) ?_ ?_
   ·rintro ⟨s41, s42⟩ h
    refine pt_then ?_
    obtain ⟨v51, hv51, h⟩ := bind_some h
    refine ht_seqR hn (El := [_, _, _, _, (49, .v (.func (.yield l) #[] #[])), (50, .v (.string s41)), (51, .v (.bool v51.2)), (53, .inv (J v51.1))]) (init := [0, 1, 2, 3]) (fin := [2, 7]) (sps := [⟨[0], [], [4], [(.slot 49)]⟩, ⟨[1], [], [5], [(.slot 50)]⟩, ⟨[5, 4], [3], [7, 6], [(.slot 51)]⟩]) (es' := [(_, _), (53, .inv (J v51.1))]) (by kernel_rfl) rfl rfl
     ⟨st_plain rfl (op_move _ _ _ _ rfl rfl),
     st_plain rfl (op_load _ _ _ _ _ _ Tryd.underlying9 rfl rfl rfl (Nat.le_of_ble_eq_true rfl) rfl rfl rfl),
     st_plain rfl (op_yield _ _ 53 l s41 s42 v51 hY hv51 rfl rfl rfl),
     trivial⟩ ?_
    refine pt_pick [1] (by kernel_rfl) (es' := [(53, .inv (J v51.1))]) rfl ?_
    obtain rfl := Option.some.inj h
    exact pt_endI hio rfl rfl rfl
   ·rintro u43 hl44 hr45 ⟨s37, s38⟩ rr48 h ho46
    refine ht_block ?_
    refine ht_seq ?_
    obtain ⟨v25, hv25, h⟩ := bind_some h
    refine ht_seqR hn (El := [_, _, _, _, _, _, (29, .v (.string s37)), (30, .v (.string c0)), (31, .v (.int .i64 v25)), (7, .v (.int .i64 v25))]) (init := [0, 1, 2, 3, 4, 5]) (fin := [0, 1, 2, 3, 4, 5, 9]) (sps := [⟨[2], [], [6], [(.slot 29)]⟩, ⟨[1], [], [7], [(.slot 30)]⟩, ⟨[6, 7], [], [8], [(.slot 31)]⟩, ⟨[8], [], [9], [(.slot 7)]⟩]) (es' := [(_, _), (_, _), (_, _), (_, _), (_, _), (_, _), (7, .v (.int .i64 v25))]) (by kernel_rfl) rfl rfl
     ⟨st_plain rfl (op_load _ _ _ _ _ _ Tryd.underlying9 rfl rfl rfl (Nat.le_of_ble_eq_true rfl) rfl rfl rfl),
     st_plain rfl (op_load _ _ _ _ _ _ Tryd.underlying9 rfl rfl rfl (Nat.le_of_ble_eq_true rfl) rfl rfl rfl),
     st_plain rfl (op_call _ _ 41 _ _ rfl Tryd.call41 rfl (ok_strings_Index s37 c0 _ hv25) rfl rfl),
     st_plain rfl (op_assign _ _ _ _ rfl rfl),
     trivial⟩ ?_
    refine pt_then ?_
    refine ht_seq ?_
    refine ht_seq ?_
    refine ht_seqR hn (El := [_, _, _, _, _, _, _, (32, .v (.int .i64 v25)), (33, .v (.bool ((decide (v25 < 0)))))]) (init := [0, 1, 2, 3, 4, 5, 6]) (fin := [0, 1, 2, 3, 4, 5, 6, 8]) (sps := [⟨[6], [], [7], [(.slot 32)]⟩, ⟨[7], [], [8], [(.slot 33)]⟩]) (es' := [(_, _), (_, _), (_, _), (_, _), (_, _), (_, _), (_, _), (33, .v (.bool ((decide (v25 < 0)))))]) (by kernel_rfl) rfl rfl
     ⟨st_plain rfl (op_move _ _ _ _ rfl rfl),
     st_plain rfl (op_bin _ _ _ _ _ rfl rfl rfl),
     trivial⟩ ?_
    refine pt_then ?_
    refine ht_cond _ rfl (fun hb49 => ?_) (fun hb49 => ?_)
    ·have h := cond_t hb49 h
     refine ht_exit ?_
     refine pt_x_then ?_
     refine pt_x_out (by decide) ?_
     refine pt_x_then ?_
     refine pt_x_in ?_
     refine pt_pick [0, 2, 4, 5] (by kernel_rfl) (es' := [(_, _), (_, _), (_, _), (_, _)]) rfl ?_
     exact hl44 _ (ho46 _ (Option.some.inj h).symm).symm
    ·have h := cond_f hb49 h
     refine ht_skip ?_
     refine pt_then ?_
     refine ht_seq ?_
     obtain ⟨v27, hv27, h⟩ := bind_some h
     obtain ⟨v28, hv28, h⟩ := bind_some h
     refine ht_seqR hn (El := [_, _, _, _, _, _, _, _, (34, .v (.string s37)), (35, .v (.int .i64 v25)), (36, .v (.int .i64 c2)), (37, .v (.int .i64 v27)), (38, .v (.string v28)), (8, .v (.string v28))]) (init := [0, 1, 2, 3, 4, 5, 6, 7]) (fin := [0, 1, 2, 3, 4, 5, 6, 13]) (sps := [⟨[2], [], [8], [(.slot 34)]⟩, ⟨[6], [], [9], [(.slot 35)]⟩, ⟨[3], [], [10], [(.slot 36)]⟩, ⟨[9, 10], [], [11], [(.slot 37)]⟩, ⟨[8, 11], [], [12], [(.slot 38)]⟩, ⟨[12], [], [13], [(.slot 8)]⟩]) (es' := [(_, _), (_, _), (_, _), (_, _), (_, _), (_, _), (_, _), (8, .v (.string v28))]) (by kernel_rfl) rfl rfl
      ⟨st_plain rfl (op_load _ _ _ _ _ _ Tryd.underlying9 rfl rfl rfl (Nat.le_of_ble_eq_true rfl) rfl rfl rfl),
      st_plain rfl (op_move _ _ _ _ rfl rfl),
      st_plain rfl (op_load _ _ _ _ _ _ Tryd.underlying3 rfl rfl rfl (Nat.le_of_ble_eq_true rfl) rfl rfl rfl),
      st_plain rfl (op_bin _ _ _ _ _ rfl rfl (ibind (f := Value.int .i64) (Option.some.inj hv27))),
      st_plain rfl (op_substr _ _ _ 0 v27 _ Tryd.underlying9 rfl rfl ⟨_, rfl⟩ hv28),
      st_plain rfl (op_assign _ _ _ _ rfl rfl),
      trivial⟩ ?_
     refine pt_then ?_
     refine ht_seq ?_
     refine ht_seq ?_
     obtain ⟨v29, hv29, h⟩ := bind_some h
     refine ht_seqR hn (El := [_, _, _, _, _, _, _, _, (39, .v (.func (.yield l) #[] #[])), (40, .v (.string v28)), (41, .v (.bool v29.2)), (53, .inv (J v29.1)), (42, .v (.bool (!v29.2)))]) (init := [0, 1, 2, 3, 4, 5, 6, 7]) (fin := [0, 1, 2, 3, 4, 11, 6, 12]) (sps := [⟨[0], [], [8], [(.slot 39)]⟩, ⟨[7], [], [9], [(.slot 40)]⟩, ⟨[9, 8], [5], [11, 10], [(.slot 41)]⟩, ⟨[10], [], [12], [(.slot 42)]⟩]) (es' := [(_, _), (_, _), (_, _), (_, _), (_, _), (53, .inv (J v29.1)), (_, _), (42, .v (.bool (!v29.2)))]) (by kernel_rfl) rfl rfl
      ⟨st_plain rfl (op_move _ _ _ _ rfl rfl),
      st_plain rfl (op_move _ _ _ _ rfl rfl),
      st_plain rfl (op_yield _ _ 53 l v28 s38 v29 hY hv29 rfl rfl rfl),
      st_plain rfl (op_un _ _ _ _ rfl rfl),
      trivial⟩ ?_
     refine pt_then ?_
     refine ht_cond _ rfl (fun hb50 => ?_) (fun hb50 => ?_)
     ·have h := cond_t hb50 h
      refine ht_ret ?_
      refine pt_pick [5] (by kernel_rfl) (es' := [(53, .inv (J v29.1))]) rfl ?_
      refine pt_r_then ?_
      refine pt_r_in ?_
      refine pt_r_then ?_
      refine pt_r_in ?_
      refine pt_r_then ?_
      have h := hr45 _ (ho46 _ (Option.some.inj h).symm).symm
      obtain rfl := Option.some.inj h
      exact pt_retI hio rfl rfl rfl
     ·have h := cond_f hb50 h
      refine ht_skip ?_
      refine pt_then ?_
      obtain ⟨v31, hv31, h⟩ := bind_some h
      obtain ⟨v32, hv32, h⟩ := bind_some h
      refine ht_seqR hn (El := (_ :: _ :: _ :: _ :: _ :: _ :: _ :: _ :: (43, .v (.string s37)) :: (44, .v (.int .i64 v25)) :: (45, .v (.string c0)) :: (46, .v (.int .i64 (c0.size : Int))) :: (47, .v (.int .i64 v31)) :: (48, .v (.string v32)) :: (2, .box 9 [.v (.string v32)]) :: [])) (init := [0, 1, 2, 3, 4, 5, 6, 7]) (fin := [0, 1, 14, 3, 4, 5]) (sps := [⟨[2], [], [8], [(.slot 43)]⟩, ⟨[6], [], [9], [(.slot 44)]⟩, ⟨[1], [], [10], [(.slot 45)]⟩, ⟨[10], [], [11], [(.slot 46)]⟩, ⟨[9, 11], [], [12], [(.slot 47)]⟩, ⟨[8, 12], [], [13], [(.slot 48)]⟩, ⟨[13], [2], [14], [.cell 2 0]⟩]) (es' := [(_, _), (_, _), (2, .box 9 [.v (.string v32)]), (_, _), (_, _), (_, _)]) (by kernel_rfl) rfl rfl
       ⟨st_plain rfl (op_load _ _ _ _ _ _ Tryd.underlying9 rfl rfl rfl (Nat.le_of_ble_eq_true rfl) rfl rfl rfl),
       st_plain rfl (op_move _ _ _ _ rfl rfl),
       st_plain rfl (op_load _ _ _ _ _ _ Tryd.underlying9 rfl rfl rfl (Nat.le_of_ble_eq_true rfl) rfl rfl rfl),
       st_plain rfl (op_len_str _ _ _ Tryd.underlying9 rfl),
       st_plain rfl (op_bin _ _ _ _ _ rfl rfl (ibind (f := Value.int .i64) (Option.some.inj hv31))),
       st_plain rfl (op_substr _ _ _ v31 (s37.size : Int) _ Tryd.underlying9 rfl ⟨_, rfl⟩ rfl hv32),
       st_plain rfl (op_store _ _ _ _ _ _ _ _ sz9 rfl rfl rfl rfl (Nat.le_of_ble_eq_true rfl) rfl rfl),
       trivial⟩ ?_
      refine pt_inb ?_
      exact pt_next _ (Option.some.inj h).symm rfl

set_option maxHeartbeats 1000000 in
theorem ok_path_alphanumeric (c : Int) (r : Bool) (h : Sh.path_alphanumeric c = some r) : FnOK Tryd.prog 50 [.v (.int .u8 c)] (.v (.bool r)) := by
  unfold Sh.path_alphanumeric at h
  refine fn_ok Tryd.func50 rfl (Nat.le_of_ble_eq_true rfl) rfl rfl fun g0 hn hio => ?_
  refine ht_seq ?_
  refine ht_seqR hn (El := [_, (2, .v (.bool false))]) (init := [0]) (fin := [0]) (sps := [⟨[], [], [1], [(.slot 2)]⟩]) (es' := [(_, _)]) (by kernel_rfl) rfl rfl
   ⟨st_plain rfl (op_assign _ _ _ _ rfl rfl),
   trivial⟩ ?_
  refine pt_then ?_
  refine ht_seq ?_
  refine ht_joinS h (fun (s1 : Bool) => [(2, .v (.bool s1))]) ?_ ?_
  ·rintro s1 h
   refine pt_then ?_
   refine ht_ret ?_
   obtain rfl := Option.some.inj h
   exact pt_ret hio rfl (.tmp _ _ .nil) rfl rfl
  ·intro u2 h hl3 hr4
   refine cond_some h (fun hg1_2 h => ?_) (fun hg1_2 h => ?_)
   ·refine cond_some h (fun hg1_6 h => ?_) (fun hg1_6 h => ?_)
    ·refine ht_seqR hn (El := (_ :: (3, .v (.int .u8 c)) :: (4, .v (.bool ((decide (48 ≤ c))))) :: (5, .v (.bool true)) :: (6, .v (.int .u8 c)) :: (7, .v (.bool ((decide (c ≤ 57))))) :: (8, .v (.bool ((decide (c ≤ 57))))) :: (9, .v (.bool true)) :: (10, .v undef) :: (11, .v undef) :: (12, .v undef) :: (13, .v undef) :: (14, .v undef) :: (15, .v undef) :: (16, .v (.bool true)) :: (17, .v (.bool true)) :: (18, .v undef) :: (19, .v undef) :: (20, .v undef) :: (21, .v undef) :: (22, .v undef) :: (23, .v undef) :: (24, .v (.bool true)) :: (2, .v (.bool true)) :: [])) (init := [0]) (fin := [23]) (sps := (⟨[0], [], [1], [(.slot 3)]⟩ :: ⟨[1], [], [2], [(.slot 4)]⟩ :: ⟨[2], [], [3], [(.slot 5)]⟩ :: ⟨[3, 0], [], [4], [(.slot 6)]⟩ :: ⟨[3, 4], [], [5], [(.slot 7)]⟩ :: ⟨[3, 5], [], [6], [(.slot 8)]⟩ :: ⟨[6], [], [7], [(.slot 9)]⟩ :: ⟨[7], [], [8], [(.slot 10)]⟩ :: ⟨[7], [], [9], [(.slot 11)]⟩ :: ⟨[7], [], [10], [(.slot 12)]⟩ :: ⟨[10], [], [11], [(.slot 13)]⟩ :: ⟨[10], [], [12], [(.slot 14)]⟩ :: ⟨[7], [], [13], [(.slot 15)]⟩ :: ⟨[7], [], [14], [(.slot 16)]⟩ :: ⟨[14], [], [15], [(.slot 17)]⟩ :: ⟨[15], [], [16], [(.slot 18)]⟩ :: ⟨[15], [], [17], [(.slot 19)]⟩ :: ⟨[15], [], [18], [(.slot 20)]⟩ :: ⟨[18], [], [19], [(.slot 21)]⟩ :: ⟨[18], [], [20], [(.slot 22)]⟩ :: ⟨[15], [], [21], [(.slot 23)]⟩ :: ⟨[15], [], [22], [(.slot 24)]⟩ :: ⟨[22], [], [23], [(.slot 2)]⟩ :: [])) (es' := [(2, .v (.bool true))]) (by kernel_rfl) rfl rfl
      ⟨st_plain rfl (op_move _ _ _ _ rfl rfl),
      st_plain rfl (op_bin _ _ _ _ _ rfl rfl rfl),
      st_plain rfl (op_move _ _ _ _ (congrArg (fun b => AV.v (Value.bool b)) hg1_2) rfl),
      st_run 2 5 true rfl rfl rfl (List.Mem.head _) (op_move _ _ _ _ rfl rfl),
      st_run 2 5 true rfl rfl rfl (List.Mem.head _) (op_bin _ _ _ _ _ rfl rfl rfl),
      st_plain rfl (op_pick _ _ true _ rfl rfl),
      st_plain rfl (op_move _ _ _ _ (congrArg (fun b => AV.v (Value.bool b)) hg1_6) rfl),
      st_skip 6 9 _ false rfl rfl rfl rfl (List.Mem.head _),
      st_skip 6 9 _ false rfl rfl rfl rfl (List.Mem.head _),
      st_skip 6 9 _ false rfl rfl rfl rfl (List.Mem.head _),
      st_skipU 9 12 _ true rfl rfl rfl rfl (List.Mem.head _),
      st_skipU 9 12 _ true rfl rfl rfl rfl (List.Mem.head _),
      st_skip 6 9 _ false rfl rfl rfl rfl (List.Mem.head _),
      st_plain rfl (op_pick _ _ true _ rfl rfl),
      st_plain rfl (op_move _ _ _ _ rfl rfl),
      st_skip 14 17 _ false rfl rfl rfl rfl (List.Mem.head _),
      st_skip 14 17 _ false rfl rfl rfl rfl (List.Mem.head _),
      st_skip 14 17 _ false rfl rfl rfl rfl (List.Mem.head _),
      st_skipU 17 20 _ true rfl rfl rfl rfl (List.Mem.head _),
      st_skipU 17 20 _ true rfl rfl rfl rfl (List.Mem.head _),
      st_skip 14 17 _ false rfl rfl rfl rfl (List.Mem.head _),
      st_plain rfl (op_pick _ _ true _ rfl rfl),
      st_plain rfl (op_assign _ _ _ _ rfl rfl),
      trivial⟩ ?_
     exact hl3 _ (Option.some.inj h).symm
    ·refine cond_some h (fun hg1_9 h => ?_) (fun hg1_9 h => ?_)
     ·refine cond_some h (fun hg1_14 h => ?_) (fun hg1_14 h => ?_)
      ·refine ht_seqR hn (El := (_ :: (3, .v (.int .u8 c)) :: (4, .v (.bool ((decide (48 ≤ c))))) :: (5, .v (.bool true)) :: (6, .v (.int .u8 c)) :: (7, .v (.bool ((decide (c ≤ 57))))) :: (8, .v (.bool ((decide (c ≤ 57))))) :: (9, .v (.bool false)) :: (10, .v (.int .u8 c)) :: (11, .v (.bool ((decide (65 ≤ c))))) :: (12, .v (.bool true)) :: (13, .v (.int .u8 c)) :: (14, .v (.bool ((decide (c ≤ 90))))) :: (15, .v (.bool ((decide (c ≤ 90))))) :: (16, .v (.bool ((decide (c ≤ 90))))) :: (17, .v (.bool true)) :: (18, .v undef) :: (19, .v undef) :: (20, .v undef) :: (21, .v undef) :: (22, .v undef) :: (23, .v undef) :: (24, .v (.bool true)) :: (2, .v (.bool true)) :: [])) (init := [0]) (fin := [23]) (sps := (⟨[0], [], [1], [(.slot 3)]⟩ :: ⟨[1], [], [2], [(.slot 4)]⟩ :: ⟨[2], [], [3], [(.slot 5)]⟩ :: ⟨[3, 0], [], [4], [(.slot 6)]⟩ :: ⟨[3, 4], [], [5], [(.slot 7)]⟩ :: ⟨[3, 5], [], [6], [(.slot 8)]⟩ :: ⟨[6], [], [7], [(.slot 9)]⟩ :: ⟨[7, 0], [], [8], [(.slot 10)]⟩ :: ⟨[7, 8], [], [9], [(.slot 11)]⟩ :: ⟨[7, 9], [], [10], [(.slot 12)]⟩ :: ⟨[10, 0], [], [11], [(.slot 13)]⟩ :: ⟨[10, 11], [], [12], [(.slot 14)]⟩ :: ⟨[7, 10, 12], [], [13], [(.slot 15)]⟩ :: ⟨[7, 13], [], [14], [(.slot 16)]⟩ :: ⟨[14], [], [15], [(.slot 17)]⟩ :: ⟨[15], [], [16], [(.slot 18)]⟩ :: ⟨[15], [], [17], [(.slot 19)]⟩ :: ⟨[15], [], [18], [(.slot 20)]⟩ :: ⟨[18], [], [19], [(.slot 21)]⟩ :: ⟨[18], [], [20], [(.slot 22)]⟩ :: ⟨[15], [], [21], [(.slot 23)]⟩ :: ⟨[15], [], [22], [(.slot 24)]⟩ :: ⟨[22], [], [23], [(.slot 2)]⟩ :: [])) (es' := [(2, .v (.bool true))]) (by kernel_rfl) rfl rfl
        ⟨st_plain rfl (op_move _ _ _ _ rfl rfl),
        st_plain rfl (op_bin _ _ _ _ _ rfl rfl rfl),
        st_plain rfl (op_move _ _ _ _ (congrArg (fun b => AV.v (Value.bool b)) hg1_2) rfl),
        st_run 2 5 true rfl rfl rfl (List.Mem.head _) (op_move _ _ _ _ rfl rfl),
        st_run 2 5 true rfl rfl rfl (List.Mem.head _) (op_bin _ _ _ _ _ rfl rfl rfl),
        st_plain rfl (op_pick _ _ true _ rfl rfl),
        st_plain rfl (op_move _ _ _ _ (congrArg (fun b => AV.v (Value.bool b)) hg1_6) rfl),
        st_run 6 9 false rfl rfl rfl (List.Mem.head _) (op_move _ _ _ _ rfl rfl),
        st_run 6 9 false rfl rfl rfl (List.Mem.head _) (op_bin _ _ _ _ _ rfl rfl rfl),
        st_run 6 9 false rfl rfl rfl (List.Mem.head _) (op_move _ _ _ _ (congrArg (fun b => AV.v (Value.bool b)) hg1_9) rfl),
        st_run 9 12 true rfl rfl rfl (List.Mem.head _) (op_move _ _ _ _ rfl rfl),
        st_run 9 12 true rfl rfl rfl (List.Mem.head _) (op_bin _ _ _ _ _ rfl rfl rfl),
        st_run 6 9 false rfl rfl rfl (List.Mem.head _) (op_pick _ _ true _ rfl rfl),
        st_plain rfl (op_pick _ _ false _ rfl rfl),
        st_plain rfl (op_move _ _ _ _ (congrArg (fun b => AV.v (Value.bool b)) hg1_14) rfl),
        st_skip 14 17 _ false rfl rfl rfl rfl (List.Mem.head _),
        st_skip 14 17 _ false rfl rfl rfl rfl (List.Mem.head _),
        st_skip 14 17 _ false rfl rfl rfl rfl (List.Mem.head _),
        st_skipU 17 20 _ true rfl rfl rfl rfl (List.Mem.head _),
        st_skipU 17 20 _ true rfl rfl rfl rfl (List.Mem.head _),
        st_skip 14 17 _ false rfl rfl rfl rfl (List.Mem.head _),
        st_plain rfl (op_pick _ _ true _ rfl rfl),
        st_plain rfl (op_assign _ _ _ _ rfl rfl),
        trivial⟩ ?_
       exact hl3 _ (Option.some.inj h).symm
      ·refine cond_some h (fun hg1_17 h => ?_) (fun hg1_17 h => ?_)
       ·refine ht_seqR hn (El := (_ :: (3, .v (.int .u8 c)) :: (4, .v (.bool ((decide (48 ≤ c))))) :: (5, .v (.bool true)) :: (6, .v (.int .u8 c)) :: (7, .v (.bool ((decide (c ≤ 57))))) :: (8, .v (.bool ((decide (c ≤ 57))))) :: (9, .v (.bool false)) :: (10, .v (.int .u8 c)) :: (11, .v (.bool ((decide (65 ≤ c))))) :: (12, .v (.bool true)) :: (13, .v (.int .u8 c)) :: (14, .v (.bool ((decide (c ≤ 90))))) :: (15, .v (.bool ((decide (c ≤ 90))))) :: (16, .v (.bool ((decide (c ≤ 90))))) :: (17, .v (.bool false)) :: (18, .v (.int .u8 c)) :: (19, .v (.bool ((decide (97 ≤ c))))) :: (20, .v (.bool true)) :: (21, .v (.int .u8 c)) :: (22, .v (.bool ((decide (c ≤ 122))))) :: (23, .v (.bool ((decide (c ≤ 122))))) :: (24, .v (.bool ((decide (c ≤ 122))))) :: (2, .v (.bool ((decide (c ≤ 122))))) :: [])) (init := [0]) (fin := [23]) (sps := (⟨[0], [], [1], [(.slot 3)]⟩ :: ⟨[1], [], [2], [(.slot 4)]⟩ :: ⟨[2], [], [3], [(.slot 5)]⟩ :: ⟨[3, 0], [], [4], [(.slot 6)]⟩ :: ⟨[3, 4], [], [5], [(.slot 7)]⟩ :: ⟨[3, 5], [], [6], [(.slot 8)]⟩ :: ⟨[6], [], [7], [(.slot 9)]⟩ :: ⟨[7, 0], [], [8], [(.slot 10)]⟩ :: ⟨[7, 8], [], [9], [(.slot 11)]⟩ :: ⟨[7, 9], [], [10], [(.slot 12)]⟩ :: ⟨[10, 0], [], [11], [(.slot 13)]⟩ :: ⟨[10, 11], [], [12], [(.slot 14)]⟩ :: ⟨[7, 10, 12], [], [13], [(.slot 15)]⟩ :: ⟨[7, 13], [], [14], [(.slot 16)]⟩ :: ⟨[14], [], [15], [(.slot 17)]⟩ :: ⟨[15, 0], [], [16], [(.slot 18)]⟩ :: ⟨[15, 16], [], [17], [(.slot 19)]⟩ :: ⟨[15, 17], [], [18], [(.slot 20)]⟩ :: ⟨[18, 0], [], [19], [(.slot 21)]⟩ :: ⟨[18, 19], [], [20], [(.slot 22)]⟩ :: ⟨[15, 18, 20], [], [21], [(.slot 23)]⟩ :: ⟨[15, 21], [], [22], [(.slot 24)]⟩ :: ⟨[22], [], [23], [(.slot 2)]⟩ :: [])) (es' := [(2, .v (.bool ((decide (c ≤ 122)))))]) (by kernel_rfl) rfl rfl
         ⟨st_plain rfl (op_move _ _ _ _ rfl rfl),
         st_plain rfl (op_bin _ _ _ _ _ rfl rfl rfl),
         st_plain rfl (op_move _ _ _ _ (congrArg (fun b => AV.v (Value.bool b)) hg1_2) rfl),
         st_run 2 5 true rfl rfl rfl (List.Mem.head _) (op_move _ _ _ _ rfl rfl),
         st_run 2 5 true rfl rfl rfl (List.Mem.head _) (op_bin _ _ _ _ _ rfl rfl rfl),
         st_plain rfl (op_pick _ _ true _ rfl rfl),
         st_plain rfl (op_move _ _ _ _ (congrArg (fun b => AV.v (Value.bool b)) hg1_6) rfl),
         st_run 6 9 false rfl rfl rfl (List.Mem.head _) (op_move _ _ _ _ rfl rfl),
         st_run 6 9 false rfl rfl rfl (List.Mem.head _) (op_bin _ _ _ _ _ rfl rfl rfl),
         st_run 6 9 false rfl rfl rfl (List.Mem.head _) (op_move _ _ _ _ (congrArg (fun b => AV.v (Value.bool b)) hg1_9) rfl),
         st_run 9 12 true rfl rfl rfl (List.Mem.head _) (op_move _ _ _ _ rfl rfl),
         st_run 9 12 true rfl rfl rfl (List.Mem.head _) (op_bin _ _ _ _ _ rfl rfl rfl),
         st_run 6 9 false rfl rfl rfl (List.Mem.head _) (op_pick _ _ true _ rfl rfl),
         st_plain rfl (op_pick _ _ false _ rfl rfl),
         st_plain rfl (op_move _ _ _ _ (congrArg (fun b => AV.v (Value.bool b)) hg1_14) rfl),
         st_run 14 17 false rfl rfl rfl (List.Mem.head _) (op_move _ _ _ _ rfl rfl),
         st_run 14 17 false rfl rfl rfl (List.Mem.head _) (op_bin _ _ _ _ _ rfl rfl rfl),
         st_run 14 17 false rfl rfl rfl (List.Mem.head _) (op_move _ _ _ _ (congrArg (fun b => AV.v (Value.bool b)) hg1_17) rfl),
         st_run 17 20 true rfl rfl rfl (List.Mem.head _) (op_move _ _ _ _ rfl rfl),
         st_run 17 20 true rfl rfl rfl (List.Mem.head _) (op_bin _ _ _ _ _ rfl rfl rfl),
         st_run 14 17 false rfl rfl rfl (List.Mem.head _) (op_pick _ _ true _ rfl rfl),
         st_plain rfl (op_pick _ _ false _ rfl rfl),
         st_plain rfl (op_assign _ _ _ _ rfl rfl),
         trivial⟩ ?_
        exact hl3 _ (Option.some.inj h).symm
       ·refine ht_seqR hn (El := (_ :: (3, .v (.int .u8 c)) :: (4, .v (.bool ((decide (48 ≤ c))))) :: (5, .v (.bool true)) :: (6, .v (.int .u8 c)) :: (7, .v (.bool ((decide (c ≤ 57))))) :: (8, .v (.bool ((decide (c ≤ 57))))) :: (9, .v (.bool false)) :: (10, .v (.int .u8 c)) :: (11, .v (.bool ((decide (65 ≤ c))))) :: (12, .v (.bool true)) :: (13, .v (.int .u8 c)) :: (14, .v (.bool ((decide (c ≤ 90))))) :: (15, .v (.bool ((decide (c ≤ 90))))) :: (16, .v (.bool ((decide (c ≤ 90))))) :: (17, .v (.bool false)) :: (18, .v (.int .u8 c)) :: (19, .v (.bool ((decide (97 ≤ c))))) :: (20, .v (.bool false)) :: (21, .v undef) :: (22, .v undef) :: (23, .v (.bool false)) :: (24, .v (.bool false)) :: (2, .v (.bool false)) :: [])) (init := [0]) (fin := [23]) (sps := (⟨[0], [], [1], [(.slot 3)]⟩ :: ⟨[1], [], [2], [(.slot 4)]⟩ :: ⟨[2], [], [3], [(.slot 5)]⟩ :: ⟨[3, 0], [], [4], [(.slot 6)]⟩ :: ⟨[3, 4], [], [5], [(.slot 7)]⟩ :: ⟨[3, 5], [], [6], [(.slot 8)]⟩ :: ⟨[6], [], [7], [(.slot 9)]⟩ :: ⟨[7, 0], [], [8], [(.slot 10)]⟩ :: ⟨[7, 8], [], [9], [(.slot 11)]⟩ :: ⟨[7, 9], [], [10], [(.slot 12)]⟩ :: ⟨[10, 0], [], [11], [(.slot 13)]⟩ :: ⟨[10, 11], [], [12], [(.slot 14)]⟩ :: ⟨[7, 10, 12], [], [13], [(.slot 15)]⟩ :: ⟨[7, 13], [], [14], [(.slot 16)]⟩ :: ⟨[14], [], [15], [(.slot 17)]⟩ :: ⟨[15, 0], [], [16], [(.slot 18)]⟩ :: ⟨[15, 16], [], [17], [(.slot 19)]⟩ :: ⟨[15, 17], [], [18], [(.slot 20)]⟩ :: ⟨[18], [], [19], [(.slot 21)]⟩ :: ⟨[18], [], [20], [(.slot 22)]⟩ :: ⟨[15, 18], [], [21], [(.slot 23)]⟩ :: ⟨[15, 21], [], [22], [(.slot 24)]⟩ :: ⟨[22], [], [23], [(.slot 2)]⟩ :: [])) (es' := [(2, .v (.bool false))]) (by kernel_rfl) rfl rfl
         ⟨st_plain rfl (op_move _ _ _ _ rfl rfl),
         st_plain rfl (op_bin _ _ _ _ _ rfl rfl rfl),
         st_plain rfl (op_move _ _ _ _ (congrArg (fun b => AV.v (Value.bool b)) hg1_2) rfl),
         st_run 2 5 true rfl rfl rfl (List.Mem.head _) (op_move _ _ _ _ rfl rfl),
         st_run 2 5 true rfl rfl rfl (List.Mem.head _) (op_bin _ _ _ _ _ rfl rfl rfl),
         st_plain rfl (op_pick _ _ true _ rfl rfl),
         st_plain rfl (op_move _ _ _ _ (congrArg (fun b => AV.v (Value.bool b)) hg1_6) rfl),
         st_run 6 9 false rfl rfl rfl (List.Mem.head _) (op_move _ _ _ _ rfl rfl),
         st_run 6 9 false rfl rfl rfl (List.Mem.head _) (op_bin _ _ _ _ _ rfl rfl rfl),
         st_run 6 9 false rfl rfl rfl (List.Mem.head _) (op_move _ _ _ _ (congrArg (fun b => AV.v (Value.bool b)) hg1_9) rfl),
         st_run 9 12 true rfl rfl rfl (List.Mem.head _) (op_move _ _ _ _ rfl rfl),
         st_run 9 12 true rfl rfl rfl (List.Mem.head _) (op_bin _ _ _ _ _ rfl rfl rfl),
         st_run 6 9 false rfl rfl rfl (List.Mem.head _) (op_pick _ _ true _ rfl rfl),
         st_plain rfl (op_pick _ _ false _ rfl rfl),
         st_plain rfl (op_move _ _ _ _ (congrArg (fun b => AV.v (Value.bool b)) hg1_14) rfl),
         st_run 14 17 false rfl rfl rfl (List.Mem.head _) (op_move _ _ _ _ rfl rfl),
         st_run 14 17 false rfl rfl rfl (List.Mem.head _) (op_bin _ _ _ _ _ rfl rfl rfl),
         st_run 14 17 false rfl rfl rfl (List.Mem.head _) (op_move _ _ _ _ (congrArg (fun b => AV.v (Value.bool b)) hg1_17) rfl),
         st_skip 17 20 _ true rfl rfl rfl rfl (List.Mem.head _),
         st_skip 17 20 _ true rfl rfl rfl rfl (List.Mem.head _),
         st_run 14 17 false rfl rfl rfl (List.Mem.head _) (op_pick _ _ false _ rfl rfl),
         st_plain rfl (op_pick _ _ false _ rfl rfl),
         st_plain rfl (op_assign _ _ _ _ rfl rfl),
         trivial⟩ ?_
        exact hl3 _ (Option.some.inj h).symm
     ·refine cond_some h (fun hg1_17 h => ?_) (fun hg1_17 h => ?_)
      ·refine ht_seqR hn (El := (_ :: (3, .v (.int .u8 c)) :: (4, .v (.bool ((decide (48 ≤ c))))) :: (5, .v (.bool true)) :: (6, .v (.int .u8 c)) :: (7, .v (.bool ((decide (c ≤ 57))))) :: (8, .v (.bool ((decide (c ≤ 57))))) :: (9, .v (.bool false)) :: (10, .v (.int .u8 c)) :: (11, .v (.bool ((decide (65 ≤ c))))) :: (12, .v (.bool false)) :: (13, .v undef) :: (14, .v undef) :: (15, .v (.bool false)) :: (16, .v (.bool false)) :: (17, .v (.bool false)) :: (18, .v (.int .u8 c)) :: (19, .v (.bool ((decide (97 ≤ c))))) :: (20, .v (.bool true)) :: (21, .v (.int .u8 c)) :: (22, .v (.bool ((decide (c ≤ 122))))) :: (23, .v (.bool ((decide (c ≤ 122))))) :: (24, .v (.bool ((decide (c ≤ 122))))) :: (2, .v (.bool ((decide (c ≤ 122))))) :: [])) (init := [0]) (fin := [23]) (sps := (⟨[0], [], [1], [(.slot 3)]⟩ :: ⟨[1], [], [2], [(.slot 4)]⟩ :: ⟨[2], [], [3], [(.slot 5)]⟩ :: ⟨[3, 0], [], [4], [(.slot 6)]⟩ :: ⟨[3, 4], [], [5], [(.slot 7)]⟩ :: ⟨[3, 5], [], [6], [(.slot 8)]⟩ :: ⟨[6], [], [7], [(.slot 9)]⟩ :: ⟨[7, 0], [], [8], [(.slot 10)]⟩ :: ⟨[7, 8], [], [9], [(.slot 11)]⟩ :: ⟨[7, 9], [], [10], [(.slot 12)]⟩ :: ⟨[10], [], [11], [(.slot 13)]⟩ :: ⟨[10], [], [12], [(.slot 14)]⟩ :: ⟨[7, 10], [], [13], [(.slot 15)]⟩ :: ⟨[7, 13], [], [14], [(.slot 16)]⟩ :: ⟨[14], [], [15], [(.slot 17)]⟩ :: ⟨[15, 0], [], [16], [(.slot 18)]⟩ :: ⟨[15, 16], [], [17], [(.slot 19)]⟩ :: ⟨[15, 17], [], [18], [(.slot 20)]⟩ :: ⟨[18, 0], [], [19], [(.slot 21)]⟩ :: ⟨[18, 19], [], [20], [(.slot 22)]⟩ :: ⟨[15, 18, 20], [], [21], [(.slot 23)]⟩ :: ⟨[15, 21], [], [22], [(.slot 24)]⟩ :: ⟨[22], [], [23], [(.slot 2)]⟩ :: [])) (es' := [(2, .v (.bool ((decide (c ≤ 122)))))]) (by kernel_rfl) rfl rfl
        ⟨st_plain rfl (op_move _ _ _ _ rfl rfl),
        st_plain rfl (op_bin _ _ _ _ _ rfl rfl rfl),
        st_plain rfl (op_move _ _ _ _ (congrArg (fun b => AV.v (Value.bool b)) hg1_2) rfl),
        st_run 2 5 true rfl rfl rfl (List.Mem.head _) (op_move _ _ _ _ rfl rfl),
        st_run 2 5 true rfl rfl rfl (List.Mem.head _) (op_bin _ _ _ _ _ rfl rfl rfl),
        st_plain rfl (op_pick _ _ true _ rfl rfl),
        st_plain rfl (op_move _ _ _ _ (congrArg (fun b => AV.v (Value.bool b)) hg1_6) rfl),
        st_run 6 9 false rfl rfl rfl (List.Mem.head _) (op_move _ _ _ _ rfl rfl),
        st_run 6 9 false rfl rfl rfl (List.Mem.head _) (op_bin _ _ _ _ _ rfl rfl rfl),
        st_run 6 9 false rfl rfl rfl (List.Mem.head _) (op_move _ _ _ _ (congrArg (fun b => AV.v (Value.bool b)) hg1_9) rfl),
        st_skip 9 12 _ true rfl rfl rfl rfl (List.Mem.head _),
        st_skip 9 12 _ true rfl rfl rfl rfl (List.Mem.head _),
        st_run 6 9 false rfl rfl rfl (List.Mem.head _) (op_pick _ _ false _ rfl rfl),
        st_plain rfl (op_pick _ _ false _ rfl rfl),
        st_plain rfl (op_move _ _ _ _ rfl rfl),
        st_run 14 17 false rfl rfl rfl (List.Mem.head _) (op_move _ _ _ _ rfl rfl),
        st_run 14 17 false rfl rfl rfl (List.Mem.head _) (op_bin _ _ _ _ _ rfl rfl rfl),
        st_run 14 17 false rfl rfl rfl (List.Mem.head _) (op_move _ _ _ _ (congrArg (fun b => AV.v (Value.bool b)) hg1_17) rfl),
        st_run 17 20 true rfl rfl rfl (List.Mem.head _) (op_move _ _ _ _ rfl rfl),
        st_run 17 20 true rfl rfl rfl (List.Mem.head _) (op_bin _ _ _ _ _ rfl rfl rfl),
        st_run 14 17 false rfl rfl rfl (List.Mem.head _) (op_pick _ _ true _ rfl rfl),
        st_plain rfl (op_pick _ _ false _ rfl rfl),
        st_plain rfl (op_assign _ _ _ _ rfl rfl),
        trivial⟩ ?_
       exact hl3 _ (Option.some.inj h).symm
      ·refine ht_seqR hn (El := (_ :: (3, .v (.int .u8 c)) :: (4, .v (.bool ((decide (48 ≤ c))))) :: (5, .v (.bool true)) :: (6, .v (.int .u8 c)) :: (7, .v (.bool ((decide (c ≤ 57))))) :: (8, .v (.bool ((decide (c ≤ 57))))) :: (9, .v (.bool false)) :: (10, .v (.int .u8 c)) :: (11, .v (.bool ((decide (65 ≤ c))))) :: (12, .v (.bool false)) :: (13, .v undef) :: (14, .v undef) :: (15, .v (.bool false)) :: (16, .v (.bool false)) :: (17, .v (.bool false)) :: (18, .v (.int .u8 c)) :: (19, .v (.bool ((decide (97 ≤ c))))) :: (20, .v (.bool false)) :: (21, .v undef) :: (22, .v undef) :: (23, .v (.bool false)) :: (24, .v (.bool false)) :: (2, .v (.bool false)) :: [])) (init := [0]) (fin := [23]) (sps := (⟨[0], [], [1], [(.slot 3)]⟩ :: ⟨[1], [], [2], [(.slot 4)]⟩ :: ⟨[2], [], [3], [(.slot 5)]⟩ :: ⟨[3, 0], [], [4], [(.slot 6)]⟩ :: ⟨[3, 4], [], [5], [(.slot 7)]⟩ :: ⟨[3, 5], [], [6], [(.slot 8)]⟩ :: ⟨[6], [], [7], [(.slot 9)]⟩ :: ⟨[7, 0], [], [8], [(.slot 10)]⟩ :: ⟨[7, 8], [], [9], [(.slot 11)]⟩ :: ⟨[7, 9], [], [10], [(.slot 12)]⟩ :: ⟨[10], [], [11], [(.slot 13)]⟩ :: ⟨[10], [], [12], [(.slot 14)]⟩ :: ⟨[7, 10], [], [13], [(.slot 15)]⟩ :: ⟨[7, 13], [], [14], [(.slot 16)]⟩ :: ⟨[14], [], [15], [(.slot 17)]⟩ :: ⟨[15, 0], [], [16], [(.slot 18)]⟩ :: ⟨[15, 16], [], [17], [(.slot 19)]⟩ :: ⟨[15, 17], [], [18], [(.slot 20)]⟩ :: ⟨[18], [], [19], [(.slot 21)]⟩ :: ⟨[18], [], [20], [(.slot 22)]⟩ :: ⟨[15, 18], [], [21], [(.slot 23)]⟩ :: ⟨[15, 21], [], [22], [(.slot 24)]⟩ :: ⟨[22], [], [23], [(.slot 2)]⟩ :: [])) (es' := [(2, .v (.bool false))]) (by kernel_rfl) rfl rfl
        ⟨st_plain rfl (op_move _ _ _ _ rfl rfl),
        st_plain rfl (op_bin _ _ _ _ _ rfl rfl rfl),
        st_plain rfl (op_move _ _ _ _ (congrArg (fun b => AV.v (Value.bool b)) hg1_2) rfl),
        st_run 2 5 true rfl rfl rfl (List.Mem.head _) (op_move _ _ _ _ rfl rfl),
        st_run 2 5 true rfl rfl rfl (List.Mem.head _) (op_bin _ _ _ _ _ rfl rfl rfl),
        st_plain rfl (op_pick _ _ true _ rfl rfl),
        st_plain rfl (op_move _ _ _ _ (congrArg (fun b => AV.v (Value.bool b)) hg1_6) rfl),
        st_run 6 9 false rfl rfl rfl (List.Mem.head _) (op_move _ _ _ _ rfl rfl),
        st_run 6 9 false rfl rfl rfl (List.Mem.head _) (op_bin _ _ _ _ _ rfl rfl rfl),
        st_run 6 9 false rfl rfl rfl (List.Mem.head _) (op_move _ _ _ _ (congrArg (fun b => AV.v (Value.bool b)) hg1_9) rfl),
        st_skip 9 12 _ true rfl rfl rfl rfl (List.Mem.head _),
        st_skip 9 12 _ true rfl rfl rfl rfl (List.Mem.head _),
        st_run 6 9 false rfl rfl rfl (List.Mem.head _) (op_pick _ _ false _ rfl rfl),
        st_plain rfl (op_pick _ _ false _ rfl rfl),
        st_plain rfl (op_move _ _ _ _ rfl rfl),
        st_run 14 17 false rfl rfl rfl (List.Mem.head _) (op_move _ _ _ _ rfl rfl),
        st_run 14 17 false rfl rfl rfl (List.Mem.head _) (op_bin _ _ _ _ _ rfl rfl rfl),
        st_run 14 17 false rfl rfl rfl (List.Mem.head _) (op_move _ _ _ _ (congrArg (fun b => AV.v (Value.bool b)) hg1_17) rfl),
        st_skip 17 20 _ true rfl rfl rfl rfl (List.Mem.head _),
        st_skip 17 20 _ true rfl rfl rfl rfl (List.Mem.head _),
        st_run 14 17 false rfl rfl rfl (List.Mem.head _) (op_pick _ _ false _ rfl rfl),
        st_plain rfl (op_pick _ _ false _ rfl rfl),
        st_plain rfl (op_assign _ _ _ _ rfl rfl),
        trivial⟩ ?_
       exact hl3 _ (Option.some.inj h).symm
   ·refine cond_some h (fun hg1_9 h => ?_) (fun hg1_9 h => ?_)
    ·refine cond_some h (fun hg1_14 h => ?_) (fun hg1_14 h => ?_)
     ·refine ht_seqR hn (El := (_ :: (3, .v (.int .u8 c)) :: (4, .v (.bool ((decide (48 ≤ c))))) :: (5, .v (.bool false)) :: (6, .v undef) :: (7, .v undef) :: (8, .v (.bool false)) :: (9, .v (.bool false)) :: (10, .v (.int .u8 c)) :: (11, .v (.bool ((decide (65 ≤ c))))) :: (12, .v (.bool true)) :: (13, .v (.int .u8 c)) :: (14, .v (.bool ((decide (c ≤ 90))))) :: (15, .v (.bool ((decide (c ≤ 90))))) :: (16, .v (.bool ((decide (c ≤ 90))))) :: (17, .v (.bool true)) :: (18, .v undef) :: (19, .v undef) :: (20, .v undef) :: (21, .v undef) :: (22, .v undef) :: (23, .v undef) :: (24, .v (.bool true)) :: (2, .v (.bool true)) :: [])) (init := [0]) (fin := [23]) (sps := (⟨[0], [], [1], [(.slot 3)]⟩ :: ⟨[1], [], [2], [(.slot 4)]⟩ :: ⟨[2], [], [3], [(.slot 5)]⟩ :: ⟨[3], [], [4], [(.slot 6)]⟩ :: ⟨[3], [], [5], [(.slot 7)]⟩ :: ⟨[3], [], [6], [(.slot 8)]⟩ :: ⟨[6], [], [7], [(.slot 9)]⟩ :: ⟨[7, 0], [], [8], [(.slot 10)]⟩ :: ⟨[7, 8], [], [9], [(.slot 11)]⟩ :: ⟨[7, 9], [], [10], [(.slot 12)]⟩ :: ⟨[10, 0], [], [11], [(.slot 13)]⟩ :: ⟨[10, 11], [], [12], [(.slot 14)]⟩ :: ⟨[7, 10, 12], [], [13], [(.slot 15)]⟩ :: ⟨[7, 13], [], [14], [(.slot 16)]⟩ :: ⟨[14], [], [15], [(.slot 17)]⟩ :: ⟨[15], [], [16], [(.slot 18)]⟩ :: ⟨[15], [], [17], [(.slot 19)]⟩ :: ⟨[15], [], [18], [(.slot 20)]⟩ :: ⟨[18], [], [19], [(.slot 21)]⟩ :: ⟨[18], [], [20], [(.slot 22)]⟩ :: ⟨[15], [], [21], [(.slot 23)]⟩ :: ⟨[15], [], [22], [(.slot 24)]⟩ :: ⟨[22], [], [23], [(.slot 2)]⟩ :: [])) (es' := [(2, .v (.bool true))]) (by kernel_rfl) rfl rfl
       ⟨st_plain rfl (op_move _ _ _ _ rfl rfl),
       st_plain rfl (op_bin _ _ _ _ _ rfl rfl rfl),
       st_plain rfl (op_move _ _ _ _ (congrArg (fun b => AV.v (Value.bool b)) hg1_2) rfl),
       st_skip 2 5 _ true rfl rfl rfl rfl (List.Mem.head _),
       st_skip 2 5 _ true rfl rfl rfl rfl (List.Mem.head _),
       st_plain rfl (op_pick _ _ false _ rfl rfl),
       st_plain rfl (op_move _ _ _ _ rfl rfl),
       st_run 6 9 false rfl rfl rfl (List.Mem.head _) (op_move _ _ _ _ rfl rfl),
       st_run 6 9 false rfl rfl rfl (List.Mem.head _) (op_bin _ _ _ _ _ rfl rfl rfl),
       st_run 6 9 false rfl rfl rfl (List.Mem.head _) (op_move _ _ _ _ (congrArg (fun b => AV.v (Value.bool b)) hg1_9) rfl),
       st_run 9 12 true rfl rfl rfl (List.Mem.head _) (op_move _ _ _ _ rfl rfl),
       st_run 9 12 true rfl rfl rfl (List.Mem.head _) (op_bin _ _ _ _ _ rfl rfl rfl),
       st_run 6 9 false rfl rfl rfl (List.Mem.head _) (op_pick _ _ true _ rfl rfl),
       st_plain rfl (op_pick _ _ false _ rfl rfl),
       st_plain rfl (op_move _ _ _ _ (congrArg (fun b => AV.v (Value.bool b)) hg1_14) rfl),
       st_skip 14 17 _ false rfl rfl rfl rfl (List.Mem.head _),
       st_skip 14 17 _ false rfl rfl rfl rfl (List.Mem.head _),
       st_skip 14 17 _ false rfl rfl rfl rfl (List.Mem.head _),
       st_skipU 17 20 _ true rfl rfl rfl rfl (List.Mem.head _),
       st_skipU 17 20 _ true rfl rfl rfl rfl (List.Mem.head _),
       st_skip 14 17 _ false rfl rfl rfl rfl (List.Mem.head _),
       st_plain rfl (op_pick _ _ true _ rfl rfl),
       st_plain rfl (op_assign _ _ _ _ rfl rfl),
       trivial⟩ ?_
      exact hl3 _ (Option.some.inj h).symm
     ·refine cond_some h (fun hg1_17 h => ?_) (fun hg1_17 h => ?_)
      ·refine ht_seqR hn (El := (_ :: (3, .v (.int .u8 c)) :: (4, .v (.bool ((decide (48 ≤ c))))) :: (5, .v (.bool false)) :: (6, .v undef) :: (7, .v undef) :: (8, .v (.bool false)) :: (9, .v (.bool false)) :: (10, .v (.int .u8 c)) :: (11, .v (.bool ((decide (65 ≤ c))))) :: (12, .v (.bool true)) :: (13, .v (.int .u8 c)) :: (14, .v (.bool ((decide (c ≤ 90))))) :: (15, .v (.bool ((decide (c ≤ 90))))) :: (16, .v (.bool ((decide (c ≤ 90))))) :: (17, .v (.bool false)) :: (18, .v (.int .u8 c)) :: (19, .v (.bool ((decide (97 ≤ c))))) :: (20, .v (.bool true)) :: (21, .v (.int .u8 c)) :: (22, .v (.bool ((decide (c ≤ 122))))) :: (23, .v (.bool ((decide (c ≤ 122))))) :: (24, .v (.bool ((decide (c ≤ 122))))) :: (2, .v (.bool ((decide (c ≤ 122))))) :: [])) (init := [0]) (fin := [23]) (sps := (⟨[0], [], [1], [(.slot 3)]⟩ :: ⟨[1], [], [2], [(.slot 4)]⟩ :: ⟨[2], [], [3], [(.slot 5)]⟩ :: ⟨[3], [], [4], [(.slot 6)]⟩ :: ⟨[3], [], [5], [(.slot 7)]⟩ :: ⟨[3], [], [6], [(.slot 8)]⟩ :: ⟨[6], [], [7], [(.slot 9)]⟩ :: ⟨[7, 0], [], [8], [(.slot 10)]⟩ :: ⟨[7, 8], [], [9], [(.slot 11)]⟩ :: ⟨[7, 9], [], [10], [(.slot 12)]⟩ :: ⟨[10, 0], [], [11], [(.slot 13)]⟩ :: ⟨[10, 11], [], [12], [(.slot 14)]⟩ :: ⟨[7, 10, 12], [], [13], [(.slot 15)]⟩ :: ⟨[7, 13], [], [14], [(.slot 16)]⟩ :: ⟨[14], [], [15], [(.slot 17)]⟩ :: ⟨[15, 0], [], [16], [(.slot 18)]⟩ :: ⟨[15, 16], [], [17], [(.slot 19)]⟩ :: ⟨[15, 17], [], [18], [(.slot 20)]⟩ :: ⟨[18, 0], [], [19], [(.slot 21)]⟩ :: ⟨[18, 19], [], [20], [(.slot 22)]⟩ :: ⟨[15, 18, 20], [], [21], [(.slot 23)]⟩ :: ⟨[15, 21], [], [22], [(.slot 24)]⟩ :: ⟨[22], [], [23], [(.slot 2)]⟩ :: [])) (es' := [(2, .v (.bool ((decide (c ≤ 122)))))]) (by kernel_rfl) rfl rfl
        ⟨st_plain rfl (op_move _ _ _ _ rfl rfl),
        st_plain rfl (op_bin _ _ _ _ _ rfl rfl rfl),
        st_plain rfl (op_move _ _ _ _ (congrArg (fun b => AV.v (Value.bool b)) hg1_2) rfl),
        st_skip 2 5 _ true rfl rfl rfl rfl (List.Mem.head _),
        st_skip 2 5 _ true rfl rfl rfl rfl (List.Mem.head _),
        st_plain rfl (op_pick _ _ false _ rfl rfl),
        st_plain rfl (op_move _ _ _ _ rfl rfl),
        st_run 6 9 false rfl rfl rfl (List.Mem.head _) (op_move _ _ _ _ rfl rfl),
        st_run 6 9 false rfl rfl rfl (List.Mem.head _) (op_bin _ _ _ _ _ rfl rfl rfl),
        st_run 6 9 false rfl rfl rfl (List.Mem.head _) (op_move _ _ _ _ (congrArg (fun b => AV.v (Value.bool b)) hg1_9) rfl),
        st_run 9 12 true rfl rfl rfl (List.Mem.head _) (op_move _ _ _ _ rfl rfl),
        st_run 9 12 true rfl rfl rfl (List.Mem.head _) (op_bin _ _ _ _ _ rfl rfl rfl),
        st_run 6 9 false rfl rfl rfl (List.Mem.head _) (op_pick _ _ true _ rfl rfl),
        st_plain rfl (op_pick _ _ false _ rfl rfl),
        st_plain rfl (op_move _ _ _ _ (congrArg (fun b => AV.v (Value.bool b)) hg1_14) rfl),
        st_run 14 17 false rfl rfl rfl (List.Mem.head _) (op_move _ _ _ _ rfl rfl),
        st_run 14 17 false rfl rfl rfl (List.Mem.head _) (op_bin _ _ _ _ _ rfl rfl rfl),
        st_run 14 17 false rfl rfl rfl (List.Mem.head _) (op_move _ _ _ _ (congrArg (fun b => AV.v (Value.bool b)) hg1_17) rfl),
        st_run 17 20 true rfl rfl rfl (List.Mem.head _) (op_move _ _ _ _ rfl rfl),
        st_run 17 20 true rfl rfl rfl (List.Mem.head _) (op_bin _ _ _ _ _ rfl rfl rfl),
        st_run 14 17 false rfl rfl rfl (List.Mem.head _) (op_pick _ _ true _ rfl rfl),
        st_plain rfl (op_pick _ _ false _ rfl rfl),
        st_plain rfl (op_assign _ _ _ _ rfl rfl),
        trivial⟩ ?_
       exact hl3 _ (Option.some.inj h).symm
      ·refine ht_seqR hn (El := (_ :: (3, .v (.int .u8 c)) :: (4, .v (.bool ((decide (48 ≤ c))))) :: (5, .v (.bool false)) :: (6, .v undef) :: (7, .v undef) :: (8, .v (.bool false)) :: (9, .v (.bool false)) :: (10, .v (.int .u8 c)) :: (11, .v (.bool ((decide (65 ≤ c))))) :: (12, .v (.bool true)) :: (13, .v (.int .u8 c)) :: (14, .v (.bool ((decide (c ≤ 90))))) :: (15, .v (.bool ((decide (c ≤ 90))))) :: (16, .v (.bool ((decide (c ≤ 90))))) :: (17, .v (.bool false)) :: (18, .v (.int .u8 c)) :: (19, .v (.bool ((decide (97 ≤ c))))) :: (20, .v (.bool false)) :: (21, .v undef) :: (22, .v undef) :: (23, .v (.bool false)) :: (24, .v (.bool false)) :: (2, .v (.bool false)) :: [])) (init := [0]) (fin := [23]) (sps := (⟨[0], [], [1], [(.slot 3)]⟩ :: ⟨[1], [], [2], [(.slot 4)]⟩ :: ⟨[2], [], [3], [(.slot 5)]⟩ :: ⟨[3], [], [4], [(.slot 6)]⟩ :: ⟨[3], [], [5], [(.slot 7)]⟩ :: ⟨[3], [], [6], [(.slot 8)]⟩ :: ⟨[6], [], [7], [(.slot 9)]⟩ :: ⟨[7, 0], [], [8], [(.slot 10)]⟩ :: ⟨[7, 8], [], [9], [(.slot 11)]⟩ :: ⟨[7, 9], [], [10], [(.slot 12)]⟩ :: ⟨[10, 0], [], [11], [(.slot 13)]⟩ :: ⟨[10, 11], [], [12], [(.slot 14)]⟩ :: ⟨[7, 10, 12], [], [13], [(.slot 15)]⟩ :: ⟨[7, 13], [], [14], [(.slot 16)]⟩ :: ⟨[14], [], [15], [(.slot 17)]⟩ :: ⟨[15, 0], [], [16], [(.slot 18)]⟩ :: ⟨[15, 16], [], [17], [(.slot 19)]⟩ :: ⟨[15, 17], [], [18], [(.slot 20)]⟩ :: ⟨[18], [], [19], [(.slot 21)]⟩ :: ⟨[18], [], [20], [(.slot 22)]⟩ :: ⟨[15, 18], [], [21], [(.slot 23)]⟩ :: ⟨[15, 21], [], [22], [(.slot 24)]⟩ :: ⟨[22], [], [23], [(.slot 2)]⟩ :: [])) (es' := [(2, .v (.bool false))]) (by kernel_rfl) rfl rfl
        ⟨st_plain rfl (op_move _ _ _ _ rfl rfl),
        st_plain rfl (op_bin _ _ _ _ _ rfl rfl rfl),
        st_plain rfl (op_move _ _ _ _ (congrArg (fun b => AV.v (Value.bool b)) hg1_2) rfl),
        st_skip 2 5 _ true rfl rfl rfl rfl (List.Mem.head _),
        st_skip 2 5 _ true rfl rfl rfl rfl (List.Mem.head _),
        st_plain rfl (op_pick _ _ false _ rfl rfl),
        st_plain rfl (op_move _ _ _ _ rfl rfl),
        st_run 6 9 false rfl rfl rfl (List.Mem.head _) (op_move _ _ _ _ rfl rfl),
        st_run 6 9 false rfl rfl rfl (List.Mem.head _) (op_bin _ _ _ _ _ rfl rfl rfl),
        st_run 6 9 false rfl rfl rfl (List.Mem.head _) (op_move _ _ _ _ (congrArg (fun b => AV.v (Value.bool b)) hg1_9) rfl),
        st_run 9 12 true rfl rfl rfl (List.Mem.head _) (op_move _ _ _ _ rfl rfl),
        st_run 9 12 true rfl rfl rfl (List.Mem.head _) (op_bin _ _ _ _ _ rfl rfl rfl),
        st_run 6 9 false rfl rfl rfl (List.Mem.head _) (op_pick _ _ true _ rfl rfl),
        st_plain rfl (op_pick _ _ false _ rfl rfl),
        st_plain rfl (op_move _ _ _ _ (congrArg (fun b => AV.v (Value.bool b)) hg1_14) rfl),
        st_run 14 17 false rfl rfl rfl (List.Mem.head _) (op_move _ _ _ _ rfl rfl),
        st_run 14 17 false rfl rfl rfl (List.Mem.head _) (op_bin _ _ _ _ _ rfl rfl rfl),
        st_run 14 17 false rfl rfl rfl (List.Mem.head _) (op_move _ _ _ _ (congrArg (fun b => AV.v (Value.bool b)) hg1_17) rfl),
        st_skip 17 20 _ true rfl rfl rfl rfl (List.Mem.head _),
        st_skip 17 20 _ true rfl rfl rfl rfl (List.Mem.head _),
        st_run 14 17 false rfl rfl rfl (List.Mem.head _) (op_pick _ _ false _ rfl rfl),
        st_plain rfl (op_pick _ _ false _ rfl rfl),
        st_plain rfl (op_assign _ _ _ _ rfl rfl),
        trivial⟩ ?_
       exact hl3 _ (Option.some.inj h).symm
    ·refine cond_some h (fun hg1_17 h => ?_) (fun hg1_17 h => ?_)
     ·refine ht_seqR hn (El := (_ :: (3, .v (.int .u8 c)) :: (4, .v (.bool ((decide (48 ≤ c))))) :: (5, .v (.bool false)) :: (6, .v undef) :: (7, .v undef) :: (8, .v (.bool false)) :: (9, .v (.bool false)) :: (10, .v (.int .u8 c)) :: (11, .v (.bool ((decide (65 ≤ c))))) :: (12, .v (.bool false)) :: (13, .v undef) :: (14, .v undef) :: (15, .v (.bool false)) :: (16, .v (.bool false)) :: (17, .v (.bool false)) :: (18, .v (.int .u8 c)) :: (19, .v (.bool ((decide (97 ≤ c))))) :: (20, .v (.bool true)) :: (21, .v (.int .u8 c)) :: (22, .v (.bool ((decide (c ≤ 122))))) :: (23, .v (.bool ((decide (c ≤ 122))))) :: (24, .v (.bool ((decide (c ≤ 122))))) :: (2, .v (.bool ((decide (c ≤ 122))))) :: [])) (init := [0]) (fin := [23]) (sps := (⟨[0], [], [1], [(.slot 3)]⟩ :: ⟨[1], [], [2], [(.slot 4)]⟩ :: ⟨[2], [], [3], [(.slot 5)]⟩ :: ⟨[3], [], [4], [(.slot 6)]⟩ :: ⟨[3], [], [5], [(.slot 7)]⟩ :: ⟨[3], [], [6], [(.slot 8)]⟩ :: ⟨[6], [], [7], [(.slot 9)]⟩ :: ⟨[7, 0], [], [8], [(.slot 10)]⟩ :: ⟨[7, 8], [], [9], [(.slot 11)]⟩ :: ⟨[7, 9], [], [10], [(.slot 12)]⟩ :: ⟨[10], [], [11], [(.slot 13)]⟩ :: ⟨[10], [], [12], [(.slot 14)]⟩ :: ⟨[7, 10], [], [13], [(.slot 15)]⟩ :: ⟨[7, 13], [], [14], [(.slot 16)]⟩ :: ⟨[14], [], [15], [(.slot 17)]⟩ :: ⟨[15, 0], [], [16], [(.slot 18)]⟩ :: ⟨[15, 16], [], [17], [(.slot 19)]⟩ :: ⟨[15, 17], [], [18], [(.slot 20)]⟩ :: ⟨[18, 0], [], [19], [(.slot 21)]⟩ :: ⟨[18, 19], [], [20], [(.slot 22)]⟩ :: ⟨[15, 18, 20], [], [21], [(.slot 23)]⟩ :: ⟨[15, 21], [], [22], [(.slot 24)]⟩ :: ⟨[22], [], [23], [(.slot 2)]⟩ :: [])) (es' := [(2, .v (.bool ((decide (c ≤ 122)))))]) (by kernel_rfl) rfl rfl
       ⟨st_plain rfl (op_move _ _ _ _ rfl rfl),
       st_plain rfl (op_bin _ _ _ _ _ rfl rfl rfl),
       st_plain rfl (op_move _ _ _ _ (congrArg (fun b => AV.v (Value.bool b)) hg1_2) rfl),
       st_skip 2 5 _ true rfl rfl rfl rfl (List.Mem.head _),
       st_skip 2 5 _ true rfl rfl rfl rfl (List.Mem.head _),
       st_plain rfl (op_pick _ _ false _ rfl rfl),
       st_plain rfl (op_move _ _ _ _ rfl rfl),
       st_run 6 9 false rfl rfl rfl (List.Mem.head _) (op_move _ _ _ _ rfl rfl),
       st_run 6 9 false rfl rfl rfl (List.Mem.head _) (op_bin _ _ _ _ _ rfl rfl rfl),
       st_run 6 9 false rfl rfl rfl (List.Mem.head _) (op_move _ _ _ _ (congrArg (fun b => AV.v (Value.bool b)) hg1_9) rfl),
       st_skip 9 12 _ true rfl rfl rfl rfl (List.Mem.head _),
       st_skip 9 12 _ true rfl rfl rfl rfl (List.Mem.head _),
       st_run 6 9 false rfl rfl rfl (List.Mem.head _) (op_pick _ _ false _ rfl rfl),
       st_plain rfl (op_pick _ _ false _ rfl rfl),
       st_plain rfl (op_move _ _ _ _ rfl rfl),
       st_run 14 17 false rfl rfl rfl (List.Mem.head _) (op_move _ _ _ _ rfl rfl),
       st_run 14 17 false rfl rfl rfl (List.Mem.head _) (op_bin _ _ _ _ _ rfl rfl rfl),
       st_run 14 17 false rfl rfl rfl (List.Mem.head _) (op_move _ _ _ _ (congrArg (fun b => AV.v (Value.bool b)) hg1_17) rfl),
       st_run 17 20 true rfl rfl rfl (List.Mem.head _) (op_move _ _ _ _ rfl rfl),
       st_run 17 20 true rfl rfl rfl (List.Mem.head _) (op_bin _ _ _ _ _ rfl rfl rfl),
       st_run 14 17 false rfl rfl rfl (List.Mem.head _) (op_pick _ _ true _ rfl rfl),
       st_plain rfl (op_pick _ _ false _ rfl rfl),
       st_plain rfl (op_assign _ _ _ _ rfl rfl),
       trivial⟩ ?_
      exact hl3 _ (Option.some.inj h).symm
     ·refine ht_seqR hn (El := (_ :: (3, .v (.int .u8 c)) :: (4, .v (.bool ((decide (48 ≤ c))))) :: (5, .v (.bool false)) :: (6, .v undef) :: (7, .v undef) :: (8, .v (.bool false)) :: (9, .v (.bool false)) :: (10, .v (.int .u8 c)) :: (11, .v (.bool ((decide (65 ≤ c))))) :: (12, .v (.bool false)) :: (13, .v undef) :: (14, .v undef) :: (15, .v (.bool false)) :: (16, .v (.bool false)) :: (17, .v (.bool false)) :: (18, .v (.int .u8 c)) :: (19, .v (.bool ((decide (97 ≤ c))))) :: (20, .v (.bool false)) :: (21, .v undef) :: (22, .v undef) :: (23, .v (.bool false)) :: (24, .v (.bool false)) :: (2, .v (.bool false)) :: [])) (init := [0]) (fin := [23]) (sps := (⟨[0], [], [1], [(.slot 3)]⟩ :: ⟨[1], [], [2], [(.slot 4)]⟩ :: ⟨[2], [], [3], [(.slot 5)]⟩ :: ⟨[3], [], [4], [(.slot 6)]⟩ :: ⟨[3], [], [5], [(.slot 7)]⟩ :: ⟨[3], [], [6], [(.slot 8)]⟩ :: ⟨[6], [], [7], [(.slot 9)]⟩ :: ⟨[7, 0], [], [8], [(.slot 10)]⟩ :: ⟨[7, 8], [], [9], [(.slot 11)]⟩ :: ⟨[7, 9], [], [10], [(.slot 12)]⟩ :: ⟨[10], [], [11], [(.slot 13)]⟩ :: ⟨[10], [], [12], [(.slot 14)]⟩ :: ⟨[7, 10], [], [13], [(.slot 15)]⟩ :: ⟨[7, 13], [], [14], [(.slot 16)]⟩ :: ⟨[14], [], [15], [(.slot 17)]⟩ :: ⟨[15, 0], [], [16], [(.slot 18)]⟩ :: ⟨[15, 16], [], [17], [(.slot 19)]⟩ :: ⟨[15, 17], [], [18], [(.slot 20)]⟩ :: ⟨[18], [], [19], [(.slot 21)]⟩ :: ⟨[18], [], [20], [(.slot 22)]⟩ :: ⟨[15, 18], [], [21], [(.slot 23)]⟩ :: ⟨[15, 21], [], [22], [(.slot 24)]⟩ :: ⟨[22], [], [23], [(.slot 2)]⟩ :: [])) (es' := [(2, .v (.bool false))]) (by kernel_rfl) rfl rfl
       ⟨st_plain rfl (op_move _ _ _ _ rfl rfl),
       st_plain rfl (op_bin _ _ _ _ _ rfl rfl rfl),
       st_plain rfl (op_move _ _ _ _ (congrArg (fun b => AV.v (Value.bool b)) hg1_2) rfl),
       st_skip 2 5 _ true rfl rfl rfl rfl (List.Mem.head _),
       st_skip 2 5 _ true rfl rfl rfl rfl (List.Mem.head _),
       st_plain rfl (op_pick _ _ false _ rfl rfl),
       st_plain rfl (op_move _ _ _ _ rfl rfl),
       st_run 6 9 false rfl rfl rfl (List.Mem.head _) (op_move _ _ _ _ rfl rfl),
       st_run 6 9 false rfl rfl rfl (List.Mem.head _) (op_bin _ _ _ _ _ rfl rfl rfl),
       st_run 6 9 false rfl rfl rfl (List.Mem.head _) (op_move _ _ _ _ (congrArg (fun b => AV.v (Value.bool b)) hg1_9) rfl),
       st_skip 9 12 _ true rfl rfl rfl rfl (List.Mem.head _),
       st_skip 9 12 _ true rfl rfl rfl rfl (List.Mem.head _),
       st_run 6 9 false rfl rfl rfl (List.Mem.head _) (op_pick _ _ false _ rfl rfl),
       st_plain rfl (op_pick _ _ false _ rfl rfl),
       st_plain rfl (op_move _ _ _ _ rfl rfl),
       st_run 14 17 false rfl rfl rfl (List.Mem.head _) (op_move _ _ _ _ rfl rfl),
       st_run 14 17 false rfl rfl rfl (List.Mem.head _) (op_bin _ _ _ _ _ rfl rfl rfl),
       st_run 14 17 false rfl rfl rfl (List.Mem.head _) (op_move _ _ _ _ (congrArg (fun b => AV.v (Value.bool b)) hg1_17) rfl),
       st_skip 17 20 _ true rfl rfl rfl rfl (List.Mem.head _),
       st_skip 17 20 _ true rfl rfl rfl rfl (List.Mem.head _),
       st_run 14 17 false rfl rfl rfl (List.Mem.head _) (op_pick _ _ false _ rfl rfl),
       st_plain rfl (op_pick _ _ false _ rfl rfl),
       st_plain rfl (op_assign _ _ _ _ rfl rfl),
       trivial⟩ ?_
      exact hl3 _ (Option.some.inj h).symm

theorem ok_strings_IndexByte (s : ByteArray) (c r : Int) (h : Sh.strings_IndexByte s c = some r) : FnOK Tryd.prog 68 [.v (.string s), .v (.int .u8 c)] (.v (.int .i64 r)) := lib_strings_IndexByte Tryd.strings_IndexByte s c r h

set_option maxHeartbeats 1000000 in
theorem ok_path_atom_1 (c : Int) (r : Bool) (h : Sh.path_atom_1 c = some r) : FnOK Tryd.prog 67 [.v (.int .u8 c)] (.v (.bool r)) := by
  unfold Sh.path_atom_1 at h
  refine fn_ok Tryd.func67 rfl (Nat.le_of_ble_eq_true rfl) rfl rfl fun g0 hn hio => ?_
  refine ht_seq ?_
  refine ht_seqR hn (El := [_, (2, .v (.bool false))]) (init := [0]) (fin := [0]) (sps := [⟨[], [], [1], [(.slot 2)]⟩]) (es' := [(_, _)]) (by kernel_rfl) rfl rfl
   ⟨st_plain rfl (op_assign _ _ _ _ rfl rfl),
   trivial⟩ ?_
  refine pt_then ?_
  refine ht_seq ?_
  refine ht_joinS h (fun (s3 : Bool) => [(2, .v (.bool s3))]) ?_ ?_
  ·rintro s3 h
   refine pt_then ?_
   refine ht_ret ?_
   obtain rfl := Option.some.inj h
   exact pt_ret hio rfl (.tmp _ _ .nil) rfl rfl
  ·intro u4 h hl5 hr6
   obtain ⟨v1, hv1, h⟩ := bind_some h
   refine cond_some h (fun hg1_2 h => ?_) (fun hg1_2 h => ?_)
   ·refine ht_seqR hn (El := [_, (3, .v (.int .u8 c)), (4, .v (.bool v1)), (5, .v (.bool true)), (6, .v undef), (7, .v undef), (8, .v undef), (9, .v (.bool true)), (2, .v (.bool true))]) (init := [0]) (fin := [8]) (sps := [⟨[0], [], [1], [(.slot 3)]⟩, ⟨[1], [], [2], [(.slot 4)]⟩, ⟨[2], [], [3], [(.slot 5)]⟩, ⟨[3], [], [4], [(.slot 6)]⟩, ⟨[3], [], [5], [(.slot 7)]⟩, ⟨[3], [], [6], [(.slot 8)]⟩, ⟨[3], [], [7], [(.slot 9)]⟩, ⟨[7], [], [8], [(.slot 2)]⟩]) (es' := [(2, .v (.bool true))]) (by kernel_rfl) rfl rfl
     ⟨st_plain rfl (op_move _ _ _ _ rfl rfl),
     st_plain rfl (op_call _ _ 50 _ _ rfl Tryd.call50 rfl (ok_path_alphanumeric c _ hv1) rfl rfl),
     st_plain rfl (op_move _ _ _ _ (congrArg (fun b => AV.v (Value.bool b)) hg1_2) rfl),
     st_skip 2 5 _ false rfl rfl rfl rfl (List.Mem.head _),
     st_skip 2 5 _ false rfl rfl rfl rfl (List.Mem.head _),
     st_skip 2 5 _ false rfl rfl rfl rfl (List.Mem.head _),
     st_plain rfl (op_pick _ _ true _ rfl rfl),
     st_plain rfl (op_assign _ _ _ _ rfl rfl),
     trivial⟩ ?_
    exact hl5 _ (Option.some.inj h).symm
   ·obtain ⟨v2, hv2, h⟩ := bind_some h
    refine ht_seqR hn (El := [_, (3, .v (.int .u8 c)), (4, .v (.bool v1)), (5, .v (.bool false)), (6, .v (.int .u8 c)), (7, .v (.int .i64 v2)), (8, .v (.bool ((decide (0 ≤ v2))))), (9, .v (.bool ((decide (0 ≤ v2))))), (2, .v (.bool ((decide (0 ≤ v2)))))]) (init := [0]) (fin := [8]) (sps := [⟨[0], [], [1], [(.slot 3)]⟩, ⟨[1], [], [2], [(.slot 4)]⟩, ⟨[2], [], [3], [(.slot 5)]⟩, ⟨[3, 0], [], [4], [(.slot 6)]⟩, ⟨[3, 4], [], [5], [(.slot 7)]⟩, ⟨[3, 5], [], [6], [(.slot 8)]⟩, ⟨[3, 6], [], [7], [(.slot 9)]⟩, ⟨[7], [], [8], [(.slot 2)]⟩]) (es' := [(2, .v (.bool ((decide (0 ≤ v2)))))]) (by kernel_rfl) rfl rfl
     ⟨st_plain rfl (op_move _ _ _ _ rfl rfl),
     st_plain rfl (op_call _ _ 50 _ _ rfl Tryd.call50 rfl (ok_path_alphanumeric c _ hv1) rfl rfl),
     st_plain rfl (op_move _ _ _ _ (congrArg (fun b => AV.v (Value.bool b)) hg1_2) rfl),
     st_run 2 5 false rfl rfl rfl (List.Mem.head _) (op_move _ _ _ _ rfl rfl),
     st_run 2 5 false rfl rfl rfl (List.Mem.head _) (op_call _ _ 68 _ _ rfl Tryd.call68 rfl (ok_strings_IndexByte (⟨#[33, 35, 36, 37, 38, 39, 42, 43, 45, 47, 61, 63, 94, 95, 96, 123, 124, 125, 126]⟩ : ByteArray) c _ hv2) rfl rfl),
     st_run 2 5 false rfl rfl rfl (List.Mem.head _) (op_bin _ _ _ _ _ rfl rfl rfl),
     st_plain rfl (op_pick _ _ false _ rfl rfl),
     st_plain rfl (op_assign _ _ _ _ rfl rfl),
     trivial⟩ ?_
    exact hl5 _ (Option.some.inj h).symm

set_option maxHeartbeats 1000000 in
theorem ok_path_all_of_path_atom_1 (s : ByteArray) (r : Bool) (h : Sh.path_all_of_path_atom_1 s = some r) : FnOK Tryd.prog 48 [.v (.string s), .v (.func (.func 67) #[] #[])] (.v (.bool r)) := by
  unfold Sh.path_all_of_path_atom_1 at h
  refine fn_ok Tryd.func48 rfl (Nat.le_of_ble_eq_true rfl) rfl rfl fun g0 hn hio => ?_
  refine ht_seq ?_
  refine ht_seqR hn (El := [_, _, (4, .v (.bool false))]) (init := [0, 1]) (fin := [0, 1]) (sps := [⟨[], [], [2], [(.slot 4)]⟩]) (es' := [(_, _), (_, _)]) (by kernel_rfl) rfl rfl
   ⟨st_plain rfl (op_assign _ _ _ _ rfl rfl),
   trivial⟩ ?_
  refine pt_then ?_
  refine ht_seq ?_
  refine ht_seq ?_
  refine ht_seqR hn (El := [_, _, (6, .v (.string s)), (7, .v (.int .i64 (s.size : Int))), (8, .v (.int .i64 0))]) (init := [0, 1]) (fin := [0, 1, 3, 4]) (sps := [⟨[0], [], [2], [(.slot 6)]⟩, ⟨[2], [], [3], [(.slot 7)]⟩, ⟨[], [], [4], [(.slot 8)]⟩]) (es' := [(_, _), (_, _), (7, .v (.int .i64 (s.size : Int))), (8, .v (.int .i64 0))]) (by kernel_rfl) rfl rfl
   ⟨st_plain rfl (op_move _ _ _ _ rfl rfl),
   st_plain rfl (op_len_str _ _ _ Tryd.underlying9 rfl),
   st_plain rfl (op_move _ _ _ _ rfl rfl),
   trivial⟩ ?_
  refine pt_then ?_
  refine ht_loopS h (fun (s9 : Int) => [(0, .v (.string s)), (1, .v (.func (.func 67) #[] #[])), (7, .v (.int .i64 (s.size : Int))), (8, .v (.int .i64 s9))]) (fun (() : Unit) => []) ?_ ?_
  ·rintro ⟨⟩ h
   refine pt_then ?_
   refine ht_seq ?_
   refine ht_seqR hn (El := [(4, .v (.bool true))]) (init := []) (fin := [0]) (sps := [⟨[], [], [0], [(.slot 4)]⟩]) (es' := [(4, .v (.bool true))]) (by kernel_rfl) rfl rfl
    ⟨st_plain rfl (op_assign _ _ _ _ rfl rfl),
    trivial⟩ ?_
   refine pt_then ?_
   refine ht_ret ?_
   obtain rfl := Option.some.inj h
   exact pt_ret hio rfl (.tmp _ _ .nil) rfl rfl
  ·rintro u12 hl13 hr14 s9 rr17 h ho15
   refine ht_seq ?_
   refine ht_seqR hn (El := [_, _, _, _, (9, .v (.bool ((decide (s9 < (s.size : Int))))))]) (init := [0, 1, 2, 3]) (fin := [0, 1, 2, 3, 4]) (sps := [⟨[3, 2], [], [4], [(.slot 9)]⟩]) (es' := [(_, _), (_, _), (_, _), (_, _), (9, .v (.bool ((decide (s9 < (s.size : Int))))))]) (by kernel_rfl) rfl rfl
    ⟨st_plain rfl (op_bin _ _ _ _ _ rfl rfl rfl),
    trivial⟩ ?_
   refine pt_then ?_
   refine ht_seq ?_
   refine ht_cond _ rfl (fun hb18 => ?_) (fun hb18 => ?_)
   ·have h := cond_t hb18 h
    refine ht_skip ?_
    refine pt_then ?_
    refine ht_seq ?_
    refine ht_block ?_
    refine ht_seq ?_
    refine ht_seqR hn (El := [_, _, _, _, _, (10, .v (.int .i64 s9)), (5, .v (.int .i64 s9))]) (init := [0, 1, 2, 3, 4]) (fin := [0, 1, 2, 3, 6]) (sps := [⟨[3], [], [5], [(.slot 10)]⟩, ⟨[5], [], [6], [(.slot 5)]⟩]) (es' := [(_, _), (_, _), (_, _), (_, _), (5, .v (.int .i64 s9))]) (by kernel_rfl) rfl rfl
     ⟨st_plain rfl (op_move _ _ _ _ rfl rfl),
     st_plain rfl (op_assign _ _ _ _ rfl rfl),
     trivial⟩ ?_
    refine pt_then ?_
    refine ht_seq ?_
    obtain ⟨v2, hv2, h⟩ := bind_some h
    obtain ⟨v3, hv3, h⟩ := bind_some h
    refine ht_seqR hn (El := [_, _, _, _, _, (11, .v (.func (.func 67) #[] #[])), (12, .v (.string s)), (13, .v (.int .i64 s9)), (14, .v (.int .u8 v2)), (15, .v (.bool v3)), (16, .v (.bool (!v3)))]) (init := [0, 1, 2, 3, 4]) (fin := [0, 1, 2, 3, 10]) (sps := [⟨[1], [], [5], [(.slot 11)]⟩, ⟨[0], [], [6], [(.slot 12)]⟩, ⟨[4], [], [7], [(.slot 13)]⟩, ⟨[6, 7], [], [8], [(.slot 14)]⟩, ⟨[8, 5], [], [9], [(.slot 15)]⟩, ⟨[9], [], [10], [(.slot 16)]⟩]) (es' := [(_, _), (_, _), (_, _), (_, _), (16, .v (.bool (!v3)))]) (by kernel_rfl) rfl rfl
     ⟨st_plain rfl (op_move _ _ _ _ rfl rfl),
     st_plain rfl (op_move _ _ _ _ rfl rfl),
     st_plain rfl (op_move _ _ _ _ rfl rfl),
     st_plain rfl (op_chr _ _ _ s9 _ Tryd.underlying9 rfl rfl hv2),
     st_plain rfl (op_call _ _ 67 _ _ rfl Tryd.call67 rfl (ok_path_atom_1 v2 _ hv3) rfl rfl),
     st_plain rfl (op_un _ _ _ _ rfl rfl),
     trivial⟩ ?_
    refine pt_then ?_
    refine ht_cond _ rfl (fun hb19 => ?_) (fun hb19 => ?_)
    ·have h := cond_t hb19 h
     refine ht_seq ?_
     refine ht_seqR hn (El := [_, _, _, _, _, (4, .v (.bool false))]) (init := [0, 1, 2, 3, 4]) (fin := [5]) (sps := [⟨[], [], [5], [(.slot 4)]⟩]) (es' := [(4, .v (.bool false))]) (by kernel_rfl) rfl rfl
      ⟨st_plain rfl (op_assign _ _ _ _ rfl rfl),
      trivial⟩ ?_
     refine pt_then ?_
     refine ht_ret ?_
     refine pt_r_in ?_
     refine pt_r_then ?_
     refine pt_r_then ?_
     refine pt_r_in ?_
     refine pt_r_then ?_
     have h := hr14 _ (ho15 _ (Option.some.inj h).symm).symm
     obtain rfl := Option.some.inj h
     exact pt_ret hio rfl (.tmp _ _ .nil) rfl rfl
    ·have h := cond_f hb19 h
     refine ht_skip ?_
     refine pt_inb ?_
     refine pt_then ?_
     obtain ⟨v5, hv5, h⟩ := bind_some h
     refine ht_seqR hn (El := [_, _, _, _, _, (17, .v (.int .i64 v5)), (8, .v (.int .i64 v5))]) (init := [0, 1, 2, 3, 4]) (fin := [0, 1, 2, 6]) (sps := [⟨[3], [], [5], [(.slot 17)]⟩, ⟨[5], [3], [6], [(.slot 8)]⟩]) (es' := [(_, _), (_, _), (_, _), (8, .v (.int .i64 v5))]) (by kernel_rfl) rfl rfl
      ⟨st_plain rfl (op_bin _ _ _ _ _ rfl rfl (ibind (f := Value.int .i64) (Option.some.inj hv5))),
      st_plain rfl (LOp.drop [_] (op_move _ _ _ _ rfl rfl)),
      trivial⟩ ?_
     exact pt_next _ (Option.some.inj h).symm rfl
   ·have h := cond_f hb18 h
    refine ht_exit ?_
    refine pt_x_then ?_
    refine pt_x_then ?_
    refine pt_x_in ?_
    refine pt_pick [] (by kernel_rfl) (es' := []) rfl ?_
    exact hl13 _ (ho15 _ (Option.some.inj h).symm).symm

set_option maxHeartbeats 1000000 in
theorem ok_path_atom (s : ByteArray) (r : Bool) (h : Sh.path_atom s = some r) : FnOK Tryd.prog 56 [.v (.string s)] (.v (.bool r)) := by
  unfold Sh.path_atom at h
  refine fn_ok Tryd.func56 rfl (Nat.le_of_ble_eq_true rfl) rfl rfl fun g0 hn hio => ?_
  refine ht_seq ?_
  refine ht_seqR hn (El := [_, (2, .v (.bool false))]) (init := [0]) (fin := [0]) (sps := [⟨[], [], [1], [(.slot 2)]⟩]) (es' := [(_, _)]) (by kernel_rfl) rfl rfl
   ⟨st_plain rfl (op_assign _ _ _ _ rfl rfl),
   trivial⟩ ?_
  refine pt_then ?_
  refine ht_seq ?_
  refine ht_joinS h (fun (s2 : Bool) => [(2, .v (.bool s2))]) ?_ ?_
  ·rintro s2 h
   refine pt_then ?_
   refine ht_ret ?_
   obtain rfl := Option.some.inj h
   exact pt_ret hio rfl (.tmp _ _ .nil) rfl rfl
  ·intro u3 h hl4 hr5
   refine cond_some h (fun hg1_2 h => ?_) (fun hg1_2 h => ?_)
   ·obtain ⟨v1, hv1, h⟩ := bind_some h
    refine ht_seqR hn (El := [_, (3, .v (.string s)), (4, .v (.bool ((!(s.toList == (⟨#[]⟩ : ByteArray).toList))))), (5, .v (.bool true)), (6, .v (.string s)), (7, .v (.bool v1)), (8, .v (.bool v1)), (2, .v (.bool v1))]) (init := [0]) (fin := [7]) (sps := [⟨[0], [], [1], [(.slot 3)]⟩, ⟨[1], [], [2], [(.slot 4)]⟩, ⟨[2], [], [3], [(.slot 5)]⟩, ⟨[3, 0], [], [4], [(.slot 6)]⟩, ⟨[3, 4], [], [5], [(.slot 7)]⟩, ⟨[3, 5], [], [6], [(.slot 8)]⟩, ⟨[6], [], [7], [(.slot 2)]⟩]) (es' := [(2, .v (.bool v1))]) (by kernel_rfl) rfl rfl
     ⟨st_plain rfl (op_move _ _ _ _ rfl rfl),
     st_plain rfl (op_bin _ _ _ _ _ rfl rfl rfl),
     st_plain rfl (op_move _ _ _ _ (congrArg (fun b => AV.v (Value.bool b)) hg1_2) rfl),
     st_run 2 5 true rfl rfl rfl (List.Mem.head _) (op_move _ _ _ _ rfl rfl),
     st_run 2 5 true rfl rfl rfl (List.Mem.head _) (op_call _ _ 48 _ _ rfl Tryd.call48 rfl (ok_path_all_of_path_atom_1 s _ hv1) rfl rfl),
     st_plain rfl (op_pick _ _ true _ rfl rfl),
     st_plain rfl (op_assign _ _ _ _ rfl rfl),
     trivial⟩ ?_
    exact hl4 _ (Option.some.inj h).symm
   ·refine ht_seqR hn (El := [_, (3, .v (.string s)), (4, .v (.bool ((!(s.toList == (⟨#[]⟩ : ByteArray).toList))))), (5, .v (.bool false)), (6, .v undef), (7, .v undef), (8, .v (.bool false)), (2, .v (.bool false))]) (init := [0]) (fin := [7]) (sps := [⟨[0], [], [1], [(.slot 3)]⟩, ⟨[1], [], [2], [(.slot 4)]⟩, ⟨[2], [], [3], [(.slot 5)]⟩, ⟨[3], [], [4], [(.slot 6)]⟩, ⟨[3], [], [5], [(.slot 7)]⟩, ⟨[3], [], [6], [(.slot 8)]⟩, ⟨[6], [], [7], [(.slot 2)]⟩]) (es' := [(2, .v (.bool false))]) (by kernel_rfl) rfl rfl
     ⟨st_plain rfl (op_move _ _ _ _ rfl rfl),
     st_plain rfl (op_bin _ _ _ _ _ rfl rfl rfl),
     st_plain rfl (op_move _ _ _ _ (congrArg (fun b => AV.v (Value.bool b)) hg1_2) rfl),
     st_skip 2 5 _ true rfl rfl rfl rfl (List.Mem.head _),
     st_skip 2 5 _ true rfl rfl rfl rfl (List.Mem.head _),
     st_plain rfl (op_pick _ _ false _ rfl rfl),
     st_plain rfl (op_assign _ _ _ _ rfl rfl),
     trivial⟩ ?_
    exact hl4 _ (Option.some.inj h).symm

set_option maxHeartbeats 1000000 in
theorem ok_path_dotted_of_path_atom (mx : Int) (s : ByteArray) (r : Bool) (h : Sh.path_dotted_of_path_atom s = some r) : FnG Tryd.prog (GL mx) 39 [.v (.string s), .v (.func (.func 56) #[] #[])] (.v (.bool r)) := by
  unfold Sh.path_dotted_of_path_atom at h
  refine fn_okG Tryd.func39 rfl (Nat.le_of_ble_eq_true rfl) rfl rfl fun g0 hn hio => ?_
  refine ht_seq ?_
  refine ht_seqR hn (El := [_, _, _, (3, .box 43 [.v (.func (.func 56) #[] #[])]), (4, .box 4 [.v (.bool false)])]) (init := [0, 1, 2]) (fin := [0, 2, 3, 4]) (sps := [⟨[1], [], [3], [(.slot 3)]⟩, ⟨[], [], [4], [(.slot 4)]⟩]) (es' := [(_, _), (_, _), (3, .box 43 [.v (.func (.func 56) #[] #[])]), (4, .box 4 [.v (.bool false)])]) (by kernel_rfl) rfl rfl
   ⟨st_plain rfl (op_box _ _ _ _ rfl rfl rfl),
   st_plain rfl (op_alloc _ _ zr4),
   trivial⟩ ?_
  refine pt_then ?_
  refine ht_seq ?_
  refine ht_seq ?_
  obtain ⟨v1, hv1, h⟩ := bind_some h
  refine ht_seqR hn (El := [_, _, _, _, (6, .v (.string s)), (7, .cloB 71 [.box 9 [.v (.string v1.1)], .box 9 [.v (.string v1.2.1)], .box 3 [.v (.int .i64 v1.2.2)]])]) (init := [0, 1, 2, 3]) (fin := [1, 2, 3, 5]) (sps := [⟨[0], [], [4], [(.slot 6)]⟩, ⟨[4], [], [5], [(.slot 7)]⟩]) (es' := [(_, _), (_, _), (_, _), (7, .cloB 71 [.box 9 [.v (.string v1.1)], .box 9 [.v (.string v1.2.1)], .box 3 [.v (.int .i64 v1.2.2)]])]) (by kernel_rfl) rfl rfl
   ⟨st_plain rfl (op_move _ _ _ _ rfl rfl),
   st_plain rfl (op_callS _ _ 47 _ _ rfl Tryd.call47 rfl rfl (ok_strings_SplitSeq s (⟨#[46]⟩ : ByteArray) _ hv1) rfl),
   trivial⟩ ?_
  refine pt_then ?_
  refine ht_block ?_
  refine ht_pick [3, 0, 1, 2] (by kernel_rfl) (es' := [(7, .cloB 71 [.box 9 [.v (.string v1.1)], .box 9 [.v (.string v1.2.1)], .box 3 [.v (.int .i64 v1.2.2)]]), (13, .glob (GL mx)), (3, .box 43 [.v (.func (.func 56) #[] #[])]), (4, .box 4 [.v (.bool false)])]) rfl ?_
  refine ht_rangeF h 71 7 8 14 _ [13, 3, 4] Tryd.call71 (fun (() : Unit) => [(13, .glob (GL mx)), (3, .box 43 [.v (.func (.func 56) #[] #[])]), (4, .box 4 [.v (.bool false)])]) (fun (() : Unit) => [(13, .glob (GL mx)), (3, .box 43 [.v (.func (.func 56) #[] #[])]), (4, .box 4 [.v (.bool false)])]) (fun l J Y hY t t' h => ok_strings_splitSeq_1 mx l J Y hY v1.1 v1.2.1 v1.2.2 t t' h) hn rfl (fun _ => rfl) (fun _ => rfl) (fun _ => rfl) rfl rfl (fun _ => ⟨rfl, rfl⟩) rfl (glIn_look 13 rfl) ?_ ?_ ?_
  ·rintro kk g0 hn hio x ⟨⟩ u h
   refine ht_es (es' := [(8, .v (.string x)), (13, .glob (GL mx)), (3, .box 43 [.v (.func (.func 56) #[] #[])]), (4, .box 4 [.v (.bool false)]), (13, .v (kk.tm.getD 13 undef)), (3, .v (kk.tm.getD 3 undef)), (4, .v (kk.tm.getD 4 undef)), (14, .inv kk.ready)]) rfl ?_
   refine ht_seqR hn (El := [_, _, _, _, _, _, _, _, (5, .v (.string x))]) (init := [0, 1, 2, 3, 4, 5, 6, 7]) (fin := [1, 2, 3, 4, 5, 6, 7, 8]) (sps := [⟨[0], [], [8], [(.slot 5)]⟩]) (es' := [(_, _), (_, _), (_, _), (_, _), (_, _), (_, _), (_, _), (5, .v (.string x))]) (by kernel_rfl) rfl rfl
    ⟨st_plain rfl (op_assign _ _ _ _ rfl rfl),
    trivial⟩ ?_
   refine pt_pick [0, 1, 2, 3, 4, 5, 7, 6] (by kernel_rfl) (es' := [(13, .glob (GL mx)), (3, .box 43 [.v (.func (.func 56) #[] #[])]), (4, .box 4 [.v (.bool false)]), (13, .v (kk.tm.getD 13 undef)), (3, .v (kk.tm.getD 3 undef)), (4, .v (kk.tm.getD 4 undef)), (5, .v (.string x)), (14, .inv kk.ready)]) rfl ?_
   refine pt_begin (es := [(13, .glob (GL mx)), (3, .box 43 [.v (.func (.func 56) #[] #[])]), (4, .box 4 [.v (.bool false)]), (13, .v (kk.tm.getD 13 undef)), (3, .v (kk.tm.getD 3 undef)), (4, .v (kk.tm.getD 4 undef)), (5, .v (.string x))]) 14 rfl ?_
   refine ht_block ?_
   refine ht_seq ?_
   obtain ⟨v2, hv2, h⟩ := bind_some h
   refine ht_seqR hn (El := [_, _, _, _, _, _, _, _, (9, .v (.func (.func 56) #[] #[])), (10, .v (.string x)), (11, .v (.bool v2)), (12, .v (.bool (!v2)))]) (init := [0, 1, 2, 3, 4, 5, 6, 7]) (fin := [0, 1, 2, 3, 4, 5, 7, 11]) (sps := [⟨[1], [], [8], [(.slot 9)]⟩, ⟨[6], [], [9], [(.slot 10)]⟩, ⟨[9, 8], [], [10], [(.slot 11)]⟩, ⟨[10], [], [11], [(.slot 12)]⟩]) (es' := [(_, _), (_, _), (_, _), (_, _), (_, _), (_, _), (_, _), (12, .v (.bool (!v2)))]) (by kernel_rfl) rfl rfl
    ⟨st_plain rfl (op_load _ _ _ _ _ _ Tryd.underlying43 rfl rfl rfl (Nat.le_of_ble_eq_true rfl) rfl rfl rfl),
    st_plain rfl (op_move _ _ _ _ rfl rfl),
    st_plain rfl (op_call _ _ 56 _ _ rfl Tryd.call56 rfl (ok_path_atom x _ hv2) rfl rfl),
    st_plain rfl (op_un _ _ _ _ rfl rfl),
    trivial⟩ ?_
   refine pt_then ?_
   refine ht_cond _ rfl (fun hb5 => ?_) (fun hb5 => ?_)
   ·have h := cond_t hb5 h
    refine ht_seq ?_
    refine ht_seqR hn (El := [_, _, _, _, _, _, _, _, (4, .box 4 [.v (.bool false)])]) (init := [0, 1, 2, 3, 4, 5, 6, 7]) (fin := [0, 1, 8, 3, 4, 5, 6]) (sps := [⟨[], [2], [8], [.cell 4 0]⟩]) (es' := [(_, _), (_, _), (4, .box 4 [.v (.bool false)]), (_, _), (_, _), (_, _), (_, _)]) (by kernel_rfl) rfl rfl
     ⟨st_plain rfl (op_store _ _ _ _ _ _ _ _ sz4 rfl rfl rfl rfl (Nat.le_of_ble_eq_true rfl) rfl rfl),
     trivial⟩ ?_
    refine pt_then ?_
    refine ht_ret ?_
    refine pt_r_in ?_
    obtain rfl := Option.some.inj h
    exact pt_rret 14 [13, 3, 4] _ rfl rfl (by kernel_rfl)
   ·have h := cond_f hb5 h
    refine ht_skip ?_
    refine pt_inb ?_
    refine pt_pick [0, 1, 2, 3, 4, 5, 6] (by kernel_rfl) (es' := [(_, _), (_, _), (_, _), (_, _), (_, _), (_, _), (_, _)]) rfl ?_
    obtain rfl := Option.some.inj h
    exact pt_rnext 14 [13, 3, 4] _ rfl rfl (by kernel_rfl)
  ·rintro D ⟨⟩ h
   refine pt_inb ?_
   refine pt_then ?_
   refine ht_seq ?_
   refine ht_seqR hn (El := [_, _, _, (4, .box 4 [.v (.bool true)])]) (init := [0, 1, 2]) (fin := [0, 3]) (sps := [⟨[], [2], [3], [.cell 4 0]⟩]) (es' := [(_, _), (4, .box 4 [.v (.bool true)])]) (by kernel_rfl) rfl rfl
    ⟨st_plain rfl (op_store _ _ _ _ _ _ _ _ sz4 rfl rfl rfl rfl (Nat.le_of_ble_eq_true rfl) rfl rfl),
    trivial⟩ ?_
   refine pt_then ?_
   refine ht_ret ?_
   refine pt_pick [1] (by kernel_rfl) (es' := [(_, _)]) rfl ?_
   obtain rfl := Option.some.inj h
   exact pt_ret hio rfl (.cell1 _ _ _ _ Tryd.underlying4 rfl .nil) rfl rfl
  ·rintro D ⟨⟩ h
   refine pt_pick [2] (by kernel_rfl) (es' := [(_, _)]) rfl ?_
   refine pt_r_in ?_
   refine pt_r_then ?_
   obtain rfl := Option.some.inj h
   exact pt_ret hio rfl (.cell1 _ _ _ _ Tryd.underlying4 rfl .nil) rfl rfl

set_option maxHeartbeats 1000000 in
theorem ok_path_local (mx : Int) (s : ByteArray) (r : Bool) (h : Sh.path_local s = some r) : FnG Tryd.prog (GL mx) 44 [.v (.string s)] (.v (.bool r)) := by
  unfold Sh.path_local at h
  refine fn_okG Tryd.func44 rfl (Nat.le_of_ble_eq_true rfl) rfl rfl fun g0 hn hio => ?_
  refine ht_seq ?_
  refine ht_seqR hn (El := [_, _, (2, .v (.bool false))]) (init := [0, 1]) (fin := [0, 1]) (sps := [⟨[], [], [2], [(.slot 2)]⟩]) (es' := [(_, _), (_, _)]) (by kernel_rfl) rfl rfl
   ⟨st_plain rfl (op_assign _ _ _ _ rfl rfl),
   trivial⟩ ?_
  refine pt_then ?_
  refine ht_seq ?_
  refine ht_joinS h (fun (s2 : Bool) => [(10, .glob (GL mx)), (2, .v (.bool s2))]) ?_ ?_
  ·rintro s2 h
   refine pt_then ?_
   refine ht_ret ?_
   refine pt_pick [1] (by kernel_rfl) (es' := [(_, _)]) rfl ?_
   obtain rfl := Option.some.inj h
   exact pt_ret hio rfl (.tmp _ _ .nil) rfl rfl
  ·intro u3 h hl4 hr5
   refine cond_some h (fun hg1_3 h => ?_) (fun hg1_3 h => ?_)
   ·obtain ⟨v1, hv1, h⟩ := bind_some h
    refine ht_seqR hn (El := [_, _, (3, .v (.string s)), (4, .v (.int .i64 (s.size : Int))), (5, .v (.bool ((decide ((s.size : Int) ≤ 64))))), (6, .v (.bool true)), (7, .v (.string s)), (8, .v (.bool v1)), (9, .v (.bool v1)), (2, .v (.bool v1))]) (init := [0, 1]) (fin := [1, 9]) (sps := [⟨[0], [], [2], [(.slot 3)]⟩, ⟨[2], [], [3], [(.slot 4)]⟩, ⟨[3], [], [4], [(.slot 5)]⟩, ⟨[4], [], [5], [(.slot 6)]⟩, ⟨[5, 0], [], [6], [(.slot 7)]⟩, ⟨[5, 6, 1], [], [7], [(.slot 8)]⟩, ⟨[5, 7], [], [8], [(.slot 9)]⟩, ⟨[8], [], [9], [(.slot 2)]⟩]) (es' := [(_, _), (2, .v (.bool v1))]) (by kernel_rfl) rfl rfl
     ⟨st_plain rfl (op_move _ _ _ _ rfl rfl),
     st_plain rfl (op_len_str _ _ _ Tryd.underlying9 rfl),
     st_plain rfl (op_bin _ _ _ _ _ rfl rfl rfl),
     st_plain rfl (op_move _ _ _ _ (congrArg (fun b => AV.v (Value.bool b)) hg1_3) rfl),
     st_run 3 6 true rfl rfl rfl (List.Mem.head _) (op_move _ _ _ _ rfl rfl),
     st_run 3 6 true rfl rfl rfl (List.Mem.head _) (op_callG _ _ 10 39 _ _ rfl Tryd.call39 rfl rfl (fun _ h => h) (ok_path_dotted_of_path_atom mx s _ hv1) rfl rfl),
     st_plain rfl (op_pick _ _ true _ rfl rfl),
     st_plain rfl (op_assign _ _ _ _ rfl rfl),
     trivial⟩ ?_
    exact hl4 _ (Option.some.inj h).symm
   ·refine ht_seqR hn (El := [_, _, (3, .v (.string s)), (4, .v (.int .i64 (s.size : Int))), (5, .v (.bool ((decide ((s.size : Int) ≤ 64))))), (6, .v (.bool false)), (7, .v undef), (8, .v undef), (9, .v (.bool false)), (2, .v (.bool false))]) (init := [0, 1]) (fin := [1, 9]) (sps := [⟨[0], [], [2], [(.slot 3)]⟩, ⟨[2], [], [3], [(.slot 4)]⟩, ⟨[3], [], [4], [(.slot 5)]⟩, ⟨[4], [], [5], [(.slot 6)]⟩, ⟨[5], [], [6], [(.slot 7)]⟩, ⟨[5], [], [7], [(.slot 8)]⟩, ⟨[5], [], [8], [(.slot 9)]⟩, ⟨[8], [], [9], [(.slot 2)]⟩]) (es' := [(_, _), (2, .v (.bool false))]) (by kernel_rfl) rfl rfl
     ⟨st_plain rfl (op_move _ _ _ _ rfl rfl),
     st_plain rfl (op_len_str _ _ _ Tryd.underlying9 rfl),
     st_plain rfl (op_bin _ _ _ _ _ rfl rfl rfl),
     st_plain rfl (op_move _ _ _ _ (congrArg (fun b => AV.v (Value.bool b)) hg1_3) rfl),
     st_skip 3 6 _ true rfl rfl rfl rfl (List.Mem.head _),
     st_skip 3 6 _ true rfl rfl rfl rfl (List.Mem.head _),
     st_plain rfl (op_pick _ _ false _ rfl rfl),
     st_plain rfl (op_assign _ _ _ _ rfl rfl),
     trivial⟩ ?_
    exact hl4 _ (Option.some.inj h).symm

set_option maxHeartbeats 1000000 in
theorem ok_path_label_1 (c : Int) (r : Bool) (h : Sh.path_label_1 c = some r) : FnOK Tryd.prog 49 [.v (.int .u8 c)] (.v (.bool r)) := by
  unfold Sh.path_label_1 at h
  refine fn_ok Tryd.func49 rfl (Nat.le_of_ble_eq_true rfl) rfl rfl fun g0 hn hio => ?_
  refine ht_seq ?_
  refine ht_seqR hn (El := [_, (2, .v (.bool false))]) (init := [0]) (fin := [0]) (sps := [⟨[], [], [1], [(.slot 2)]⟩]) (es' := [(_, _)]) (by kernel_rfl) rfl rfl
   ⟨st_plain rfl (op_assign _ _ _ _ rfl rfl),
   trivial⟩ ?_
  refine pt_then ?_
  refine ht_seq ?_
  refine ht_joinS h (fun (s2 : Bool) => [(2, .v (.bool s2))]) ?_ ?_
  ·rintro s2 h
   refine pt_then ?_
   refine ht_ret ?_
   obtain rfl := Option.some.inj h
   exact pt_ret hio rfl (.tmp _ _ .nil) rfl rfl
  ·intro u3 h hl4 hr5
   obtain ⟨v1, hv1, h⟩ := bind_some h
   refine cond_some h (fun hg1_2 h => ?_) (fun hg1_2 h => ?_)
   ·refine ht_seqR hn (El := [_, (3, .v (.int .u8 c)), (4, .v (.bool v1)), (5, .v (.bool true)), (6, .v undef), (7, .v undef), (8, .v (.bool true)), (2, .v (.bool true))]) (init := [0]) (fin := [7]) (sps := [⟨[0], [], [1], [(.slot 3)]⟩, ⟨[1], [], [2], [(.slot 4)]⟩, ⟨[2], [], [3], [(.slot 5)]⟩, ⟨[3], [], [4], [(.slot 6)]⟩, ⟨[3], [], [5], [(.slot 7)]⟩, ⟨[3], [], [6], [(.slot 8)]⟩, ⟨[6], [], [7], [(.slot 2)]⟩]) (es' := [(2, .v (.bool true))]) (by kernel_rfl) rfl rfl
     ⟨st_plain rfl (op_move _ _ _ _ rfl rfl),
     st_plain rfl (op_call _ _ 50 _ _ rfl Tryd.call50 rfl (ok_path_alphanumeric c _ hv1) rfl rfl),
     st_plain rfl (op_move _ _ _ _ (congrArg (fun b => AV.v (Value.bool b)) hg1_2) rfl),
     st_skip 2 5 _ false rfl rfl rfl rfl (List.Mem.head _),
     st_skip 2 5 _ false rfl rfl rfl rfl (List.Mem.head _),
     st_plain rfl (op_pick _ _ true _ rfl rfl),
     st_plain rfl (op_assign _ _ _ _ rfl rfl),
     trivial⟩ ?_
    exact hl4 _ (Option.some.inj h).symm
   ·refine ht_seqR hn (El := [_, (3, .v (.int .u8 c)), (4, .v (.bool v1)), (5, .v (.bool false)), (6, .v (.int .u8 c)), (7, .v (.bool (c == 45))), (8, .v (.bool (c == 45))), (2, .v (.bool (c == 45)))]) (init := [0]) (fin := [7]) (sps := [⟨[0], [], [1], [(.slot 3)]⟩, ⟨[1], [], [2], [(.slot 4)]⟩, ⟨[2], [], [3], [(.slot 5)]⟩, ⟨[3, 0], [], [4], [(.slot 6)]⟩, ⟨[3, 4], [], [5], [(.slot 7)]⟩, ⟨[3, 5], [], [6], [(.slot 8)]⟩, ⟨[6], [], [7], [(.slot 2)]⟩]) (es' := [(2, .v (.bool (c == 45)))]) (by kernel_rfl) rfl rfl
     ⟨st_plain rfl (op_move _ _ _ _ rfl rfl),
     st_plain rfl (op_call _ _ 50 _ _ rfl Tryd.call50 rfl (ok_path_alphanumeric c _ hv1) rfl rfl),
     st_plain rfl (op_move _ _ _ _ (congrArg (fun b => AV.v (Value.bool b)) hg1_2) rfl),
     st_run 2 5 false rfl rfl rfl (List.Mem.head _) (op_move _ _ _ _ rfl rfl),
     st_run 2 5 false rfl rfl rfl (List.Mem.head _) (op_bin _ _ _ _ _ rfl rfl rfl),
     st_plain rfl (op_pick _ _ false _ rfl rfl),
     st_plain rfl (op_assign _ _ _ _ rfl rfl),
     trivial⟩ ?_
    exact hl4 _ (Option.some.inj h).symm

set_option maxHeartbeats 1000000 in
theorem ok_path_all_of_path_label_1 (s : ByteArray) (r : Bool) (h : Sh.path_all_of_path_label_1 s = some r) : FnOK Tryd.prog 48 [.v (.string s), .v (.func (.func 49) #[] #[])] (.v (.bool r)) := by
  unfold Sh.path_all_of_path_label_1 at h
  refine fn_ok Tryd.func48 rfl (Nat.le_of_ble_eq_true rfl) rfl rfl fun g0 hn hio => ?_
  refine ht_seq ?_
  refine ht_seqR hn (El := [_, _, (4, .v (.bool false))]) (init := [0, 1]) (fin := [0, 1]) (sps := [⟨[], [], [2], [(.slot 4)]⟩]) (es' := [(_, _), (_, _)]) (by kernel_rfl) rfl rfl
   ⟨st_plain rfl (op_assign _ _ _ _ rfl rfl),
   trivial⟩ ?_
  refine pt_then ?_
  refine ht_seq ?_
  refine ht_seq ?_
  refine ht_seqR hn (El := [_, _, (6, .v (.string s)), (7, .v (.int .i64 (s.size : Int))), (8, .v (.int .i64 0))]) (init := [0, 1]) (fin := [0, 1, 3, 4]) (sps := [⟨[0], [], [2], [(.slot 6)]⟩, ⟨[2], [], [3], [(.slot 7)]⟩, ⟨[], [], [4], [(.slot 8)]⟩]) (es' := [(_, _), (_, _), (7, .v (.int .i64 (s.size : Int))), (8, .v (.int .i64 0))]) (by kernel_rfl) rfl rfl
   ⟨st_plain rfl (op_move _ _ _ _ rfl rfl),
   st_plain rfl (op_len_str _ _ _ Tryd.underlying9 rfl),
   st_plain rfl (op_move _ _ _ _ rfl rfl),
   trivial⟩ ?_
  refine pt_then ?_
  refine ht_loopS h (fun (s9 : Int) => [(0, .v (.string s)), (1, .v (.func (.func 49) #[] #[])), (7, .v (.int .i64 (s.size : Int))), (8, .v (.int .i64 s9))]) (fun (() : Unit) => []) ?_ ?_
  ·rintro ⟨⟩ h
   refine pt_then ?_
   refine ht_seq ?_
   refine ht_seqR hn (El := [(4, .v (.bool true))]) (init := []) (fin := [0]) (sps := [⟨[], [], [0], [(.slot 4)]⟩]) (es' := [(4, .v (.bool true))]) (by kernel_rfl) rfl rfl
    ⟨st_plain rfl (op_assign _ _ _ _ rfl rfl),
    trivial⟩ ?_
   refine pt_then ?_
   refine ht_ret ?_
   obtain rfl := Option.some.inj h
   exact pt_ret hio rfl (.tmp _ _ .nil) rfl rfl
  ·rintro u12 hl13 hr14 s9 rr17 h ho15
   refine ht_seq ?_
   refine ht_seqR hn (El := [_, _, _, _, (9, .v (.bool ((decide (s9 < (s.size : Int))))))]) (init := [0, 1, 2, 3]) (fin := [0, 1, 2, 3, 4]) (sps := [⟨[3, 2], [], [4], [(.slot 9)]⟩]) (es' := [(_, _), (_, _), (_, _), (_, _), (9, .v (.bool ((decide (s9 < (s.size : Int))))))]) (by kernel_rfl) rfl rfl
    ⟨st_plain rfl (op_bin _ _ _ _ _ rfl rfl rfl),
    trivial⟩ ?_
   refine pt_then ?_
   refine ht_seq ?_
   refine ht_cond _ rfl (fun hb18 => ?_) (fun hb18 => ?_)
   ·have h := cond_t hb18 h
    refine ht_skip ?_
    refine pt_then ?_
    refine ht_seq ?_
    refine ht_block ?_
    refine ht_seq ?_
    refine ht_seqR hn (El := [_, _, _, _, _, (10, .v (.int .i64 s9)), (5, .v (.int .i64 s9))]) (init := [0, 1, 2, 3, 4]) (fin := [0, 1, 2, 3, 6]) (sps := [⟨[3], [], [5], [(.slot 10)]⟩, ⟨[5], [], [6], [(.slot 5)]⟩]) (es' := [(_, _), (_, _), (_, _), (_, _), (5, .v (.int .i64 s9))]) (by kernel_rfl) rfl rfl
     ⟨st_plain rfl (op_move _ _ _ _ rfl rfl),
     st_plain rfl (op_assign _ _ _ _ rfl rfl),
     trivial⟩ ?_
    refine pt_then ?_
    refine ht_seq ?_
    obtain ⟨v2, hv2, h⟩ := bind_some h
    obtain ⟨v3, hv3, h⟩ := bind_some h
    refine ht_seqR hn (El := [_, _, _, _, _, (11, .v (.func (.func 49) #[] #[])), (12, .v (.string s)), (13, .v (.int .i64 s9)), (14, .v (.int .u8 v2)), (15, .v (.bool v3)), (16, .v (.bool (!v3)))]) (init := [0, 1, 2, 3, 4]) (fin := [0, 1, 2, 3, 10]) (sps := [⟨[1], [], [5], [(.slot 11)]⟩, ⟨[0], [], [6], [(.slot 12)]⟩, ⟨[4], [], [7], [(.slot 13)]⟩, ⟨[6, 7], [], [8], [(.slot 14)]⟩, ⟨[8, 5], [], [9], [(.slot 15)]⟩, ⟨[9], [], [10], [(.slot 16)]⟩]) (es' := [(_, _), (_, _), (_, _), (_, _), (16, .v (.bool (!v3)))]) (by kernel_rfl) rfl rfl
     ⟨st_plain rfl (op_move _ _ _ _ rfl rfl),
     st_plain rfl (op_move _ _ _ _ rfl rfl),
     st_plain rfl (op_move _ _ _ _ rfl rfl),
     st_plain rfl (op_chr _ _ _ s9 _ Tryd.underlying9 rfl rfl hv2),
     st_plain rfl (op_call _ _ 49 _ _ rfl Tryd.call49 rfl (ok_path_label_1 v2 _ hv3) rfl rfl),
     st_plain rfl (op_un _ _ _ _ rfl rfl),
     trivial⟩ ?_
    refine pt_then ?_
    refine ht_cond _ rfl (fun hb19 => ?_) (fun hb19 => ?_)
    ·have h := cond_t hb19 h
     refine ht_seq ?_
     refine ht_seqR hn (El := [_, _, _, _, _, (4, .v (.bool false))]) (init := [0, 1, 2, 3, 4]) (fin := [5]) (sps := [⟨[], [], [5], [(.slot 4)]⟩]) (es' := [(4, .v (.bool false))]) (by kernel_rfl) rfl rfl
      ⟨st_plain rfl (op_assign _ _ _ _ rfl rfl),
      trivial⟩ ?_
     refine pt_then ?_
     refine ht_ret ?_
     refine pt_r_in ?_
     refine pt_r_then ?_
     refine pt_r_then ?_
     refine pt_r_in ?_
     refine pt_r_then ?_
     have h := hr14 _ (ho15 _ (Option.some.inj h).symm).symm
     obtain rfl := Option.some.inj h
     exact pt_ret hio rfl (.tmp _ _ .nil) rfl rfl
    ·have h := cond_f hb19 h
     refine ht_skip ?_
     refine pt_inb ?_
     refine pt_then ?_
     obtain ⟨v5, hv5, h⟩ := bind_some h
     refine ht_seqR hn (El := [_, _, _, _, _, (17, .v (.int .i64 v5)), (8, .v (.int .i64 v5))]) (init := [0, 1, 2, 3, 4]) (fin := [0, 1, 2, 6]) (sps := [⟨[3], [], [5], [(.slot 17)]⟩, ⟨[5], [3], [6], [(.slot 8)]⟩]) (es' := [(_, _), (_, _), (_, _), (8, .v (.int .i64 v5))]) (by kernel_rfl) rfl rfl
      ⟨st_plain rfl (op_bin _ _ _ _ _ rfl rfl (ibind (f := Value.int .i64) (Option.some.inj hv5))),
      st_plain rfl (LOp.drop [_] (op_move _ _ _ _ rfl rfl)),
      trivial⟩ ?_
     exact pt_next _ (Option.some.inj h).symm rfl
   ·have h := cond_f hb18 h
    refine ht_exit ?_
    refine pt_x_then ?_
    refine pt_x_then ?_
    refine pt_x_in ?_
    refine pt_pick [] (by kernel_rfl) (es' := []) rfl ?_
    exact hl13 _ (ho15 _ (Option.some.inj h).symm).symm

set_option maxHeartbeats 1000000 in
theorem ok_path_label (s : ByteArray) (r : Bool) (h : Sh.path_label s = some r) : FnOK Tryd.prog 40 [.v (.string s)] (.v (.bool r)) := by
  unfold Sh.path_label at h
  refine fn_ok Tryd.func40 rfl (Nat.le_of_ble_eq_true rfl) rfl rfl fun g0 hn hio => ?_
  refine ht_seq ?_
  refine ht_seqR hn (El := [_, (2, .v (.bool false))]) (init := [0]) (fin := [0]) (sps := [⟨[], [], [1], [(.slot 2)]⟩]) (es' := [(_, _)]) (by kernel_rfl) rfl rfl
   ⟨st_plain rfl (op_assign _ _ _ _ rfl rfl),
   trivial⟩ ?_
  refine pt_then ?_
  refine ht_seq ?_
  refine ht_joinS h (fun (s5 : Bool) => [(2, .v (.bool s5))]) ?_ ?_
  ·rintro s5 h
   refine pt_then ?_
   refine ht_ret ?_
   obtain rfl := Option.some.inj h
   exact pt_ret hio rfl (.tmp _ _ .nil) rfl rfl
  ·intro u6 h hl7 hr8
   refine cond_some h (fun hg1_2 h => ?_) (fun hg1_2 h => ?_)
   ·refine cond_some h (fun hg1_7 h => ?_) (fun hg1_7 h => ?_)
    ·obtain ⟨v1, hv1, h⟩ := bind_some h
     refine cond_some h (fun hg1_12 h => ?_) (fun hg1_12 h => ?_)
     ·obtain ⟨v2, hv2, h⟩ := bind_some h
      obtain ⟨v3, hv3, h⟩ := bind_some h
      refine cond_some h (fun hg1_20 h => ?_) (fun hg1_20 h => ?_)
      ·obtain ⟨v4, hv4, h⟩ := bind_some h
       refine ht_seqR hn (El := (_ :: (3, .v (.string s)) :: (4, .v (.bool ((!(s.toList == (⟨#[]⟩ : ByteArray).toList))))) :: (5, .v (.bool true)) :: (6, .v (.string s)) :: (7, .v (.int .i64 (s.size : Int))) :: (8, .v (.bool ((decide ((s.size : Int) ≤ 63))))) :: (9, .v (.bool ((decide ((s.size : Int) ≤ 63))))) :: (10, .v (.bool true)) :: (11, .v (.string s)) :: (12, .v (.int .u8 v1)) :: (13, .v (.bool (v1 != 45))) :: (14, .v (.bool (v1 != 45))) :: (15, .v (.bool true)) :: (16, .v (.string s)) :: (17, .v (.string s)) :: (18, .v (.int .i64 (s.size : Int))) :: (19, .v (.int .i64 v2)) :: (20, .v (.int .u8 v3)) :: (21, .v (.bool (v3 != 45))) :: (22, .v (.bool (v3 != 45))) :: (23, .v (.bool true)) :: (24, .v (.string s)) :: (25, .v (.bool v4)) :: (26, .v (.bool v4)) :: (2, .v (.bool v4)) :: [])) (init := [0]) (fin := [25]) (sps := (⟨[0], [], [1], [(.slot 3)]⟩ :: ⟨[1], [], [2], [(.slot 4)]⟩ :: ⟨[2], [], [3], [(.slot 5)]⟩ :: ⟨[3, 0], [], [4], [(.slot 6)]⟩ :: ⟨[3, 4], [], [5], [(.slot 7)]⟩ :: ⟨[3, 5], [], [6], [(.slot 8)]⟩ :: ⟨[3, 6], [], [7], [(.slot 9)]⟩ :: ⟨[7], [], [8], [(.slot 10)]⟩ :: ⟨[8, 0], [], [9], [(.slot 11)]⟩ :: ⟨[8, 9], [], [10], [(.slot 12)]⟩ :: ⟨[8, 10], [], [11], [(.slot 13)]⟩ :: ⟨[8, 11], [], [12], [(.slot 14)]⟩ :: ⟨[12], [], [13], [(.slot 15)]⟩ :: ⟨[13, 0], [], [14], [(.slot 16)]⟩ :: ⟨[13, 0], [], [15], [(.slot 17)]⟩ :: ⟨[13, 15], [], [16], [(.slot 18)]⟩ :: ⟨[13, 16], [], [17], [(.slot 19)]⟩ :: ⟨[13, 14, 17], [], [18], [(.slot 20)]⟩ :: ⟨[13, 18], [], [19], [(.slot 21)]⟩ :: ⟨[13, 19], [], [20], [(.slot 22)]⟩ :: ⟨[20], [], [21], [(.slot 23)]⟩ :: ⟨[21, 0], [], [22], [(.slot 24)]⟩ :: ⟨[21, 22], [], [23], [(.slot 25)]⟩ :: ⟨[21, 23], [], [24], [(.slot 26)]⟩ :: ⟨[24], [], [25], [(.slot 2)]⟩ :: [])) (es' := [(2, .v (.bool v4))]) (by kernel_rfl) rfl rfl
        ⟨st_plain rfl (op_move _ _ _ _ rfl rfl),
        st_plain rfl (op_bin _ _ _ _ _ rfl rfl rfl),
        st_plain rfl (op_move _ _ _ _ (congrArg (fun b => AV.v (Value.bool b)) hg1_2) rfl),
        st_run 2 5 true rfl rfl rfl (List.Mem.head _) (op_move _ _ _ _ rfl rfl),
        st_run 2 5 true rfl rfl rfl (List.Mem.head _) (op_len_str _ _ _ Tryd.underlying9 rfl),
        st_run 2 5 true rfl rfl rfl (List.Mem.head _) (op_bin _ _ _ _ _ rfl rfl rfl),
        st_plain rfl (op_pick _ _ true _ rfl rfl),
        st_plain rfl (op_move _ _ _ _ (congrArg (fun b => AV.v (Value.bool b)) hg1_7) rfl),
        st_run 7 10 true rfl rfl rfl (List.Mem.head _) (op_move _ _ _ _ rfl rfl),
        st_run 7 10 true rfl rfl rfl (List.Mem.head _) (op_chr _ _ _ 0 _ Tryd.underlying9 rfl rfl hv1),
        st_run 7 10 true rfl rfl rfl (List.Mem.head _) (op_bin _ _ _ _ _ rfl rfl rfl),
        st_plain rfl (op_pick _ _ true _ rfl rfl),
        st_plain rfl (op_move _ _ _ _ (congrArg (fun b => AV.v (Value.bool b)) hg1_12) rfl),
        st_run 12 15 true rfl rfl rfl (List.Mem.head _) (op_move _ _ _ _ rfl rfl),
        st_run 12 15 true rfl rfl rfl (List.Mem.head _) (op_move _ _ _ _ rfl rfl),
        st_run 12 15 true rfl rfl rfl (List.Mem.head _) (op_len_str _ _ _ Tryd.underlying9 rfl),
        st_run 12 15 true rfl rfl rfl (List.Mem.head _) (op_bin _ _ _ _ _ rfl rfl (ibind (f := Value.int .i64) (Option.some.inj hv2))),
        st_run 12 15 true rfl rfl rfl (List.Mem.head _) (op_chr _ _ _ v2 _ Tryd.underlying9 rfl rfl hv3),
        st_run 12 15 true rfl rfl rfl (List.Mem.head _) (op_bin _ _ _ _ _ rfl rfl rfl),
        st_plain rfl (op_pick _ _ true _ rfl rfl),
        st_plain rfl (op_move _ _ _ _ (congrArg (fun b => AV.v (Value.bool b)) hg1_20) rfl),
        st_run 20 23 true rfl rfl rfl (List.Mem.head _) (op_move _ _ _ _ rfl rfl),
        st_run 20 23 true rfl rfl rfl (List.Mem.head _) (op_call _ _ 48 _ _ rfl Tryd.call48 rfl (ok_path_all_of_path_label_1 s _ hv4) rfl rfl),
        st_plain rfl (op_pick _ _ true _ rfl rfl),
        st_plain rfl (op_assign _ _ _ _ rfl rfl),
        trivial⟩ ?_
       exact hl7 _ (Option.some.inj h).symm
      ·refine ht_seqR hn (El := (_ :: (3, .v (.string s)) :: (4, .v (.bool ((!(s.toList == (⟨#[]⟩ : ByteArray).toList))))) :: (5, .v (.bool true)) :: (6, .v (.string s)) :: (7, .v (.int .i64 (s.size : Int))) :: (8, .v (.bool ((decide ((s.size : Int) ≤ 63))))) :: (9, .v (.bool ((decide ((s.size : Int) ≤ 63))))) :: (10, .v (.bool true)) :: (11, .v (.string s)) :: (12, .v (.int .u8 v1)) :: (13, .v (.bool (v1 != 45))) :: (14, .v (.bool (v1 != 45))) :: (15, .v (.bool true)) :: (16, .v (.string s)) :: (17, .v (.string s)) :: (18, .v (.int .i64 (s.size : Int))) :: (19, .v (.int .i64 v2)) :: (20, .v (.int .u8 v3)) :: (21, .v (.bool (v3 != 45))) :: (22, .v (.bool (v3 != 45))) :: (23, .v (.bool false)) :: (24, .v undef) :: (25, .v undef) :: (26, .v (.bool false)) :: (2, .v (.bool false)) :: [])) (init := [0]) (fin := [25]) (sps := (⟨[0], [], [1], [(.slot 3)]⟩ :: ⟨[1], [], [2], [(.slot 4)]⟩ :: ⟨[2], [], [3], [(.slot 5)]⟩ :: ⟨[3, 0], [], [4], [(.slot 6)]⟩ :: ⟨[3, 4], [], [5], [(.slot 7)]⟩ :: ⟨[3, 5], [], [6], [(.slot 8)]⟩ :: ⟨[3, 6], [], [7], [(.slot 9)]⟩ :: ⟨[7], [], [8], [(.slot 10)]⟩ :: ⟨[8, 0], [], [9], [(.slot 11)]⟩ :: ⟨[8, 9], [], [10], [(.slot 12)]⟩ :: ⟨[8, 10], [], [11], [(.slot 13)]⟩ :: ⟨[8, 11], [], [12], [(.slot 14)]⟩ :: ⟨[12], [], [13], [(.slot 15)]⟩ :: ⟨[13, 0], [], [14], [(.slot 16)]⟩ :: ⟨[13, 0], [], [15], [(.slot 17)]⟩ :: ⟨[13, 15], [], [16], [(.slot 18)]⟩ :: ⟨[13, 16], [], [17], [(.slot 19)]⟩ :: ⟨[13, 14, 17], [], [18], [(.slot 20)]⟩ :: ⟨[13, 18], [], [19], [(.slot 21)]⟩ :: ⟨[13, 19], [], [20], [(.slot 22)]⟩ :: ⟨[20], [], [21], [(.slot 23)]⟩ :: ⟨[21], [], [22], [(.slot 24)]⟩ :: ⟨[21], [], [23], [(.slot 25)]⟩ :: ⟨[21], [], [24], [(.slot 26)]⟩ :: ⟨[24], [], [25], [(.slot 2)]⟩ :: [])) (es' := [(2, .v (.bool false))]) (by kernel_rfl) rfl rfl
        ⟨st_plain rfl (op_move _ _ _ _ rfl rfl),
        st_plain rfl (op_bin _ _ _ _ _ rfl rfl rfl),
        st_plain rfl (op_move _ _ _ _ (congrArg (fun b => AV.v (Value.bool b)) hg1_2) rfl),
        st_run 2 5 true rfl rfl rfl (List.Mem.head _) (op_move _ _ _ _ rfl rfl),
        st_run 2 5 true rfl rfl rfl (List.Mem.head _) (op_len_str _ _ _ Tryd.underlying9 rfl),
        st_run 2 5 true rfl rfl rfl (List.Mem.head _) (op_bin _ _ _ _ _ rfl rfl rfl),
        st_plain rfl (op_pick _ _ true _ rfl rfl),
        st_plain rfl (op_move _ _ _ _ (congrArg (fun b => AV.v (Value.bool b)) hg1_7) rfl),
        st_run 7 10 true rfl rfl rfl (List.Mem.head _) (op_move _ _ _ _ rfl rfl),
        st_run 7 10 true rfl rfl rfl (List.Mem.head _) (op_chr _ _ _ 0 _ Tryd.underlying9 rfl rfl hv1),
        st_run 7 10 true rfl rfl rfl (List.Mem.head _) (op_bin _ _ _ _ _ rfl rfl rfl),
        st_plain rfl (op_pick _ _ true _ rfl rfl),
        st_plain rfl (op_move _ _ _ _ (congrArg (fun b => AV.v (Value.bool b)) hg1_12) rfl),
        st_run 12 15 true rfl rfl rfl (List.Mem.head _) (op_move _ _ _ _ rfl rfl),
        st_run 12 15 true rfl rfl rfl (List.Mem.head _) (op_move _ _ _ _ rfl rfl),
        st_run 12 15 true rfl rfl rfl (List.Mem.head _) (op_len_str _ _ _ Tryd.underlying9 rfl),
        st_run 12 15 true rfl rfl rfl (List.Mem.head _) (op_bin _ _ _ _ _ rfl rfl (ibind (f := Value.int .i64) (Option.some.inj hv2))),
        st_run 12 15 true rfl rfl rfl (List.Mem.head _) (op_chr _ _ _ v2 _ Tryd.underlying9 rfl rfl hv3),
        st_run 12 15 true rfl rfl rfl (List.Mem.head _) (op_bin _ _ _ _ _ rfl rfl rfl),
        st_plain rfl (op_pick _ _ true _ rfl rfl),
        st_plain rfl (op_move _ _ _ _ (congrArg (fun b => AV.v (Value.bool b)) hg1_20) rfl),
        st_skip 20 23 _ true rfl rfl rfl rfl (List.Mem.head _),
        st_skip 20 23 _ true rfl rfl rfl rfl (List.Mem.head _),
        st_plain rfl (op_pick _ _ false _ rfl rfl),
        st_plain rfl (op_assign _ _ _ _ rfl rfl),
        trivial⟩ ?_
       exact hl7 _ (Option.some.inj h).symm
     ·refine ht_seqR hn (El := (_ :: (3, .v (.string s)) :: (4, .v (.bool ((!(s.toList == (⟨#[]⟩ : ByteArray).toList))))) :: (5, .v (.bool true)) :: (6, .v (.string s)) :: (7, .v (.int .i64 (s.size : Int))) :: (8, .v (.bool ((decide ((s.size : Int) ≤ 63))))) :: (9, .v (.bool ((decide ((s.size : Int) ≤ 63))))) :: (10, .v (.bool true)) :: (11, .v (.string s)) :: (12, .v (.int .u8 v1)) :: (13, .v (.bool (v1 != 45))) :: (14, .v (.bool (v1 != 45))) :: (15, .v (.bool false)) :: (16, .v undef) :: (17, .v undef) :: (18, .v undef) :: (19, .v undef) :: (20, .v undef) :: (21, .v undef) :: (22, .v (.bool false)) :: (23, .v (.bool false)) :: (24, .v undef) :: (25, .v undef) :: (26, .v (.bool false)) :: (2, .v (.bool false)) :: [])) (init := [0]) (fin := [25]) (sps := (⟨[0], [], [1], [(.slot 3)]⟩ :: ⟨[1], [], [2], [(.slot 4)]⟩ :: ⟨[2], [], [3], [(.slot 5)]⟩ :: ⟨[3, 0], [], [4], [(.slot 6)]⟩ :: ⟨[3, 4], [], [5], [(.slot 7)]⟩ :: ⟨[3, 5], [], [6], [(.slot 8)]⟩ :: ⟨[3, 6], [], [7], [(.slot 9)]⟩ :: ⟨[7], [], [8], [(.slot 10)]⟩ :: ⟨[8, 0], [], [9], [(.slot 11)]⟩ :: ⟨[8, 9], [], [10], [(.slot 12)]⟩ :: ⟨[8, 10], [], [11], [(.slot 13)]⟩ :: ⟨[8, 11], [], [12], [(.slot 14)]⟩ :: ⟨[12], [], [13], [(.slot 15)]⟩ :: ⟨[13], [], [14], [(.slot 16)]⟩ :: ⟨[13], [], [15], [(.slot 17)]⟩ :: ⟨[13], [], [16], [(.slot 18)]⟩ :: ⟨[13], [], [17], [(.slot 19)]⟩ :: ⟨[13], [], [18], [(.slot 20)]⟩ :: ⟨[13], [], [19], [(.slot 21)]⟩ :: ⟨[13], [], [20], [(.slot 22)]⟩ :: ⟨[20], [], [21], [(.slot 23)]⟩ :: ⟨[21], [], [22], [(.slot 24)]⟩ :: ⟨[21], [], [23], [(.slot 25)]⟩ :: ⟨[21], [], [24], [(.slot 26)]⟩ :: ⟨[24], [], [25], [(.slot 2)]⟩ :: [])) (es' := [(2, .v (.bool false))]) (by kernel_rfl) rfl rfl
       ⟨st_plain rfl (op_move _ _ _ _ rfl rfl),
       st_plain rfl (op_bin _ _ _ _ _ rfl rfl rfl),
       st_plain rfl (op_move _ _ _ _ (congrArg (fun b => AV.v (Value.bool b)) hg1_2) rfl),
       st_run 2 5 true rfl rfl rfl (List.Mem.head _) (op_move _ _ _ _ rfl rfl),
       st_run 2 5 true rfl rfl rfl (List.Mem.head _) (op_len_str _ _ _ Tryd.underlying9 rfl),
       st_run 2 5 true rfl rfl rfl (List.Mem.head _) (op_bin _ _ _ _ _ rfl rfl rfl),
       st_plain rfl (op_pick _ _ true _ rfl rfl),
       st_plain rfl (op_move _ _ _ _ (congrArg (fun b => AV.v (Value.bool b)) hg1_7) rfl),
       st_run 7 10 true rfl rfl rfl (List.Mem.head _) (op_move _ _ _ _ rfl rfl),
       st_run 7 10 true rfl rfl rfl (List.Mem.head _) (op_chr _ _ _ 0 _ Tryd.underlying9 rfl rfl hv1),
       st_run 7 10 true rfl rfl rfl (List.Mem.head _) (op_bin _ _ _ _ _ rfl rfl rfl),
       st_plain rfl (op_pick _ _ true _ rfl rfl),
       st_plain rfl (op_move _ _ _ _ (congrArg (fun b => AV.v (Value.bool b)) hg1_12) rfl),
       st_skip 12 15 _ true rfl rfl rfl rfl (List.Mem.head _),
       st_skip 12 15 _ true rfl rfl rfl rfl (List.Mem.head _),
       st_skip 12 15 _ true rfl rfl rfl rfl (List.Mem.head _),
       st_skip 12 15 _ true rfl rfl rfl rfl (List.Mem.head _),
       st_skip 12 15 _ true rfl rfl rfl rfl (List.Mem.head _),
       st_skip 12 15 _ true rfl rfl rfl rfl (List.Mem.head _),
       st_plain rfl (op_pick _ _ false _ rfl rfl),
       st_plain rfl (op_move _ _ _ _ rfl rfl),
       st_skip 20 23 _ true rfl rfl rfl rfl (List.Mem.head _),
       st_skip 20 23 _ true rfl rfl rfl rfl (List.Mem.head _),
       st_plain rfl (op_pick _ _ false _ rfl rfl),
       st_plain rfl (op_assign _ _ _ _ rfl rfl),
       trivial⟩ ?_
      exact hl7 _ (Option.some.inj h).symm
    ·refine ht_seqR hn (El := (_ :: (3, .v (.string s)) :: (4, .v (.bool ((!(s.toList == (⟨#[]⟩ : ByteArray).toList))))) :: (5, .v (.bool true)) :: (6, .v (.string s)) :: (7, .v (.int .i64 (s.size : Int))) :: (8, .v (.bool ((decide ((s.size : Int) ≤ 63))))) :: (9, .v (.bool ((decide ((s.size : Int) ≤ 63))))) :: (10, .v (.bool false)) :: (11, .v undef) :: (12, .v undef) :: (13, .v undef) :: (14, .v (.bool false)) :: (15, .v (.bool false)) :: (16, .v undef) :: (17, .v undef) :: (18, .v undef) :: (19, .v undef) :: (20, .v undef) :: (21, .v undef) :: (22, .v (.bool false)) :: (23, .v (.bool false)) :: (24, .v undef) :: (25, .v undef) :: (26, .v (.bool false)) :: (2, .v (.bool false)) :: [])) (init := [0]) (fin := [25]) (sps := (⟨[0], [], [1], [(.slot 3)]⟩ :: ⟨[1], [], [2], [(.slot 4)]⟩ :: ⟨[2], [], [3], [(.slot 5)]⟩ :: ⟨[3, 0], [], [4], [(.slot 6)]⟩ :: ⟨[3, 4], [], [5], [(.slot 7)]⟩ :: ⟨[3, 5], [], [6], [(.slot 8)]⟩ :: ⟨[3, 6], [], [7], [(.slot 9)]⟩ :: ⟨[7], [], [8], [(.slot 10)]⟩ :: ⟨[8], [], [9], [(.slot 11)]⟩ :: ⟨[8], [], [10], [(.slot 12)]⟩ :: ⟨[8], [], [11], [(.slot 13)]⟩ :: ⟨[8], [], [12], [(.slot 14)]⟩ :: ⟨[12], [], [13], [(.slot 15)]⟩ :: ⟨[13], [], [14], [(.slot 16)]⟩ :: ⟨[13], [], [15], [(.slot 17)]⟩ :: ⟨[13], [], [16], [(.slot 18)]⟩ :: ⟨[13], [], [17], [(.slot 19)]⟩ :: ⟨[13], [], [18], [(.slot 20)]⟩ :: ⟨[13], [], [19], [(.slot 21)]⟩ :: ⟨[13], [], [20], [(.slot 22)]⟩ :: ⟨[20], [], [21], [(.slot 23)]⟩ :: ⟨[21], [], [22], [(.slot 24)]⟩ :: ⟨[21], [], [23], [(.slot 25)]⟩ :: ⟨[21], [], [24], [(.slot 26)]⟩ :: ⟨[24], [], [25], [(.slot 2)]⟩ :: [])) (es' := [(2, .v (.bool false))]) (by kernel_rfl) rfl rfl
      ⟨st_plain rfl (op_move _ _ _ _ rfl rfl),
      st_plain rfl (op_bin _ _ _ _ _ rfl rfl rfl),
      st_plain rfl (op_move _ _ _ _ (congrArg (fun b => AV.v (Value.bool b)) hg1_2) rfl),
      st_run 2 5 true rfl rfl rfl (List.Mem.head _) (op_move _ _ _ _ rfl rfl),
      st_run 2 5 true rfl rfl rfl (List.Mem.head _) (op_len_str _ _ _ Tryd.underlying9 rfl),
      st_run 2 5 true rfl rfl rfl (List.Mem.head _) (op_bin _ _ _ _ _ rfl rfl rfl),
      st_plain rfl (op_pick _ _ true _ rfl rfl),
      st_plain rfl (op_move _ _ _ _ (congrArg (fun b => AV.v (Value.bool b)) hg1_7) rfl),
      st_skip 7 10 _ true rfl rfl rfl rfl (List.Mem.head _),
      st_skip 7 10 _ true rfl rfl rfl rfl (List.Mem.head _),
      st_skip 7 10 _ true rfl rfl rfl rfl (List.Mem.head _),
      st_plain rfl (op_pick _ _ false _ rfl rfl),
      st_plain rfl (op_move _ _ _ _ rfl rfl),
      st_skip 12 15 _ true rfl rfl rfl rfl (List.Mem.head _),
      st_skip 12 15 _ true rfl rfl rfl rfl (List.Mem.head _),
      st_skip 12 15 _ true rfl rfl rfl rfl (List.Mem.head _),
      st_skip 12 15 _ true rfl rfl rfl rfl (List.Mem.head _),
      st_skip 12 15 _ true rfl rfl rfl rfl (List.Mem.head _),
      st_skip 12 15 _ true rfl rfl rfl rfl (List.Mem.head _),
      st_plain rfl (op_pick _ _ false _ rfl rfl),
      st_plain rfl (op_move _ _ _ _ rfl rfl),
      st_skip 20 23 _ true rfl rfl rfl rfl (List.Mem.head _),
      st_skip 20 23 _ true rfl rfl rfl rfl (List.Mem.head _),
      st_plain rfl (op_pick _ _ false _ rfl rfl),
      st_plain rfl (op_assign _ _ _ _ rfl rfl),
      trivial⟩ ?_
     exact hl7 _ (Option.some.inj h).symm
   ·refine ht_seqR hn (El := (_ :: (3, .v (.string s)) :: (4, .v (.bool ((!(s.toList == (⟨#[]⟩ : ByteArray).toList))))) :: (5, .v (.bool false)) :: (6, .v undef) :: (7, .v undef) :: (8, .v undef) :: (9, .v (.bool false)) :: (10, .v (.bool false)) :: (11, .v undef) :: (12, .v undef) :: (13, .v undef) :: (14, .v (.bool false)) :: (15, .v (.bool false)) :: (16, .v undef) :: (17, .v undef) :: (18, .v undef) :: (19, .v undef) :: (20, .v undef) :: (21, .v undef) :: (22, .v (.bool false)) :: (23, .v (.bool false)) :: (24, .v undef) :: (25, .v undef) :: (26, .v (.bool false)) :: (2, .v (.bool false)) :: [])) (init := [0]) (fin := [25]) (sps := (⟨[0], [], [1], [(.slot 3)]⟩ :: ⟨[1], [], [2], [(.slot 4)]⟩ :: ⟨[2], [], [3], [(.slot 5)]⟩ :: ⟨[3], [], [4], [(.slot 6)]⟩ :: ⟨[3], [], [5], [(.slot 7)]⟩ :: ⟨[3], [], [6], [(.slot 8)]⟩ :: ⟨[3], [], [7], [(.slot 9)]⟩ :: ⟨[7], [], [8], [(.slot 10)]⟩ :: ⟨[8], [], [9], [(.slot 11)]⟩ :: ⟨[8], [], [10], [(.slot 12)]⟩ :: ⟨[8], [], [11], [(.slot 13)]⟩ :: ⟨[8], [], [12], [(.slot 14)]⟩ :: ⟨[12], [], [13], [(.slot 15)]⟩ :: ⟨[13], [], [14], [(.slot 16)]⟩ :: ⟨[13], [], [15], [(.slot 17)]⟩ :: ⟨[13], [], [16], [(.slot 18)]⟩ :: ⟨[13], [], [17], [(.slot 19)]⟩ :: ⟨[13], [], [18], [(.slot 20)]⟩ :: ⟨[13], [], [19], [(.slot 21)]⟩ :: ⟨[13], [], [20], [(.slot 22)]⟩ :: ⟨[20], [], [21], [(.slot 23)]⟩ :: ⟨[21], [], [22], [(.slot 24)]⟩ :: ⟨[21], [], [23], [(.slot 25)]⟩ :: ⟨[21], [], [24], [(.slot 26)]⟩ :: ⟨[24], [], [25], [(.slot 2)]⟩ :: [])) (es' := [(2, .v (.bool false))]) (by kernel_rfl) rfl rfl
     ⟨st_plain rfl (op_move _ _ _ _ rfl rfl),
     st_plain rfl (op_bin _ _ _ _ _ rfl rfl rfl),
     st_plain rfl (op_move _ _ _ _ (congrArg (fun b => AV.v (Value.bool b)) hg1_2) rfl),
     st_skip 2 5 _ true rfl rfl rfl rfl (List.Mem.head _),
     st_skip 2 5 _ true rfl rfl rfl rfl (List.Mem.head _),
     st_skip 2 5 _ true rfl rfl rfl rfl (List.Mem.head _),
     st_plain rfl (op_pick _ _ false _ rfl rfl),
     st_plain rfl (op_move _ _ _ _ rfl rfl),
     st_skip 7 10 _ true rfl rfl rfl rfl (List.Mem.head _),
     st_skip 7 10 _ true rfl rfl rfl rfl (List.Mem.head _),
     st_skip 7 10 _ true rfl rfl rfl rfl (List.Mem.head _),
     st_plain rfl (op_pick _ _ false _ rfl rfl),
     st_plain rfl (op_move _ _ _ _ rfl rfl),
     st_skip 12 15 _ true rfl rfl rfl rfl (List.Mem.head _),
     st_skip 12 15 _ true rfl rfl rfl rfl (List.Mem.head _),
     st_skip 12 15 _ true rfl rfl rfl rfl (List.Mem.head _),
     st_skip 12 15 _ true rfl rfl rfl rfl (List.Mem.head _),
     st_skip 12 15 _ true rfl rfl rfl rfl (List.Mem.head _),
     st_skip 12 15 _ true rfl rfl rfl rfl (List.Mem.head _),
     st_plain rfl (op_pick _ _ false _ rfl rfl),
     st_plain rfl (op_move _ _ _ _ rfl rfl),
     st_skip 20 23 _ true rfl rfl rfl rfl (List.Mem.head _),
     st_skip 20 23 _ true rfl rfl rfl rfl (List.Mem.head _),
     st_plain rfl (op_pick _ _ false _ rfl rfl),
     st_plain rfl (op_assign _ _ _ _ rfl rfl),
     trivial⟩ ?_
    exact hl7 _ (Option.some.inj h).symm

set_option maxHeartbeats 1000000 in
theorem ok_path_dotted_of_path_label (mx : Int) (s : ByteArray) (r : Bool) (h : Sh.path_dotted_of_path_label s = some r) : FnG Tryd.prog (GL mx) 39 [.v (.string s), .v (.func (.func 40) #[] #[])] (.v (.bool r)) := by
  unfold Sh.path_dotted_of_path_label at h
  refine fn_okG Tryd.func39 rfl (Nat.le_of_ble_eq_true rfl) rfl rfl fun g0 hn hio => ?_
  refine ht_seq ?_
  refine ht_seqR hn (El := [_, _, _, (3, .box 43 [.v (.func (.func 40) #[] #[])]), (4, .box 4 [.v (.bool false)])]) (init := [0, 1, 2]) (fin := [0, 2, 3, 4]) (sps := [⟨[1], [], [3], [(.slot 3)]⟩, ⟨[], [], [4], [(.slot 4)]⟩]) (es' := [(_, _), (_, _), (3, .box 43 [.v (.func (.func 40) #[] #[])]), (4, .box 4 [.v (.bool false)])]) (by kernel_rfl) rfl rfl
   ⟨st_plain rfl (op_box _ _ _ _ rfl rfl rfl),
   st_plain rfl (op_alloc _ _ zr4),
   trivial⟩ ?_
  refine pt_then ?_
  refine ht_seq ?_
  refine ht_seq ?_
  obtain ⟨v1, hv1, h⟩ := bind_some h
  refine ht_seqR hn (El := [_, _, _, _, (6, .v (.string s)), (7, .cloB 71 [.box 9 [.v (.string v1.1)], .box 9 [.v (.string v1.2.1)], .box 3 [.v (.int .i64 v1.2.2)]])]) (init := [0, 1, 2, 3]) (fin := [1, 2, 3, 5]) (sps := [⟨[0], [], [4], [(.slot 6)]⟩, ⟨[4], [], [5], [(.slot 7)]⟩]) (es' := [(_, _), (_, _), (_, _), (7, .cloB 71 [.box 9 [.v (.string v1.1)], .box 9 [.v (.string v1.2.1)], .box 3 [.v (.int .i64 v1.2.2)]])]) (by kernel_rfl) rfl rfl
   ⟨st_plain rfl (op_move _ _ _ _ rfl rfl),
   st_plain rfl (op_callS _ _ 47 _ _ rfl Tryd.call47 rfl rfl (ok_strings_SplitSeq s (⟨#[46]⟩ : ByteArray) _ hv1) rfl),
   trivial⟩ ?_
  refine pt_then ?_
  refine ht_block ?_
  refine ht_pick [3, 0, 1, 2] (by kernel_rfl) (es' := [(7, .cloB 71 [.box 9 [.v (.string v1.1)], .box 9 [.v (.string v1.2.1)], .box 3 [.v (.int .i64 v1.2.2)]]), (13, .glob (GL mx)), (3, .box 43 [.v (.func (.func 40) #[] #[])]), (4, .box 4 [.v (.bool false)])]) rfl ?_
  refine ht_rangeF h 71 7 8 14 _ [13, 3, 4] Tryd.call71 (fun (() : Unit) => [(13, .glob (GL mx)), (3, .box 43 [.v (.func (.func 40) #[] #[])]), (4, .box 4 [.v (.bool false)])]) (fun (() : Unit) => [(13, .glob (GL mx)), (3, .box 43 [.v (.func (.func 40) #[] #[])]), (4, .box 4 [.v (.bool false)])]) (fun l J Y hY t t' h => ok_strings_splitSeq_1 mx l J Y hY v1.1 v1.2.1 v1.2.2 t t' h) hn rfl (fun _ => rfl) (fun _ => rfl) (fun _ => rfl) rfl rfl (fun _ => ⟨rfl, rfl⟩) rfl (glIn_look 13 rfl) ?_ ?_ ?_
  ·rintro kk g0 hn hio x ⟨⟩ u h
   refine ht_es (es' := [(8, .v (.string x)), (13, .glob (GL mx)), (3, .box 43 [.v (.func (.func 40) #[] #[])]), (4, .box 4 [.v (.bool false)]), (13, .v (kk.tm.getD 13 undef)), (3, .v (kk.tm.getD 3 undef)), (4, .v (kk.tm.getD 4 undef)), (14, .inv kk.ready)]) rfl ?_
   refine ht_seqR hn (El := [_, _, _, _, _, _, _, _, (5, .v (.string x))]) (init := [0, 1, 2, 3, 4, 5, 6, 7]) (fin := [1, 2, 3, 4, 5, 6, 7, 8]) (sps := [⟨[0], [], [8], [(.slot 5)]⟩]) (es' := [(_, _), (_, _), (_, _), (_, _), (_, _), (_, _), (_, _), (5, .v (.string x))]) (by kernel_rfl) rfl rfl
    ⟨st_plain rfl (op_assign _ _ _ _ rfl rfl),
    trivial⟩ ?_
   refine pt_pick [0, 1, 2, 3, 4, 5, 7, 6] (by kernel_rfl) (es' := [(13, .glob (GL mx)), (3, .box 43 [.v (.func (.func 40) #[] #[])]), (4, .box 4 [.v (.bool false)]), (13, .v (kk.tm.getD 13 undef)), (3, .v (kk.tm.getD 3 undef)), (4, .v (kk.tm.getD 4 undef)), (5, .v (.string x)), (14, .inv kk.ready)]) rfl ?_
   refine pt_begin (es := [(13, .glob (GL mx)), (3, .box 43 [.v (.func (.func 40) #[] #[])]), (4, .box 4 [.v (.bool false)]), (13, .v (kk.tm.getD 13 undef)), (3, .v (kk.tm.getD 3 undef)), (4, .v (kk.tm.getD 4 undef)), (5, .v (.string x))]) 14 rfl ?_
   refine ht_block ?_
   refine ht_seq ?_
   obtain ⟨v2, hv2, h⟩ := bind_some h
   refine ht_seqR hn (El := [_, _, _, _, _, _, _, _, (9, .v (.func (.func 40) #[] #[])), (10, .v (.string x)), (11, .v (.bool v2)), (12, .v (.bool (!v2)))]) (init := [0, 1, 2, 3, 4, 5, 6, 7]) (fin := [0, 1, 2, 3, 4, 5, 7, 11]) (sps := [⟨[1], [], [8], [(.slot 9)]⟩, ⟨[6], [], [9], [(.slot 10)]⟩, ⟨[9, 8], [], [10], [(.slot 11)]⟩, ⟨[10], [], [11], [(.slot 12)]⟩]) (es' := [(_, _), (_, _), (_, _), (_, _), (_, _), (_, _), (_, _), (12, .v (.bool (!v2)))]) (by kernel_rfl) rfl rfl
    ⟨st_plain rfl (op_load _ _ _ _ _ _ Tryd.underlying43 rfl rfl rfl (Nat.le_of_ble_eq_true rfl) rfl rfl rfl),
    st_plain rfl (op_move _ _ _ _ rfl rfl),
    st_plain rfl (op_call _ _ 40 _ _ rfl Tryd.call40 rfl (ok_path_label x _ hv2) rfl rfl),
    st_plain rfl (op_un _ _ _ _ rfl rfl),
    trivial⟩ ?_
   refine pt_then ?_
   refine ht_cond _ rfl (fun hb5 => ?_) (fun hb5 => ?_)
   ·have h := cond_t hb5 h
    refine ht_seq ?_
    refine ht_seqR hn (El := [_, _, _, _, _, _, _, _, (4, .box 4 [.v (.bool false)])]) (init := [0, 1, 2, 3, 4, 5, 6, 7]) (fin := [0, 1, 8, 3, 4, 5, 6]) (sps := [⟨[], [2], [8], [.cell 4 0]⟩]) (es' := [(_, _), (_, _), (4, .box 4 [.v (.bool false)]), (_, _), (_, _), (_, _), (_, _)]) (by kernel_rfl) rfl rfl
     ⟨st_plain rfl (op_store _ _ _ _ _ _ _ _ sz4 rfl rfl rfl rfl (Nat.le_of_ble_eq_true rfl) rfl rfl),
     trivial⟩ ?_
    refine pt_then ?_
    refine ht_ret ?_
    refine pt_r_in ?_
    obtain rfl := Option.some.inj h
    exact pt_rret 14 [13, 3, 4] _ rfl rfl (by kernel_rfl)
   ·have h := cond_f hb5 h
    refine ht_skip ?_
    refine pt_inb ?_
    refine pt_pick [0, 1, 2, 3, 4, 5, 6] (by kernel_rfl) (es' := [(_, _), (_, _), (_, _), (_, _), (_, _), (_, _), (_, _)]) rfl ?_
    obtain rfl := Option.some.inj h
    exact pt_rnext 14 [13, 3, 4] _ rfl rfl (by kernel_rfl)
  ·rintro D ⟨⟩ h
   refine pt_inb ?_
   refine pt_then ?_
   refine ht_seq ?_
   refine ht_seqR hn (El := [_, _, _, (4, .box 4 [.v (.bool true)])]) (init := [0, 1, 2]) (fin := [0, 3]) (sps := [⟨[], [2], [3], [.cell 4 0]⟩]) (es' := [(_, _), (4, .box 4 [.v (.bool true)])]) (by kernel_rfl) rfl rfl
    ⟨st_plain rfl (op_store _ _ _ _ _ _ _ _ sz4 rfl rfl rfl rfl (Nat.le_of_ble_eq_true rfl) rfl rfl),
    trivial⟩ ?_
   refine pt_then ?_
   refine ht_ret ?_
   refine pt_pick [1] (by kernel_rfl) (es' := [(_, _)]) rfl ?_
   obtain rfl := Option.some.inj h
   exact pt_ret hio rfl (.cell1 _ _ _ _ Tryd.underlying4 rfl .nil) rfl rfl
  ·rintro D ⟨⟩ h
   refine pt_pick [2] (by kernel_rfl) (es' := [(_, _)]) rfl ?_
   refine pt_r_in ?_
   refine pt_r_then ?_
   obtain rfl := Option.some.inj h
   exact pt_ret hio rfl (.cell1 _ _ _ _ Tryd.underlying4 rfl .nil) rfl rfl

set_option maxHeartbeats 1000000 in
theorem ok_path_Domain (mx : Int) (s : ByteArray) (r : Bool) (h : Sh.path_Domain s = some r) : FnG Tryd.prog (GL mx) 34 [.v (.string s)] (.v (.bool r)) := by
  unfold Sh.path_Domain at h
  refine fn_okG Tryd.func34 rfl (Nat.le_of_ble_eq_true rfl) rfl rfl fun g0 hn hio => ?_
  refine ht_seq ?_
  refine ht_seqR hn (El := [_, _, (2, .v (.bool false))]) (init := [0, 1]) (fin := [0, 1]) (sps := [⟨[], [], [2], [(.slot 2)]⟩]) (es' := [(_, _), (_, _)]) (by kernel_rfl) rfl rfl
   ⟨st_plain rfl (op_assign _ _ _ _ rfl rfl),
   trivial⟩ ?_
  refine pt_then ?_
  refine ht_seq ?_
  refine ht_joinS h (fun (s2 : Bool) => [(10, .glob (GL mx)), (2, .v (.bool s2))]) ?_ ?_
  ·rintro s2 h
   refine pt_then ?_
   refine ht_ret ?_
   refine pt_pick [1] (by kernel_rfl) (es' := [(_, _)]) rfl ?_
   obtain rfl := Option.some.inj h
   exact pt_ret hio rfl (.tmp _ _ .nil) rfl rfl
  ·intro u3 h hl4 hr5
   refine cond_some h (fun hg1_3 h => ?_) (fun hg1_3 h => ?_)
   ·obtain ⟨v1, hv1, h⟩ := bind_some h
    refine ht_seqR hn (El := [_, _, (3, .v (.string s)), (4, .v (.int .i64 (s.size : Int))), (5, .v (.bool ((decide ((s.size : Int) ≤ 255))))), (6, .v (.bool true)), (7, .v (.string s)), (8, .v (.bool v1)), (9, .v (.bool v1)), (2, .v (.bool v1))]) (init := [0, 1]) (fin := [1, 9]) (sps := [⟨[0], [], [2], [(.slot 3)]⟩, ⟨[2], [], [3], [(.slot 4)]⟩, ⟨[3], [], [4], [(.slot 5)]⟩, ⟨[4], [], [5], [(.slot 6)]⟩, ⟨[5, 0], [], [6], [(.slot 7)]⟩, ⟨[5, 6, 1], [], [7], [(.slot 8)]⟩, ⟨[5, 7], [], [8], [(.slot 9)]⟩, ⟨[8], [], [9], [(.slot 2)]⟩]) (es' := [(_, _), (2, .v (.bool v1))]) (by kernel_rfl) rfl rfl
     ⟨st_plain rfl (op_move _ _ _ _ rfl rfl),
     st_plain rfl (op_len_str _ _ _ Tryd.underlying9 rfl),
     st_plain rfl (op_bin _ _ _ _ _ rfl rfl rfl),
     st_plain rfl (op_move _ _ _ _ (congrArg (fun b => AV.v (Value.bool b)) hg1_3) rfl),
     st_run 3 6 true rfl rfl rfl (List.Mem.head _) (op_move _ _ _ _ rfl rfl),
     st_run 3 6 true rfl rfl rfl (List.Mem.head _) (op_callG _ _ 10 39 _ _ rfl Tryd.call39 rfl rfl (fun _ h => h) (ok_path_dotted_of_path_label mx s _ hv1) rfl rfl),
     st_plain rfl (op_pick _ _ true _ rfl rfl),
     st_plain rfl (op_assign _ _ _ _ rfl rfl),
     trivial⟩ ?_
    exact hl4 _ (Option.some.inj h).symm
   ·refine ht_seqR hn (El := [_, _, (3, .v (.string s)), (4, .v (.int .i64 (s.size : Int))), (5, .v (.bool ((decide ((s.size : Int) ≤ 255))))), (6, .v (.bool false)), (7, .v undef), (8, .v undef), (9, .v (.bool false)), (2, .v (.bool false))]) (init := [0, 1]) (fin := [1, 9]) (sps := [⟨[0], [], [2], [(.slot 3)]⟩, ⟨[2], [], [3], [(.slot 4)]⟩, ⟨[3], [], [4], [(.slot 5)]⟩, ⟨[4], [], [5], [(.slot 6)]⟩, ⟨[5], [], [6], [(.slot 7)]⟩, ⟨[5], [], [7], [(.slot 8)]⟩, ⟨[5], [], [8], [(.slot 9)]⟩, ⟨[8], [], [9], [(.slot 2)]⟩]) (es' := [(_, _), (2, .v (.bool false))]) (by kernel_rfl) rfl rfl
     ⟨st_plain rfl (op_move _ _ _ _ rfl rfl),
     st_plain rfl (op_len_str _ _ _ Tryd.underlying9 rfl),
     st_plain rfl (op_bin _ _ _ _ _ rfl rfl rfl),
     st_plain rfl (op_move _ _ _ _ (congrArg (fun b => AV.v (Value.bool b)) hg1_3) rfl),
     st_skip 3 6 _ true rfl rfl rfl rfl (List.Mem.head _),
     st_skip 3 6 _ true rfl rfl rfl rfl (List.Mem.head _),
     st_plain rfl (op_pick _ _ false _ rfl rfl),
     st_plain rfl (op_assign _ _ _ _ rfl rfl),
     trivial⟩ ?_
    exact hl4 _ (Option.some.inj h).symm

set_option maxHeartbeats 1000000 in
theorem ok_path_Check (mx : Int) (p : T_Path) (r : Int) (h : Sh.path_Check p = some r) : FnG Tryd.prog (GL mx) 36 [.agg [.v (.bool p.Null), .v (.string p.Local), .v (.string p.Domain)]] (.v (.int .i64 r)) := by
  unfold Sh.path_Check at h
  refine fn_okG Tryd.func36 rfl (Nat.le_of_ble_eq_true rfl) rfl rfl fun g0 hn hio => ?_
  refine ht_seq ?_
  refine ht_seqR hn (El := [_, _, (1, .box 23 [.v (.bool p.Null), .v (.string p.Local), .v (.string p.Domain)]), (2, .v (.int .i64 0))]) (init := [0, 1]) (fin := [1, 2]) (sps := [⟨[0], [], [2], [(.slot 1)]⟩, ⟨[], [], [3], [(.slot 2)]⟩]) (es' := [(_, _), (1, .box 23 [.v (.bool p.Null), .v (.string p.Local), .v (.string p.Domain)])]) (by kernel_rfl) rfl rfl
   ⟨st_plain rfl (op_box _ _ _ _ rfl rfl rfl),
   st_plain rfl (op_assign _ _ _ _ rfl rfl),
   trivial⟩ ?_
  refine pt_then ?_
  refine ht_seq ?_
  refine ht_seqR hn (El := [_, _, (5, .agg [.v (.bool p.Null), .v (.string p.Local), .v (.string p.Domain)]), (6, .agg [.v (.bool true), .v (.string (⟨#[]⟩ : ByteArray)), .v (.string (⟨#[]⟩ : ByteArray))]), (7, .v (.bool (((p.Null == true) && ((p.Local.toList == (⟨#[]⟩ : ByteArray).toList) && ((p.Domain.toList == (⟨#[]⟩ : ByteArray).toList) && true)))))), (3, .v (.bool (((p.Null == true) && ((p.Local.toList == (⟨#[]⟩ : ByteArray).toList) && ((p.Domain.toList == (⟨#[]⟩ : ByteArray).toList) && true))))))]) (init := [0, 1]) (fin := [0, 1, 5]) (sps := [⟨[1], [], [2], [(.slot 5)]⟩, ⟨[], [], [3], [(.slot 6)]⟩, ⟨[2, 3], [], [4], [(.slot 7)]⟩, ⟨[4], [], [5], [(.slot 3)]⟩]) (es' := [(_, _), (_, _), (3, .v (.bool (((p.Null == true) && ((p.Local.toList == (⟨#[]⟩ : ByteArray).toList) && ((p.Domain.toList == (⟨#[]⟩ : ByteArray).toList) && true))))))]) (by kernel_rfl) rfl rfl
   ⟨st_plain rfl (op_loadA _ _ _ _ _ _ _ Tryd.underlying23 rfl sz23 rfl rfl (Nat.le_of_ble_eq_true rfl) rfl rfl),
   st_plain rfl (op_build _ _ _ _ [1, 1, 1] _ _ Tryd.underlying23 zr23 (fs23 _ Tryd.underlying23) (.copy _ Src.nil) rfl rfl rfl),
   st_plain rfl (op_eq_st _ _ [.bool p.Null, .string p.Local, .string p.Domain] [.bool true, .string (⟨#[]⟩ : ByteArray), .string (⟨#[]⟩ : ByteArray)] (((p.Null == true) && ((p.Local.toList == (⟨#[]⟩ : ByteArray).toList) && ((p.Domain.toList == (⟨#[]⟩ : ByteArray).toList) && true)))) _ false (by kernel_rfl) (by kernel_rfl) (by kernel_rfl) (by kernel_rfl) (by kernel_rfl) rfl rfl rfl rfl (by kernel_rfl) rfl),
   st_plain rfl (op_assign _ _ _ _ rfl rfl),
   trivial⟩ ?_
  refine pt_then ?_
  refine ht_seq ?_
  refine ht_joinS h (fun (s3 : Bool) => [(27, .glob (GL mx)), (3, .v (.bool (((p.Null == true) && ((p.Local.toList == (⟨#[]⟩ : ByteArray).toList) && ((p.Domain.toList == (⟨#[]⟩ : ByteArray).toList) && true)))))), (4, .v (.bool s3))]) ?_ ?_
  ·rintro s3 h
   refine pt_then ?_
   refine ht_seq ?_
   refine ht_seq ?_
   refine ht_joinS h (fun (s7 : Bool) => [(27, .glob (GL mx)), (26, .v (.bool s7))]) ?_ ?_
   ·rintro s7 h
    refine pt_then ?_
    refine ht_cond _ rfl (fun hb11 => ?_) (fun hb11 => ?_)
    ·have h := cond_t hb11 h
     refine ht_seq ?_
     refine ht_seqR hn (El := [_, _, (2, .v (.int .i64 5))]) (init := [0, 1]) (fin := [0, 2]) (sps := [⟨[], [], [2], [(.slot 2)]⟩]) (es' := [(_, _), (2, .v (.int .i64 5))]) (by kernel_rfl) rfl rfl
      ⟨st_plain rfl (op_assign _ _ _ _ rfl rfl),
      trivial⟩ ?_
     refine pt_then ?_
     refine ht_ret ?_
     refine pt_pick [1] (by kernel_rfl) (es' := [(_, _)]) rfl ?_
     refine pt_r_then ?_
     obtain rfl := Option.some.inj h
     exact pt_ret hio rfl (.tmp _ _ .nil) rfl rfl
    ·have h := cond_f hb11 h
     refine ht_skip ?_
     refine pt_then ?_
     refine ht_seq ?_
     refine ht_seqR hn (El := [_, _, (2, .v (.int .i64 0))]) (init := [0, 1]) (fin := [0, 2]) (sps := [⟨[], [], [2], [(.slot 2)]⟩]) (es' := [(_, _), (2, .v (.int .i64 0))]) (by kernel_rfl) rfl rfl
      ⟨st_plain rfl (op_assign _ _ _ _ rfl rfl),
      trivial⟩ ?_
     refine pt_then ?_
     refine ht_ret ?_
     refine pt_pick [1] (by kernel_rfl) (es' := [(_, _)]) rfl ?_
     obtain rfl := Option.some.inj h
     exact pt_ret hio rfl (.tmp _ _ .nil) rfl rfl
   ·intro u8 h hl9 hr10
    refine cond_some h (fun hg3_2 h => ?_) (fun hg3_2 h => ?_)
    ·refine ht_seqR hn (El := [_, _, _, (21, .v (.bool (((p.Null == true) && ((p.Local.toList == (⟨#[]⟩ : ByteArray).toList) && ((p.Domain.toList == (⟨#[]⟩ : ByteArray).toList) && true)))))), (22, .v (.bool ((!(((p.Null == true) && ((p.Local.toList == (⟨#[]⟩ : ByteArray).toList) && ((p.Domain.toList == (⟨#[]⟩ : ByteArray).toList) && true)))))))), (23, .v (.bool true)), (24, .v (.bool s3)), (25, .v (.bool (!s3))), (26, .v (.bool (!s3)))]) (init := [0, 1, 2]) (fin := [0, 8]) (sps := [⟨[1], [], [3], [(.slot 21)]⟩, ⟨[3], [], [4], [(.slot 22)]⟩, ⟨[4], [], [5], [(.slot 23)]⟩, ⟨[5, 2], [], [6], [(.slot 24)]⟩, ⟨[5, 6], [], [7], [(.slot 25)]⟩, ⟨[5, 7], [], [8], [(.slot 26)]⟩]) (es' := [(_, _), (26, .v (.bool (!s3)))]) (by kernel_rfl) rfl rfl
      ⟨st_plain rfl (op_move _ _ _ _ rfl rfl),
      st_plain rfl (op_un _ _ _ _ rfl rfl),
      st_plain rfl (op_move _ _ _ _ (congrArg (fun b => AV.v (Value.bool b)) hg3_2) rfl),
      st_run 2 23 true rfl rfl rfl (List.Mem.head _) (op_move _ _ _ _ rfl rfl),
      st_run 2 23 true rfl rfl rfl (List.Mem.head _) (op_un _ _ _ _ rfl rfl),
      st_plain rfl (op_pick _ _ true _ rfl rfl),
      trivial⟩ ?_
     exact hl9 _ (Option.some.inj h).symm
    ·refine ht_seqR hn (El := [_, _, _, (21, .v (.bool (((p.Null == true) && ((p.Local.toList == (⟨#[]⟩ : ByteArray).toList) && ((p.Domain.toList == (⟨#[]⟩ : ByteArray).toList) && true)))))), (22, .v (.bool ((!(((p.Null == true) && ((p.Local.toList == (⟨#[]⟩ : ByteArray).toList) && ((p.Domain.toList == (⟨#[]⟩ : ByteArray).toList) && true)))))))), (23, .v (.bool false)), (24, .v undef), (25, .v undef), (26, .v (.bool false))]) (init := [0, 1, 2]) (fin := [0, 8]) (sps := [⟨[1], [], [3], [(.slot 21)]⟩, ⟨[3], [], [4], [(.slot 22)]⟩, ⟨[4], [], [5], [(.slot 23)]⟩, ⟨[5], [], [6], [(.slot 24)]⟩, ⟨[5], [], [7], [(.slot 25)]⟩, ⟨[5], [], [8], [(.slot 26)]⟩]) (es' := [(_, _), (26, .v (.bool false))]) (by kernel_rfl) rfl rfl
      ⟨st_plain rfl (op_move _ _ _ _ rfl rfl),
      st_plain rfl (op_un _ _ _ _ rfl rfl),
      st_plain rfl (op_move _ _ _ _ (congrArg (fun b => AV.v (Value.bool b)) hg3_2) rfl),
      st_skip 2 23 _ true rfl rfl rfl rfl (List.Mem.head _),
      st_skip 2 23 _ true rfl rfl rfl rfl (List.Mem.head _),
      st_plain rfl (op_pick _ _ false _ rfl rfl),
      trivial⟩ ?_
     exact hl9 _ (Option.some.inj h).symm
  ·intro u4 h hl5 hr6
   refine cond_some h (fun hg2_3 h => ?_) (fun hg2_3 h => ?_)
   ·obtain ⟨v1, hv1, h⟩ := bind_some h
    refine cond_some h (fun hg2_8 h => ?_) (fun hg2_8 h => ?_)
    ·obtain ⟨v2, hv2, h⟩ := bind_some h
     refine ht_seqR hn (El := (_ :: _ :: _ :: (8, .ptr 1 0) :: (9, .v (.bool p.Null)) :: (10, .v (.bool (!p.Null))) :: (11, .v (.bool true)) :: (12, .ptr 1 1) :: (13, .v (.string p.Local)) :: (14, .v (.bool v1)) :: (15, .v (.bool v1)) :: (16, .v (.bool true)) :: (17, .ptr 1 2) :: (18, .v (.string p.Domain)) :: (19, .v (.bool v2)) :: (20, .v (.bool v2)) :: (4, .v (.bool v2)) :: [])) (init := [0, 1, 2]) (fin := [0, 2, 16]) (sps := [⟨[1], [], [3], [(.slot 8)]⟩, ⟨[3, 1], [], [4], [(.slot 9)]⟩, ⟨[4], [], [5], [(.slot 10)]⟩, ⟨[5], [], [6], [(.slot 11)]⟩, ⟨[6, 1], [], [7], [(.slot 12)]⟩, ⟨[6, 7, 1], [], [8], [(.slot 13)]⟩, ⟨[6, 8, 0], [], [9], [(.slot 14)]⟩, ⟨[6, 9], [], [10], [(.slot 15)]⟩, ⟨[10], [], [11], [(.slot 16)]⟩, ⟨[11, 1], [], [12], [(.slot 17)]⟩, ⟨[11, 12, 1], [], [13], [(.slot 18)]⟩, ⟨[11, 13, 0], [], [14], [(.slot 19)]⟩, ⟨[11, 14], [], [15], [(.slot 20)]⟩, ⟨[15], [], [16], [(.slot 4)]⟩]) (es' := [(_, _), (_, _), (4, .v (.bool v2))]) (by kernel_rfl) rfl rfl
      ⟨st_plain rfl (op_fieldAddr _ _ _ _ 1 0 _ Tryd.underlying23 rfl sz4 rfl rfl (by decide)),
      st_plain rfl (op_load _ _ _ _ _ _ Tryd.underlying4 rfl rfl rfl (Nat.le_of_ble_eq_true rfl) rfl rfl rfl),
      st_plain rfl (op_un _ _ _ _ rfl rfl),
      st_plain rfl (op_move _ _ _ _ (congrArg (fun b => AV.v (Value.bool b)) hg2_3) rfl),
      st_run 3 11 true rfl rfl rfl (List.Mem.head _) (op_fieldAddr _ _ _ _ 1 0 _ Tryd.underlying23 rfl sz9 rfl rfl (by decide)),
      st_run 3 11 true rfl rfl rfl (List.Mem.head _) (op_load _ _ _ _ _ _ Tryd.underlying9 rfl rfl rfl (Nat.le_of_ble_eq_true rfl) rfl rfl rfl),
      st_run 3 11 true rfl rfl rfl (List.Mem.head _) (op_callG _ _ 27 44 _ _ rfl Tryd.call44 rfl rfl (fun _ h => h) (ok_path_local mx p.Local _ hv1) rfl rfl),
      st_plain rfl (op_pick _ _ true _ rfl rfl),
      st_plain rfl (op_move _ _ _ _ (congrArg (fun b => AV.v (Value.bool b)) hg2_8) rfl),
      st_run 8 16 true rfl rfl rfl (List.Mem.head _) (op_fieldAddr _ _ _ _ 1 0 _ Tryd.underlying23 rfl sz9 rfl rfl (by decide)),
      st_run 8 16 true rfl rfl rfl (List.Mem.head _) (op_load _ _ _ _ _ _ Tryd.underlying9 rfl rfl rfl (Nat.le_of_ble_eq_true rfl) rfl rfl rfl),
      st_run 8 16 true rfl rfl rfl (List.Mem.head _) (op_callG _ _ 27 34 _ _ rfl Tryd.call34 rfl rfl (fun _ h => h) (ok_path_Domain mx p.Domain _ hv2) rfl rfl),
      st_plain rfl (op_pick _ _ true _ rfl rfl),
      st_plain rfl (op_assign _ _ _ _ rfl rfl),
      trivial⟩ ?_
     exact hl5 _ (Option.some.inj h).symm
    ·refine ht_seqR hn (El := (_ :: _ :: _ :: (8, .ptr 1 0) :: (9, .v (.bool p.Null)) :: (10, .v (.bool (!p.Null))) :: (11, .v (.bool true)) :: (12, .ptr 1 1) :: (13, .v (.string p.Local)) :: (14, .v (.bool v1)) :: (15, .v (.bool v1)) :: (16, .v (.bool false)) :: (17, .v undef) :: (18, .v undef) :: (19, .v undef) :: (20, .v (.bool false)) :: (4, .v (.bool false)) :: [])) (init := [0, 1, 2]) (fin := [0, 2, 16]) (sps := [⟨[1], [], [3], [(.slot 8)]⟩, ⟨[3, 1], [], [4], [(.slot 9)]⟩, ⟨[4], [], [5], [(.slot 10)]⟩, ⟨[5], [], [6], [(.slot 11)]⟩, ⟨[6, 1], [], [7], [(.slot 12)]⟩, ⟨[6, 7, 1], [], [8], [(.slot 13)]⟩, ⟨[6, 8, 0], [], [9], [(.slot 14)]⟩, ⟨[6, 9], [], [10], [(.slot 15)]⟩, ⟨[10], [], [11], [(.slot 16)]⟩, ⟨[11], [], [12], [(.slot 17)]⟩, ⟨[11], [], [13], [(.slot 18)]⟩, ⟨[11], [], [14], [(.slot 19)]⟩, ⟨[11], [], [15], [(.slot 20)]⟩, ⟨[15], [], [16], [(.slot 4)]⟩]) (es' := [(_, _), (_, _), (4, .v (.bool false))]) (by kernel_rfl) rfl rfl
      ⟨st_plain rfl (op_fieldAddr _ _ _ _ 1 0 _ Tryd.underlying23 rfl sz4 rfl rfl (by decide)),
      st_plain rfl (op_load _ _ _ _ _ _ Tryd.underlying4 rfl rfl rfl (Nat.le_of_ble_eq_true rfl) rfl rfl rfl),
      st_plain rfl (op_un _ _ _ _ rfl rfl),
      st_plain rfl (op_move _ _ _ _ (congrArg (fun b => AV.v (Value.bool b)) hg2_3) rfl),
      st_run 3 11 true rfl rfl rfl (List.Mem.head _) (op_fieldAddr _ _ _ _ 1 0 _ Tryd.underlying23 rfl sz9 rfl rfl (by decide)),
      st_run 3 11 true rfl rfl rfl (List.Mem.head _) (op_load _ _ _ _ _ _ Tryd.underlying9 rfl rfl rfl (Nat.le_of_ble_eq_true rfl) rfl rfl rfl),
      st_run 3 11 true rfl rfl rfl (List.Mem.head _) (op_callG _ _ 27 44 _ _ rfl Tryd.call44 rfl rfl (fun _ h => h) (ok_path_local mx p.Local _ hv1) rfl rfl),
      st_plain rfl (op_pick _ _ true _ rfl rfl),
      st_plain rfl (op_move _ _ _ _ (congrArg (fun b => AV.v (Value.bool b)) hg2_8) rfl),
      st_skip 8 16 _ true rfl rfl rfl rfl (List.Mem.head _),
      st_skip 8 16 _ true rfl rfl rfl rfl (List.Mem.head _),
      st_skip 8 16 _ true rfl rfl rfl rfl (List.Mem.head _),
      st_plain rfl (op_pick _ _ false _ rfl rfl),
      st_plain rfl (op_assign _ _ _ _ rfl rfl),
      trivial⟩ ?_
     exact hl5 _ (Option.some.inj h).symm
   ·refine ht_seqR hn (El := (_ :: _ :: _ :: (8, .ptr 1 0) :: (9, .v (.bool p.Null)) :: (10, .v (.bool (!p.Null))) :: (11, .v (.bool false)) :: (12, .v undef) :: (13, .v undef) :: (14, .v undef) :: (15, .v (.bool false)) :: (16, .v (.bool false)) :: (17, .v undef) :: (18, .v undef) :: (19, .v undef) :: (20, .v (.bool false)) :: (4, .v (.bool false)) :: [])) (init := [0, 1, 2]) (fin := [0, 2, 16]) (sps := [⟨[1], [], [3], [(.slot 8)]⟩, ⟨[3, 1], [], [4], [(.slot 9)]⟩, ⟨[4], [], [5], [(.slot 10)]⟩, ⟨[5], [], [6], [(.slot 11)]⟩, ⟨[6], [], [7], [(.slot 12)]⟩, ⟨[6], [], [8], [(.slot 13)]⟩, ⟨[6], [], [9], [(.slot 14)]⟩, ⟨[6], [], [10], [(.slot 15)]⟩, ⟨[10], [], [11], [(.slot 16)]⟩, ⟨[11], [], [12], [(.slot 17)]⟩, ⟨[11], [], [13], [(.slot 18)]⟩, ⟨[11], [], [14], [(.slot 19)]⟩, ⟨[11], [], [15], [(.slot 20)]⟩, ⟨[15], [], [16], [(.slot 4)]⟩]) (es' := [(_, _), (_, _), (4, .v (.bool false))]) (by kernel_rfl) rfl rfl
     ⟨st_plain rfl (op_fieldAddr _ _ _ _ 1 0 _ Tryd.underlying23 rfl sz4 rfl rfl (by decide)),
     st_plain rfl (op_load _ _ _ _ _ _ Tryd.underlying4 rfl rfl rfl (Nat.le_of_ble_eq_true rfl) rfl rfl rfl),
     st_plain rfl (op_un _ _ _ _ rfl rfl),
     st_plain rfl (op_move _ _ _ _ (congrArg (fun b => AV.v (Value.bool b)) hg2_3) rfl),
     st_skip 3 11 _ true rfl rfl rfl rfl (List.Mem.head _),
     st_skip 3 11 _ true rfl rfl rfl rfl (List.Mem.head _),
     st_skip 3 11 _ true rfl rfl rfl rfl (List.Mem.head _),
     st_plain rfl (op_pick _ _ false _ rfl rfl),
     st_plain rfl (op_move _ _ _ _ rfl rfl),
     st_skip 8 16 _ true rfl rfl rfl rfl (List.Mem.head _),
     st_skip 8 16 _ true rfl rfl rfl rfl (List.Mem.head _),
     st_skip 8 16 _ true rfl rfl rfl rfl (List.Mem.head _),
     st_plain rfl (op_pick _ _ false _ rfl rfl),
     st_plain rfl (op_assign _ _ _ _ rfl rfl),
     trivial⟩ ?_
    exact hl5 _ (Option.some.inj h).symm

set_option maxHeartbeats 1000000 in
theorem ok_path_Text (mx : Int) (p : T_Path) (r : (ByteArray × Int)) (h : Sh.path_Text p = some r) : FnG Tryd.prog (GL mx) 25 [.agg [.v (.bool p.Null), .v (.string p.Local), .v (.string p.Domain)]] (.tup [.v (.string r.1), .v (.int .i64 r.2)]) := by
  unfold Sh.path_Text at h
  refine fn_okG Tryd.func25 rfl (Nat.le_of_ble_eq_true rfl) rfl rfl fun g0 hn hio => ?_
  refine ht_seq ?_
  refine ht_seqR hn (El := [_, _, (1, .box 23 [.v (.bool p.Null), .v (.string p.Local), .v (.string p.Domain)]), (2, .v (.string (⟨#[]⟩ : ByteArray))), (3, .v (.int .i64 0))]) (init := [0, 1]) (fin := [1, 2]) (sps := [⟨[0], [], [2], [(.slot 1)]⟩, ⟨[], [], [3], [(.slot 2)]⟩, ⟨[], [], [4], [(.slot 3)]⟩]) (es' := [(_, _), (1, .box 23 [.v (.bool p.Null), .v (.string p.Local), .v (.string p.Domain)])]) (by kernel_rfl) rfl rfl
   ⟨st_plain rfl (op_box _ _ _ _ rfl rfl rfl),
   st_plain rfl (op_assign _ _ _ _ rfl rfl),
   st_plain rfl (op_assign _ _ _ _ rfl rfl),
   trivial⟩ ?_
  refine pt_then ?_
  refine ht_seq ?_
  refine ht_seq ?_
  obtain ⟨v1, hv1, h⟩ := bind_some h
  refine ht_seqR hn (El := [_, _, (5, .agg [.v (.bool p.Null), .v (.string p.Local), .v (.string p.Domain)]), (6, .v (.int .i64 v1)), (4, .v (.int .i64 v1))]) (init := [0, 1]) (fin := [0, 1, 4]) (sps := [⟨[1], [], [2], [(.slot 5)]⟩, ⟨[2, 0], [], [3], [(.slot 6)]⟩, ⟨[3], [], [4], [(.slot 4)]⟩]) (es' := [(_, _), (_, _), (4, .v (.int .i64 v1))]) (by kernel_rfl) rfl rfl
   ⟨st_plain rfl (op_loadA _ _ _ _ _ _ _ Tryd.underlying23 rfl sz23 rfl rfl (Nat.le_of_ble_eq_true rfl) rfl rfl),
   st_plain rfl (op_callG _ _ 20 36 _ _ rfl Tryd.call36 rfl rfl (fun _ h => h) (ok_path_Check mx p _ hv1) rfl rfl),
   st_plain rfl (op_assign _ _ _ _ rfl rfl),
   trivial⟩ ?_
  refine pt_then ?_
  refine ht_seq ?_
  refine ht_seqR hn (El := [_, _, _, (7, .v (.int .i64 v1)), (8, .v (.bool (v1 != 0)))]) (init := [0, 1, 2]) (fin := [0, 1, 2, 4]) (sps := [⟨[2], [], [3], [(.slot 7)]⟩, ⟨[3], [], [4], [(.slot 8)]⟩]) (es' := [(_, _), (_, _), (_, _), (8, .v (.bool (v1 != 0)))]) (by kernel_rfl) rfl rfl
   ⟨st_plain rfl (op_move _ _ _ _ rfl rfl),
   st_plain rfl (op_bin _ _ _ _ _ rfl rfl rfl),
   trivial⟩ ?_
  refine pt_then ?_
  refine ht_cond _ rfl (fun hb2 => ?_) (fun hb2 => ?_)
  ·have h := cond_t hb2 h
   refine ht_seq ?_
   refine ht_seqR hn (El := [_, _, _, _, (9, .v (.int .i64 v1)), (2, .v (.string (⟨#[]⟩ : ByteArray))), (3, .v (.int .i64 v1))]) (init := [0, 1, 2, 3]) (fin := [0, 5, 6]) (sps := [⟨[2], [], [4], [(.slot 9)]⟩, ⟨[], [], [5], [(.slot 2)]⟩, ⟨[4], [], [6], [(.slot 3)]⟩]) (es' := [(_, _), (2, .v (.string (⟨#[]⟩ : ByteArray))), (3, .v (.int .i64 v1))]) (by kernel_rfl) rfl rfl
    ⟨st_plain rfl (op_move _ _ _ _ rfl rfl),
    st_plain rfl (op_assign _ _ _ _ rfl rfl),
    st_plain rfl (op_assign _ _ _ _ rfl rfl),
    trivial⟩ ?_
   refine pt_then ?_
   refine ht_ret ?_
   refine pt_pick [1, 2] (by kernel_rfl) (es' := [(_, _), (_, _)]) rfl ?_
   refine pt_r_then ?_
   obtain rfl := Option.some.inj h
   exact pt_ret hio rfl (.tmp _ _ (.tmp _ _ .nil)) rfl rfl
  ·have h := cond_f hb2 h
   refine ht_skip ?_
   refine pt_then ?_
   refine ht_seq ?_
   refine ht_seq ?_
   refine ht_seqR hn (El := [_, _, _, _, (10, .ptr 1 0), (11, .v (.bool p.Null))]) (init := [0, 1, 2, 3]) (fin := [0, 1, 5]) (sps := [⟨[1], [], [4], [(.slot 10)]⟩, ⟨[4, 1], [], [5], [(.slot 11)]⟩]) (es' := [(_, _), (_, _), (11, .v (.bool p.Null))]) (by kernel_rfl) rfl rfl
    ⟨st_plain rfl (op_fieldAddr _ _ _ _ 1 0 _ Tryd.underlying23 rfl sz4 rfl rfl (by decide)),
    st_plain rfl (op_load _ _ _ _ _ _ Tryd.underlying4 rfl rfl rfl (Nat.le_of_ble_eq_true rfl) rfl rfl rfl),
    trivial⟩ ?_
   refine pt_then ?_
   refine ht_cond _ rfl (fun hb3 => ?_) (fun hb3 => ?_)
   ·have h := cond_t hb3 h
    refine ht_seq ?_
    refine ht_seqR hn (El := [_, _, _, (2, .v (.string (⟨#[60, 62]⟩ : ByteArray))), (3, .v (.int .i64 0))]) (init := [0, 1, 2]) (fin := [0, 3, 4]) (sps := [⟨[], [], [3], [(.slot 2)]⟩, ⟨[], [], [4], [(.slot 3)]⟩]) (es' := [(_, _), (2, .v (.string (⟨#[60, 62]⟩ : ByteArray))), (3, .v (.int .i64 0))]) (by kernel_rfl) rfl rfl
     ⟨st_plain rfl (op_assign _ _ _ _ rfl rfl),
     st_plain rfl (op_assign _ _ _ _ rfl rfl),
     trivial⟩ ?_
    refine pt_then ?_
    refine ht_ret ?_
    refine pt_pick [1, 2] (by kernel_rfl) (es' := [(_, _), (_, _)]) rfl ?_
    refine pt_r_then ?_
    obtain rfl := Option.some.inj h
    exact pt_ret hio rfl (.tmp _ _ (.tmp _ _ .nil)) rfl rfl
   ·have h := cond_f hb3 h
    refine ht_skip ?_
    refine pt_then ?_
    refine ht_seq ?_
    obtain ⟨v4, hv4, h⟩ := bind_some h
    obtain ⟨v5, hv5, h⟩ := bind_some h
    obtain ⟨v6, hv6, h⟩ := bind_some h
    obtain ⟨v7, hv7, h⟩ := bind_some h
    refine ht_seqR hn (El := [_, _, _, (12, .ptr 1 1), (13, .v (.string p.Local)), (14, .v (.string v4)), (15, .v (.string v5)), (16, .ptr 1 2), (17, .v (.string p.Domain)), (18, .v (.string v6)), (19, .v (.string v7)), (2, .v (.string v7)), (3, .v (.int .i64 0))]) (init := [0, 1, 2]) (fin := [0, 11, 12]) (sps := [⟨[1], [], [3], [(.slot 12)]⟩, ⟨[3, 1], [], [4], [(.slot 13)]⟩, ⟨[4], [], [5], [(.slot 14)]⟩, ⟨[5], [], [6], [(.slot 15)]⟩, ⟨[1], [], [7], [(.slot 16)]⟩, ⟨[7, 1], [], [8], [(.slot 17)]⟩, ⟨[6, 8], [], [9], [(.slot 18)]⟩, ⟨[9], [], [10], [(.slot 19)]⟩, ⟨[10], [], [11], [(.slot 2)]⟩, ⟨[], [], [12], [(.slot 3)]⟩]) (es' := [(_, _), (2, .v (.string v7)), (3, .v (.int .i64 0))]) (by kernel_rfl) rfl rfl
     ⟨st_plain rfl (op_fieldAddr _ _ _ _ 1 0 _ Tryd.underlying23 rfl sz9 rfl rfl (by decide)),
     st_plain rfl (op_load _ _ _ _ _ _ Tryd.underlying9 rfl rfl rfl (Nat.le_of_ble_eq_true rfl) rfl rfl rfl),
     st_plain rfl (op_bin _ _ _ _ _ rfl rfl (cat_ok hv4)),
     st_plain rfl (op_bin _ _ _ _ _ rfl rfl (cat_ok hv5)),
     st_plain rfl (op_fieldAddr _ _ _ _ 1 0 _ Tryd.underlying23 rfl sz9 rfl rfl (by decide)),
     st_plain rfl (op_load _ _ _ _ _ _ Tryd.underlying9 rfl rfl rfl (Nat.le_of_ble_eq_true rfl) rfl rfl rfl),
     st_plain rfl (op_bin _ _ _ _ _ rfl rfl (cat_ok hv6)),
     st_plain rfl (op_bin _ _ _ _ _ rfl rfl (cat_ok hv7)),
     st_plain rfl (op_assign _ _ _ _ rfl rfl),
     st_plain rfl (op_assign _ _ _ _ rfl rfl),
     trivial⟩ ?_
    refine pt_then ?_
    refine ht_ret ?_
    refine pt_pick [1, 2] (by kernel_rfl) (es' := [(_, _), (_, _)]) rfl ?_
    obtain rfl := Option.some.inj h
    exact pt_ret hio rfl (.tmp _ _ (.tmp _ _ .nil)) rfl rfl

set_option maxHeartbeats 1000000 in
theorem ok_verb_opening (kind : Int) (r : ByteArray) (h : Sh.verb_opening kind = some r) : FnOK Tryd.prog 27 [.v (.int .i64 kind)] (.v (.string r)) := by
  unfold Sh.verb_opening at h
  refine fn_ok Tryd.func27 rfl (Nat.le_of_ble_eq_true rfl) rfl rfl fun g0 hn hio => ?_
  refine ht_seq ?_
  refine ht_seqR hn (El := [_, (2, .v (.string (⟨#[]⟩ : ByteArray)))]) (init := [0]) (fin := [0]) (sps := [⟨[], [], [1], [(.slot 2)]⟩]) (es' := [(_, _)]) (by kernel_rfl) rfl rfl
   ⟨st_plain rfl (op_assign _ _ _ _ rfl rfl),
   trivial⟩ ?_
  refine pt_then ?_
  refine ht_seq ?_
  refine ht_seq ?_
  refine ht_seqR hn (El := [_, (3, .v (.int .i64 kind)), (4, .v (.bool (kind == 2)))]) (init := [0]) (fin := [2]) (sps := [⟨[0], [], [1], [(.slot 3)]⟩, ⟨[1], [], [2], [(.slot 4)]⟩]) (es' := [(4, .v (.bool (kind == 2)))]) (by kernel_rfl) rfl rfl
   ⟨st_plain rfl (op_move _ _ _ _ rfl rfl),
   st_plain rfl (op_bin _ _ _ _ _ rfl rfl rfl),
   trivial⟩ ?_
  refine pt_then ?_
  refine ht_cond _ rfl (fun hb1 => ?_) (fun hb1 => ?_)
  ·have h := cond_t hb1 h
   refine ht_seq ?_
   refine ht_seqR hn (El := [_, (2, .v (.string (⟨#[77, 65, 73, 76, 32, 70, 82, 79, 77, 58]⟩ : ByteArray)))]) (init := [0]) (fin := [1]) (sps := [⟨[], [], [1], [(.slot 2)]⟩]) (es' := [(2, .v (.string (⟨#[77, 65, 73, 76, 32, 70, 82, 79, 77, 58]⟩ : ByteArray)))]) (by kernel_rfl) rfl rfl
    ⟨st_plain rfl (op_assign _ _ _ _ rfl rfl),
    trivial⟩ ?_
   refine pt_then ?_
   refine ht_ret ?_
   refine pt_r_then ?_
   obtain rfl := Option.some.inj h
   exact pt_ret hio rfl (.tmp _ _ .nil) rfl rfl
  ·have h := cond_f hb1 h
   refine ht_skip ?_
   refine pt_then ?_
   refine ht_seq ?_
   refine ht_seqR hn (El := [_, (2, .v (.string (⟨#[82, 67, 80, 84, 32, 84, 79, 58]⟩ : ByteArray)))]) (init := [0]) (fin := [1]) (sps := [⟨[], [], [1], [(.slot 2)]⟩]) (es' := [(2, .v (.string (⟨#[82, 67, 80, 84, 32, 84, 79, 58]⟩ : ByteArray)))]) (by kernel_rfl) rfl rfl
    ⟨st_plain rfl (op_assign _ _ _ _ rfl rfl),
    trivial⟩ ?_
   refine pt_then ?_
   refine ht_ret ?_
   obtain rfl := Option.some.inj h
   exact pt_ret hio rfl (.tmp _ _ .nil) rfl rfl

theorem ok_strings_Builder_copyCheck (xs : List Value) : FnP Tryd.prog 37 [.hid (bldT 59 5 false xs)] [.hid (bldT 59 5 true xs)] (.tup []) :=
  bld_check (by decide) (fun b w h1 h2 h3 => Tryd.Builder_copyCheck_fresh b w h1 h2 h3) (fun b w h => Tryd.Builder_copyCheck_used b w h)

set_option maxHeartbeats 1000000 in
theorem ok_strings_Builder_WriteString (xs : List Int) (s : ByteArray) (r : List Int) (h : appO 1 xs (sbytes s) = some r) : FnP Tryd.prog 26 [.hid (bldT 59 5 false (List.map (Value.int .u8) xs)), .v (.string s)] [.hid (bldT 59 5 false (List.map (Value.int .u8) r))] (.tup [.v (.int .i64 (s.size : Int)), .v .nilIface]) := by
  refine FnP.bldW ?_
  refine fn_okP Tryd.func26 rfl (Nat.le_of_ble_eq_true rfl) rfl (Nat.le_of_ble_eq_true rfl) fun args0 hargs0 g0 hn hio => ?_
  refine ht_seq ?_
  refine ht_seqR hn (El := [_, _, _, (4, .v (.int .i64 0)), (5, .v .nilIface)]) (init := [0, 1, 2]) (fin := [0, 1, 2]) (sps := [⟨[], [], [3], [(.slot 4)]⟩, ⟨[], [], [4], [(.slot 5)]⟩]) (es' := [(_, _), (_, _), (_, _)]) (by kernel_rfl) rfl rfl
   ⟨st_plain rfl (op_assign _ _ _ _ rfl rfl),
   st_plain rfl (op_assign _ _ _ _ rfl rfl),
   trivial⟩ ?_
  refine pt_then ?_
  refine ht_seq ?_
  refine ht_seqR hn (El := [_, _, _, (6, .same (.slot 0)), (0, .hid (bldT 59 5 true (List.map (Value.int .u8) xs))), (7, .tup [])]) (init := [0, 1, 2]) (fin := [4, 1, 2]) (sps := [⟨[], [], [3], [(.slot 6)]⟩, ⟨[3], [0], [4, 5], [(.slot 7)]⟩]) (es' := [(0, .hid (bldT 59 5 true (List.map (Value.int .u8) xs))), (_, _), (_, _)]) (by kernel_rfl) rfl rfl
   ⟨st_plain rfl (op_move_name _ _ _ rfl),
   st_plain rfl (op_callPS _ _ _ _ 7 37 [.tmp 6] [] _ _ _ rfl Tryd.call37 rfl rfl rfl (ok_strings_Builder_copyCheck _) (Nat.le_of_ble_eq_true rfl) rfl rfl rfl rfl rfl rfl rfl),
   trivial⟩ ?_
  refine pt_then ?_
  refine ht_bld_box 0 rfl ?_
  refine ht_seq ?_
  refine ht_seqR hn (El := (_ :: _ :: _ :: (8, .ptr 0 0) :: (9, .ptr 0 0) :: (10, .ptr 0 0) :: (11, .ptr 0 1) :: (12, .same (.cell 0 1)) :: (13, .v (.string s)) :: (14, .fl (.own 5) 1 (List.map (Value.int .u8) r)) :: (0, .box 59 [.ptr 0 0, .any]) :: (15, .ptr 0 0) :: (16, .ptr 0 1) :: (0, .box 59 [.ptr 0 0, .fl (.own 5) 1 (List.map (Value.int .u8) r)]) :: [])) (init := [0, 1, 2]) (fin := [13, 1, 2]) (sps := [⟨[0], [], [3], [(.slot 8)]⟩, ⟨[0], [], [4], [(.slot 9)]⟩, ⟨[4, 0], [], [5], [(.slot 10)]⟩, ⟨[5, 0], [], [6], [(.slot 11)]⟩, ⟨[6, 0], [], [7], [(.slot 12)]⟩, ⟨[1], [], [8], [(.slot 13)]⟩, ⟨[7, 8], [0], [10, 9], [(.slot 14)]⟩, ⟨[3, 10], [], [11], [(.slot 15)]⟩, ⟨[11, 10], [], [12], [(.slot 16)]⟩, ⟨[12], [7, 9, 10], [13], [.cell 0 1]⟩]) (es' := [(0, .box 59 [.ptr 0 0, .fl (.own 5) 1 (List.map (Value.int .u8) r)]), (_, _), (_, _)]) (by kernel_rfl) rfl rfl
   ⟨st_plain rfl (op_move _ _ _ _ rfl rfl),
   st_plain rfl (op_move _ _ _ _ rfl rfl),
   st_plain rfl (op_nilCheck _ _ _ 0 0 rfl (by decide)),
   st_plain rfl (op_fieldAddr _ _ _ _ 0 0 _ Tryd.underlying59 rfl sz37 rfl rfl (by decide)),
   st_plain rfl (op_load _ _ _ _ _ _ Tryd.underlying37 rfl rfl rfl (Nat.le_of_ble_eq_true rfl) rfl rfl rfl),
   st_plain rfl (op_move _ _ _ _ rfl rfl),
   st_plain rfl (op_apps_cell _ _ _ _ _ _ el37 zr5 Tryd.underlying9 rfl rfl (Nat.le_of_ble_eq_true rfl) rfl rfl h rfl (by decide) rfl rfl),
   st_plain rfl (op_nilCheck _ _ _ 0 0 rfl (by decide)),
   st_plain rfl (op_fieldAddr _ _ _ _ 0 0 _ Tryd.underlying59 rfl sz37 rfl rfl (by decide)),
   st_plain rfl (LOp.drop [_] (op_store_take _ _ _ _ _ _ _ _ sz37 rfl rfl rfl (Nat.le_of_ble_eq_true rfl) rfl rfl)),
   trivial⟩ ?_
  refine pt_then ?_
  refine ht_seq ?_
  refine ht_seqR hn (El := [_, _, _, (17, .v (.string s)), (18, .v (.int .i64 (s.size : Int))), (4, .v (.int .i64 (s.size : Int))), (5, .v .nilIface)]) (init := [0, 1, 2]) (fin := [0, 2, 5, 6]) (sps := [⟨[1], [], [3], [(.slot 17)]⟩, ⟨[3], [], [4], [(.slot 18)]⟩, ⟨[4], [], [5], [(.slot 4)]⟩, ⟨[], [], [6], [(.slot 5)]⟩]) (es' := [(_, _), (_, _), (4, .v (.int .i64 (s.size : Int))), (5, .v .nilIface)]) (by kernel_rfl) rfl rfl
   ⟨st_plain rfl (op_move _ _ _ _ rfl rfl),
   st_plain rfl (op_len_str _ _ _ Tryd.underlying9 rfl),
   st_plain rfl (op_assign _ _ _ _ rfl rfl),
   st_plain rfl (op_assign _ _ _ _ rfl rfl),
   trivial⟩ ?_
  refine pt_then ?_
  refine ht_ret ?_
  refine pt_bld 0 ?_
  refine pt_pick [2, 3, 0, 1] (by kernel_rfl) (es' := [(_, _), (_, _), (_, _), (_, _)]) rfl ?_
  exact pt_retP (es := [(4, .v (.int .i64 (s.size : Int))), (5, .v .nilIface)]) (posts := [.hid (bldT 59 5 true (List.map (Value.int .u8) r))]) hio rfl rfl (.tmp _ _ (.tmp _ _ .nil)) rfl rfl hargs0 rfl

set_option maxHeartbeats 1000000 in
theorem ok_strings_Builder_String (xs : List Int) (s : ByteArray) (h : strO xs = some s) : FnP Tryd.prog 28 [.hid (bldT 59 5 false (List.map (Value.int .u8) xs))] [] (.v (.string s)) := by
  refine fn_okP Tryd.func28 rfl (Nat.le_of_ble_eq_true rfl) rfl (Nat.le_of_ble_eq_true rfl) fun args0 hargs0 g0 hn hio => ?_
  refine ht_bld_row 0 fun v => ?_
  refine ht_seq ?_
  refine ht_seqR hn (El := [_, (2, .v (.string ByteArray.empty))]) (init := [0]) (fin := [0]) (sps := [⟨[], [], [1], [(.slot 2)]⟩]) (es' := [(_, _)]) (by kernel_rfl) rfl rfl
   ⟨st_plain rfl (op_assign _ _ _ _ rfl rfl),
   trivial⟩ ?_
  refine pt_then ?_
  refine ht_seq ?_
  refine ht_anyR (by kernel_rfl) hn (El := [_, (3, .same (.slot 0)), (4, .ptr 0 0), (5, .ptr 0 1), (6, .v v), (7, .hid (usdT v)), (8, .same (.slot 0)), (9, .ptr 0 0), (10, .ptr 0 1), (11, .v v), (12, .v (.int .i64 ((List.map (Value.int .u8) xs).length : Int))), (13, .v (.string s)), (2, .v (.string s))]) (init := [0]) (fin := [12]) (sps := [⟨[], [], [1], [(.slot 3)]⟩, ⟨[1, 0], [], [2], [(.slot 4)]⟩, ⟨[2], [], [3], [(.slot 5)]⟩, ⟨[3, 0], [], [4], [(.slot 6)]⟩, ⟨[4, 0], [], [5], [(.slot 7)]⟩, ⟨[], [], [6], [(.slot 8)]⟩, ⟨[6, 0], [], [7], [(.slot 9)]⟩, ⟨[7], [], [8], [(.slot 10)]⟩, ⟨[8, 0], [], [9], [(.slot 11)]⟩, ⟨[9, 0], [], [10], [(.slot 12)]⟩, ⟨[5, 10], [0], [11], [(.slot 13)]⟩, ⟨[11], [], [12], [(.slot 2)]⟩]) (es' := [(2, .v (.string s))]) (by kernel_rfl) rfl rfl
   ⟨st_plain rfl (op_move_name _ _ _ rfl),
   st_plain rfl (op_nilCheck_bld _ _ _ 0 rfl rfl (by decide)),
   st_plain rfl (op_fieldAddr _ _ _ _ 0 0 _ Tryd.underlying59 rfl sz37 rfl rfl (by decide)),
   st_plain rfl (op_load_bld _ _ _ 0 Tryd.underlying37 rfl rfl rfl),
   st_plain rfl (op_usd _ _ 0 Tryd.underlying74 rfl rfl),
   st_plain rfl (op_move_name _ _ _ rfl),
   st_plain rfl (op_nilCheck_bld _ _ _ 0 rfl rfl (by decide)),
   st_plain rfl (op_fieldAddr _ _ _ _ 0 0 _ Tryd.underlying59 rfl sz37 rfl rfl (by decide)),
   st_plain rfl (op_load_bld _ _ _ 0 Tryd.underlying37 rfl rfl rfl),
   st_plain rfl (op_len_bld _ _ 0 Tryd.underlying37 rfl rfl),
   st_plain rfl (op_ustr _ _ 0 Tryd.underlying74 (by kernel_rfl) rfl rfl h),
   st_plain rfl (op_assign _ _ _ _ rfl rfl),
   trivial⟩ ?_
  refine pt_then ?_
  refine ht_ret ?_
  exact pt_retP (es := [(2, .v (.string s))]) (posts := []) hio rfl rfl (.tmp _ _ .nil) rfl rfl hargs0 rfl

set_option maxHeartbeats 1000000 in
theorem ok_verb_format (mx : Int) (c : T_Cmd) (r : ByteArray) (h : Sh.verb_format c = some r) : FnG Tryd.prog (GL mx) 14 [.agg [.v (.int .i64 c.Kind), .v (.string c.Text), .v (.bool c.Path.Null), .v (.string c.Path.Local), .v (.string c.Path.Domain), .fl .shr 2 (List.flatten (List.map T_Param.enc c.Params))]] (.v (.string r)) := by
  unfold Sh.verb_format at h
  refine fn_okG Tryd.func14 rfl (Nat.le_of_ble_eq_true rfl) rfl rfl fun g0 hn hio => ?_
  refine ht_seq ?_
  refine ht_seqR hn (El := [_, _, (1, .box 26 [.v (.int .i64 c.Kind), .v (.string c.Text), .v (.bool c.Path.Null), .v (.string c.Path.Local), .v (.string c.Path.Domain), .fl .shr 2 (List.flatten (List.map T_Param.enc c.Params))]), (2, .v (.string (⟨#[]⟩ : ByteArray)))]) (init := [0, 1]) (fin := [1, 2]) (sps := [⟨[0], [], [2], [(.slot 1)]⟩, ⟨[], [], [3], [(.slot 2)]⟩]) (es' := [(_, _), (1, .box 26 [.v (.int .i64 c.Kind), .v (.string c.Text), .v (.bool c.Path.Null), .v (.string c.Path.Local), .v (.string c.Path.Domain), .fl .shr 2 (List.flatten (List.map T_Param.enc c.Params))])]) (by kernel_rfl) rfl rfl
   ⟨st_plain rfl (op_box _ _ _ _ rfl rfl rfl),
   st_plain rfl (op_assign _ _ _ _ rfl rfl),
   trivial⟩ ?_
  refine pt_then ?_
  refine ht_seq ?_
  refine ht_seq ?_
  refine ht_seqR hn (El := [_, _, (8, .ptr 1 0), (9, .v (.int .i64 c.Kind))]) (init := [0, 1]) (fin := [0, 1, 3]) (sps := [⟨[1], [], [2], [(.slot 8)]⟩, ⟨[2, 1], [], [3], [(.slot 9)]⟩]) (es' := [(_, _), (_, _), (9, .v (.int .i64 c.Kind))]) (by kernel_rfl) rfl rfl
   ⟨st_plain rfl (op_fieldAddr _ _ _ _ 1 0 _ Tryd.underlying26 rfl sz3 rfl rfl (by decide)),
   st_plain rfl (op_load _ _ _ _ _ _ Tryd.underlying3 rfl rfl rfl (Nat.le_of_ble_eq_true rfl) rfl rfl rfl),
   trivial⟩ ?_
  refine pt_then ?_
  refine ht_block ?_
  refine ht_seq ?_
  refine ht_seqR hn (El := [_, _, _, (11, .v (.bool (c.Kind == 1))), (10, .v (.bool (c.Kind == 1)))]) (init := [0, 1, 2]) (fin := [0, 1, 2, 4]) (sps := [⟨[2], [], [3], [(.slot 11)]⟩, ⟨[3], [], [4], [(.slot 10)]⟩]) (es' := [(_, _), (_, _), (_, _), (10, .v (.bool (c.Kind == 1)))]) (by kernel_rfl) rfl rfl
   ⟨st_plain rfl (op_bin _ _ _ _ _ rfl rfl rfl),
   st_plain rfl (op_assign _ _ _ _ rfl rfl),
   trivial⟩ ?_
  refine pt_then ?_
  refine ht_cond _ rfl (fun hb1 => ?_) (fun hb1 => ?_)
  ·have h := cond_t hb1 h
   refine ht_seq ?_
   obtain ⟨v2, hv2, h⟩ := bind_some h
   refine ht_seqR hn (El := [_, _, _, _, (12, .ptr 1 1), (13, .v (.string c.Text)), (14, .v (.string v2)), (2, .v (.string v2))]) (init := [0, 1, 2, 3]) (fin := [0, 7]) (sps := [⟨[1], [], [4], [(.slot 12)]⟩, ⟨[4, 1], [], [5], [(.slot 13)]⟩, ⟨[5], [], [6], [(.slot 14)]⟩, ⟨[6], [], [7], [(.slot 2)]⟩]) (es' := [(_, _), (2, .v (.string v2))]) (by kernel_rfl) rfl rfl
    ⟨st_plain rfl (op_fieldAddr _ _ _ _ 1 0 _ Tryd.underlying26 rfl sz9 rfl rfl (by decide)),
    st_plain rfl (op_load _ _ _ _ _ _ Tryd.underlying9 rfl rfl rfl (Nat.le_of_ble_eq_true rfl) rfl rfl rfl),
    st_plain rfl (op_bin _ _ _ _ _ rfl rfl (cat_ok hv2)),
    st_plain rfl (op_assign _ _ _ _ rfl rfl),
    trivial⟩ ?_
   refine pt_then ?_
   refine ht_ret ?_
   refine pt_pick [1] (by kernel_rfl) (es' := [(_, _)]) rfl ?_
   refine pt_r_in ?_
   refine pt_r_then ?_
   obtain rfl := Option.some.inj h
   exact pt_ret hio rfl (.tmp _ _ .nil) rfl rfl
  ·have h := cond_f hb1 h
   refine ht_seq ?_
   refine ht_joinS h (fun (s4 : Bool) => [(75, .glob (GL mx)), (1, .box 26 [.v (.int .i64 c.Kind), .v (.string c.Text), .v (.bool c.Path.Null), .v (.string c.Path.Local), .v (.string c.Path.Domain), .fl .shr 2 (List.flatten (List.map T_Param.enc c.Params))]), (9, .v (.int .i64 c.Kind)), (15, .v (.bool s4))]) ?_ ?_
   ·rintro s4 h
    refine pt_then ?_
    refine ht_cond _ rfl (fun hb9 => ?_) (fun hb9 => ?_)
    ·have h := cond_t hb9 h
     refine ht_seq ?_
     obtain ⟨v10, hv10, h⟩ := bind_some h
     refine ht_seqR hn (El := [_, _, _, _, (19, .ptr 1 2), (20, .agg [.v (.bool c.Path.Null), .v (.string c.Path.Local), .v (.string c.Path.Domain)]), (21, .tup [.v (.string v10.1), .v (.int .i64 v10.2)]), (18, .tup [.v (.string v10.1), .v (.int .i64 v10.2)]), (22, .v (.string v10.1)), (23, .v (.int .i64 v10.2)), (3, .v (.string v10.1)), (4, .v (.int .i64 v10.2))]) (init := [0, 1, 2, 3]) (fin := [0, 1, 10]) (sps := [⟨[1], [], [4], [(.slot 19)]⟩, ⟨[4, 1], [], [5], [(.slot 20)]⟩, ⟨[5, 0], [], [6], [(.slot 21)]⟩, ⟨[], [6], [7], [(.slot 18)]⟩, ⟨[7], [], [8], [(.slot 22)]⟩, ⟨[7], [], [9], [(.slot 23)]⟩, ⟨[8], [], [10], [(.slot 3)]⟩, ⟨[9], [], [11], [(.slot 4)]⟩]) (es' := [(_, _), (_, _), (3, .v (.string v10.1))]) (by kernel_rfl) rfl rfl
      ⟨st_plain rfl (op_fieldAddr _ _ _ _ 1 0 _ Tryd.underlying26 rfl sz23 rfl rfl (by decide)),
      st_plain rfl (op_loadA _ _ _ _ _ _ _ Tryd.underlying23 rfl sz23 rfl rfl (Nat.le_of_ble_eq_true rfl) rfl rfl),
      st_plain rfl (op_callG _ _ 75 25 _ _ rfl Tryd.call25 rfl rfl (fun _ h => h) (ok_path_Text mx (T_Path.mk c.Path.Null c.Path.Local c.Path.Domain) _ hv10) rfl rfl),
      st_plain rfl (op_move_take _ _ _ _ rfl),
      st_plain rfl (op_extract _ _ _ _ _ rfl rfl (Nat.le_of_ble_eq_true rfl) rfl rfl),
      st_plain rfl (op_extract _ _ _ _ _ rfl rfl (Nat.le_of_ble_eq_true rfl) rfl rfl),
      st_plain rfl (op_assign _ _ _ _ rfl rfl),
      st_plain rfl (op_assign _ _ _ _ rfl rfl),
      trivial⟩ ?_
     refine pt_then ?_
     refine ht_seq ?_
     refine ht_seqR hn (El := [_, _, _, (5, .hid (bldT 59 5 false (List.map (Value.int .u8) ([] : List Int))))]) (init := [0, 1, 2]) (fin := [0, 1, 2, 3]) (sps := [⟨[], [], [3], [(.slot 5)]⟩]) (es' := [(_, _), (_, _), (_, _), (5, .hid (bldT 59 5 false (List.map (Value.int .u8) ([] : List Int))))]) (by kernel_rfl) rfl rfl
      ⟨st_plain rfl (LOp.bld0 (op_alloc _ _ zr59)),
      trivial⟩ ?_
     refine pt_then ?_
     refine ht_seq ?_
     obtain ⟨v11, hv11, h⟩ := bind_some h
     obtain ⟨v12, hv12, h⟩ := bind_some h
     obtain ⟨v13, hv13, h⟩ := bind_some h
     refine ht_seqR hn (El := [_, _, _, _, (24, .ptr 1 0), (25, .v (.int .i64 c.Kind)), (26, .v (.string v11)), (27, .v (.string v10.1)), (28, .v (.string v12)), (29, .tup [.v (.int .i64 (v12.size : Int)), .v (.nilIface)]), (5, .hid (bldT 59 5 false (List.map (Value.int .u8) v13)))]) (init := [0, 1, 2, 3]) (fin := [0, 1, 10]) (sps := [⟨[1], [], [4], [(.slot 24)]⟩, ⟨[4, 1], [], [5], [(.slot 25)]⟩, ⟨[5], [], [6], [(.slot 26)]⟩, ⟨[2], [], [7], [(.slot 27)]⟩, ⟨[6, 7], [], [8], [(.slot 28)]⟩, ⟨[8], [3], [10, 9], [(.slot 29)]⟩]) (es' := [(_, _), (_, _), (5, .hid (bldT 59 5 false (List.map (Value.int .u8) v13)))]) (by kernel_rfl) rfl rfl
      ⟨st_plain rfl (op_fieldAddr _ _ _ _ 1 0 _ Tryd.underlying26 rfl sz3 rfl rfl (by decide)),
      st_plain rfl (op_load _ _ _ _ _ _ Tryd.underlying3 rfl rfl rfl (Nat.le_of_ble_eq_true rfl) rfl rfl rfl),
      st_plain rfl (op_call _ _ 27 _ _ rfl Tryd.call27 rfl (ok_verb_opening c.Kind _ hv11) rfl rfl),
      st_plain rfl (op_move _ _ _ _ rfl rfl),
      st_plain rfl (op_bin _ _ _ _ _ rfl rfl (cat_ok hv12)),
      st_plain rfl (op_callPS _ _ _ _ 29 26 [.tmp 5] [.tmp 28] _ _ _ rfl Tryd.call26 rfl rfl rfl (ok_strings_Builder_WriteString ([] : List Int) v12 _ hv13) (Nat.le_of_ble_eq_true rfl) rfl rfl rfl rfl rfl rfl rfl),
      trivial⟩ ?_
     refine pt_then ?_
     refine ht_seq ?_
     refine ht_seq ?_
     refine ht_seqR hn (El := [_, _, _, (30, .ptr 1 5), (31, .fl .shr 2 (List.flatten (List.map T_Param.enc c.Params))), (32, .v (.int .i64 (c.Params.length : Int))), (33, .v (.int .i64 0))]) (init := [0, 1, 2]) (fin := [0, 2, 4, 5, 6]) (sps := [⟨[1], [], [3], [(.slot 30)]⟩, ⟨[3, 1], [], [4], [(.slot 31)]⟩, ⟨[4], [], [5], [(.slot 32)]⟩, ⟨[], [], [6], [(.slot 33)]⟩]) (es' := [(_, _), (_, _), (31, .fl .shr 2 (List.flatten (List.map T_Param.enc c.Params))), (32, .v (.int .i64 (c.Params.length : Int))), (33, .v (.int .i64 0))]) (by kernel_rfl) rfl rfl
      ⟨st_plain rfl (op_fieldAddr _ _ _ _ 1 0 _ Tryd.underlying26 rfl sz24 rfl rfl (by decide)),
      st_plain rfl (op_load _ _ _ _ _ _ Tryd.underlying24 rfl rfl rfl (Nat.le_of_ble_eq_true rfl) rfl rfl rfl),
      st_plain rfl (op_len_fl _ _ _ Tryd.underlying24 rfl (by decide) (flat_len T_Param.len _)),
      st_plain rfl (op_move _ _ _ _ rfl rfl),
      trivial⟩ ?_
     refine pt_then ?_
     refine ht_loopS h (fun ((s25, s26) : (List Int) × Int) => [(75, .glob (GL mx)), (5, .hid (bldT 59 5 false (List.map (Value.int .u8) s25))), (31, .fl .shr 2 (List.flatten (List.map T_Param.enc c.Params))), (32, .v (.int .i64 (c.Params.length : Int))), (33, .v (.int .i64 s26))]) (fun (s28 : (List Int)) => [(75, .glob (GL mx)), (5, .hid (bldT 59 5 false (List.map (Value.int .u8) s28)))]) ?_ ?_
     ·rintro s28 h
      refine pt_then ?_
      refine ht_seq ?_
      obtain ⟨v36, hv36, h⟩ := bind_some h
      refine ht_seqR hn (El := [_, _, (46, .v (.string v36)), (2, .v (.string v36))]) (init := [0, 1]) (fin := [0, 3]) (sps := [⟨[], [1], [2], [(.slot 46)]⟩, ⟨[2], [], [3], [(.slot 2)]⟩]) (es' := [(_, _), (2, .v (.string v36))]) (by kernel_rfl) rfl rfl
       ⟨st_plain rfl (op_callPS _ _ _ _ 46 28 [.tmp 5] [] _ _ _ rfl Tryd.call28 rfl rfl rfl (ok_strings_Builder_String s28 _ hv36) (Nat.le_of_ble_eq_true rfl) rfl rfl rfl rfl rfl rfl rfl),
       st_plain rfl (op_assign _ _ _ _ rfl rfl),
       trivial⟩ ?_
      refine pt_then ?_
      refine ht_ret ?_
      refine pt_pick [1] (by kernel_rfl) (es' := [(_, _)]) rfl ?_
      refine pt_r_in ?_
      refine pt_r_then ?_
      obtain rfl := Option.some.inj h
      exact pt_ret hio rfl (.tmp _ _ .nil) rfl rfl
     ·rintro u29 hl30 hr31 ⟨s25, s26⟩ rr34 h ho32
      refine ht_seq ?_
      refine ht_seqR hn (El := [_, _, _, _, _, (34, .v (.bool ((decide (s26 < (c.Params.length : Int))))))]) (init := [0, 1, 2, 3, 4]) (fin := [0, 1, 2, 3, 4, 5]) (sps := [⟨[4, 3], [], [5], [(.slot 34)]⟩]) (es' := [(_, _), (_, _), (_, _), (_, _), (_, _), (34, .v (.bool ((decide (s26 < (c.Params.length : Int))))))]) (by kernel_rfl) rfl rfl
       ⟨st_plain rfl (op_bin _ _ _ _ _ rfl rfl rfl),
       trivial⟩ ?_
      refine pt_then ?_
      refine ht_seq ?_
      refine ht_cond _ rfl (fun hb35 => ?_) (fun hb35 => ?_)
      ·have h := cond_t hb35 h
       refine ht_skip ?_
       refine pt_then ?_
       refine ht_seq ?_
       refine ht_block ?_
       refine ht_seq ?_
       obtain ⟨v15, hv15, h⟩ := bind_some h
       obtain ⟨v16, hv16, h⟩ := bind_some h
       refine ht_seqR hn (El := [_, _, _, _, _, _, (35, .eref (.slot 31) (v15 * 2)), (36, .agg [.v (.string v16.Key), .v (.string v16.Val)]), (7, .box 46 [.v (.string (⟨#[]⟩ : ByteArray)), .v (.string (⟨#[]⟩ : ByteArray))]), (7, .box 46 [.v (.string v16.Key), .v (.string v16.Val)])]) (init := [0, 1, 2, 3, 4, 5]) (fin := [0, 1, 2, 3, 4, 9]) (sps := [⟨[2, 4], [], [6], [(.slot 35)]⟩, ⟨[6, 2], [], [7], [(.slot 36)]⟩, ⟨[], [], [8], [(.slot 7)]⟩, ⟨[7], [8], [9], [.cell 7 0, .cell 7 1]⟩]) (es' := [(_, _), (_, _), (_, _), (_, _), (_, _), (7, .box 46 [.v (.string v16.Key), .v (.string v16.Val)])]) (by kernel_rfl) rfl rfl
        ⟨st_plain rfl (op_ix _ _ _ _ _ _ _ _ Tryd.underlying24 sz46 (by decide) rfl rfl rfl (ix_ok hv15).1 (flat_lt T_Param.len (ix_ok hv15).2) rfl),
        st_plain rfl (op_load_eA _ _ _ _ _ _ _ Tryd.underlying46 rfl sz46 rfl rfl (flat_get T_Param.len hv16) rfl (by decide)),
        st_plain rfl (op_alloc _ _ zr46),
        st_plain rfl (op_store _ _ _ _ _ _ _ _ sz46 rfl rfl rfl rfl (Nat.le_of_ble_eq_true rfl) rfl rfl),
        trivial⟩ ?_
       refine pt_then ?_
       obtain ⟨v17, hv17, h⟩ := bind_some h
       obtain ⟨v18, hv18, h⟩ := bind_some h
       obtain ⟨v19, hv19, h⟩ := bind_some h
       obtain ⟨v20, hv20, h⟩ := bind_some h
       refine ht_seqR hn (El := (_ :: _ :: _ :: _ :: _ :: _ :: (37, .ptr 7 0) :: (38, .v (.string v16.Key)) :: (39, .v (.string v17)) :: (40, .v (.string v18)) :: (41, .ptr 7 1) :: (42, .v (.string v16.Val)) :: (43, .v (.string v19)) :: (44, .tup [.v (.int .i64 (v19.size : Int)), .v (.nilIface)]) :: (5, .hid (bldT 59 5 false (List.map (Value.int .u8) v20))) :: [])) (init := [0, 1, 2, 3, 4, 5]) (fin := [0, 14, 2, 3, 4]) (sps := [⟨[5], [], [6], [(.slot 37)]⟩, ⟨[6, 5], [], [7], [(.slot 38)]⟩, ⟨[7], [], [8], [(.slot 39)]⟩, ⟨[8], [], [9], [(.slot 40)]⟩, ⟨[5], [], [10], [(.slot 41)]⟩, ⟨[10, 5], [], [11], [(.slot 42)]⟩, ⟨[9, 11], [], [12], [(.slot 43)]⟩, ⟨[12], [1], [14, 13], [(.slot 44)]⟩]) (es' := [(_, _), (5, .hid (bldT 59 5 false (List.map (Value.int .u8) v20))), (_, _), (_, _), (_, _)]) (by kernel_rfl) rfl rfl
        ⟨st_plain rfl (op_fieldAddr _ _ _ _ 7 0 _ Tryd.underlying46 rfl sz9 rfl rfl (by decide)),
        st_plain rfl (op_load _ _ _ _ _ _ Tryd.underlying9 rfl rfl rfl (Nat.le_of_ble_eq_true rfl) rfl rfl rfl),
        st_plain rfl (op_bin _ _ _ _ _ rfl rfl (cat_ok hv17)),
        st_plain rfl (op_bin _ _ _ _ _ rfl rfl (cat_ok hv18)),
        st_plain rfl (op_fieldAddr _ _ _ _ 7 0 _ Tryd.underlying46 rfl sz9 rfl rfl (by decide)),
        st_plain rfl (op_load _ _ _ _ _ _ Tryd.underlying9 rfl rfl rfl (Nat.le_of_ble_eq_true rfl) rfl rfl rfl),
        st_plain rfl (op_bin _ _ _ _ _ rfl rfl (cat_ok hv19)),
        st_plain rfl (op_callPS _ _ _ _ 44 26 [.tmp 5] [.tmp 43] _ _ _ rfl Tryd.call26 rfl rfl rfl (ok_strings_Builder_WriteString s25 v19 _ hv20) (Nat.le_of_ble_eq_true rfl) rfl rfl rfl rfl rfl rfl rfl),
        trivial⟩ ?_
       refine pt_inb ?_
       refine pt_then ?_
       obtain ⟨v21, hv21, h⟩ := bind_some h
       refine ht_seqR hn (El := [_, _, _, _, _, (45, .v (.int .i64 v21)), (33, .v (.int .i64 v21))]) (init := [0, 1, 2, 3, 4]) (fin := [0, 1, 2, 3, 6]) (sps := [⟨[4], [], [5], [(.slot 45)]⟩, ⟨[5], [4], [6], [(.slot 33)]⟩]) (es' := [(_, _), (_, _), (_, _), (_, _), (33, .v (.int .i64 v21))]) (by kernel_rfl) rfl rfl
        ⟨st_plain rfl (op_bin _ _ _ _ _ rfl rfl (ibind (f := Value.int .i64) (Option.some.inj hv21))),
        st_plain rfl (LOp.drop [_] (op_move _ _ _ _ rfl rfl)),
        trivial⟩ ?_
       exact pt_next _ (Option.some.inj h).symm rfl
      ·have h := cond_f hb35 h
       refine ht_exit ?_
       refine pt_x_then ?_
       refine pt_x_then ?_
       refine pt_x_in ?_
       refine pt_pick [0, 1] (by kernel_rfl) (es' := [(_, _), (_, _)]) rfl ?_
       exact hl30 _ (ho32 _ (Option.some.inj h).symm).symm
    ·have h := cond_f hb9 h
     refine ht_seq ?_
     refine ht_seqR hn (El := [_, _, _, _, (48, .v (.bool (c.Kind == 4))), (47, .v (.bool (c.Kind == 4)))]) (init := [0, 1, 2, 3]) (fin := [0, 1, 2, 5]) (sps := [⟨[2], [], [4], [(.slot 48)]⟩, ⟨[4], [], [5], [(.slot 47)]⟩]) (es' := [(_, _), (_, _), (_, _), (47, .v (.bool (c.Kind == 4)))]) (by kernel_rfl) rfl rfl
      ⟨st_plain rfl (op_bin _ _ _ _ _ rfl rfl rfl),
      st_plain rfl (op_assign _ _ _ _ rfl rfl),
      trivial⟩ ?_
     refine pt_then ?_
     refine ht_cond _ rfl (fun hb37 => ?_) (fun hb37 => ?_)
     ·have h := cond_t hb37 h
      refine ht_seq ?_
      refine ht_seqR hn (El := [_, _, _, _, (2, .v (.string (⟨#[68, 65, 84, 65]⟩ : ByteArray)))]) (init := [0, 1, 2, 3]) (fin := [0, 4]) (sps := [⟨[], [], [4], [(.slot 2)]⟩]) (es' := [(_, _), (2, .v (.string (⟨#[68, 65, 84, 65]⟩ : ByteArray)))]) (by kernel_rfl) rfl rfl
       ⟨st_plain rfl (op_assign _ _ _ _ rfl rfl),
       trivial⟩ ?_
      refine pt_then ?_
      refine ht_ret ?_
      refine pt_pick [1] (by kernel_rfl) (es' := [(_, _)]) rfl ?_
      refine pt_r_in ?_
      refine pt_r_then ?_
      obtain rfl := Option.some.inj h
      exact pt_ret hio rfl (.tmp _ _ .nil) rfl rfl
     ·have h := cond_f hb37 h
      refine ht_seq ?_
      refine ht_seqR hn (El := [_, _, _, _, (50, .v (.bool (c.Kind == 5))), (49, .v (.bool (c.Kind == 5)))]) (init := [0, 1, 2, 3]) (fin := [0, 1, 2, 5]) (sps := [⟨[2], [], [4], [(.slot 50)]⟩, ⟨[4], [], [5], [(.slot 49)]⟩]) (es' := [(_, _), (_, _), (_, _), (49, .v (.bool (c.Kind == 5)))]) (by kernel_rfl) rfl rfl
       ⟨st_plain rfl (op_bin _ _ _ _ _ rfl rfl rfl),
       st_plain rfl (op_assign _ _ _ _ rfl rfl),
       trivial⟩ ?_
      refine pt_then ?_
      refine ht_cond _ rfl (fun hb38 => ?_) (fun hb38 => ?_)
      ·have h := cond_t hb38 h
       refine ht_seq ?_
       refine ht_seqR hn (El := [_, _, _, _, (2, .v (.string (⟨#[82, 83, 69, 84]⟩ : ByteArray)))]) (init := [0, 1, 2, 3]) (fin := [0, 4]) (sps := [⟨[], [], [4], [(.slot 2)]⟩]) (es' := [(_, _), (2, .v (.string (⟨#[82, 83, 69, 84]⟩ : ByteArray)))]) (by kernel_rfl) rfl rfl
        ⟨st_plain rfl (op_assign _ _ _ _ rfl rfl),
        trivial⟩ ?_
       refine pt_then ?_
       refine ht_ret ?_
       refine pt_pick [1] (by kernel_rfl) (es' := [(_, _)]) rfl ?_
       refine pt_r_in ?_
       refine pt_r_then ?_
       obtain rfl := Option.some.inj h
       exact pt_ret hio rfl (.tmp _ _ .nil) rfl rfl
      ·have h := cond_f hb38 h
       refine ht_seq ?_
       refine ht_seqR hn (El := [_, _, _, _, (52, .v (.bool (c.Kind == 6))), (51, .v (.bool (c.Kind == 6)))]) (init := [0, 1, 2, 3]) (fin := [0, 1, 2, 5]) (sps := [⟨[2], [], [4], [(.slot 52)]⟩, ⟨[4], [], [5], [(.slot 51)]⟩]) (es' := [(_, _), (_, _), (_, _), (51, .v (.bool (c.Kind == 6)))]) (by kernel_rfl) rfl rfl
        ⟨st_plain rfl (op_bin _ _ _ _ _ rfl rfl rfl),
        st_plain rfl (op_assign _ _ _ _ rfl rfl),
        trivial⟩ ?_
       refine pt_then ?_
       refine ht_cond _ rfl (fun hb39 => ?_) (fun hb39 => ?_)
       ·have h := cond_t hb39 h
        refine ht_seq ?_
        obtain ⟨v40, hv40, h⟩ := bind_some h
        refine ht_seqR hn (El := [_, _, _, _, (53, .ptr 1 1), (54, .v (.string c.Text)), (55, .v (.string v40)), (2, .v (.string v40))]) (init := [0, 1, 2, 3]) (fin := [0, 7]) (sps := [⟨[1], [], [4], [(.slot 53)]⟩, ⟨[4, 1], [], [5], [(.slot 54)]⟩, ⟨[5], [], [6], [(.slot 55)]⟩, ⟨[6], [], [7], [(.slot 2)]⟩]) (es' := [(_, _), (2, .v (.string v40))]) (by kernel_rfl) rfl rfl
         ⟨st_plain rfl (op_fieldAddr _ _ _ _ 1 0 _ Tryd.underlying26 rfl sz9 rfl rfl (by decide)),
         st_plain rfl (op_load _ _ _ _ _ _ Tryd.underlying9 rfl rfl rfl (Nat.le_of_ble_eq_true rfl) rfl rfl rfl),
         st_plain rfl (op_bin _ _ _ _ _ rfl rfl (cat_ok hv40)),
         st_plain rfl (op_assign _ _ _ _ rfl rfl),
         trivial⟩ ?_
        refine pt_then ?_
        refine ht_ret ?_
        refine pt_pick [1] (by kernel_rfl) (es' := [(_, _)]) rfl ?_
        refine pt_r_in ?_
        refine pt_r_then ?_
        obtain rfl := Option.some.inj h
        exact pt_ret hio rfl (.tmp _ _ .nil) rfl rfl
       ·have h := cond_f hb39 h
        refine ht_seq ?_
        refine ht_seqR hn (El := [_, _, _, _, (57, .v (.bool (c.Kind == 7))), (56, .v (.bool (c.Kind == 7)))]) (init := [0, 1, 2, 3]) (fin := [0, 1, 2, 5]) (sps := [⟨[2], [], [4], [(.slot 57)]⟩, ⟨[4], [], [5], [(.slot 56)]⟩]) (es' := [(_, _), (_, _), (_, _), (56, .v (.bool (c.Kind == 7)))]) (by kernel_rfl) rfl rfl
         ⟨st_plain rfl (op_bin _ _ _ _ _ rfl rfl rfl),
         st_plain rfl (op_assign _ _ _ _ rfl rfl),
         trivial⟩ ?_
        refine pt_then ?_
        refine ht_cond _ rfl (fun hb41 => ?_) (fun hb41 => ?_)
        ·have h := cond_t hb41 h
         refine ht_seq ?_
         refine ht_seqR hn (El := [_, _, _, _, (2, .v (.string (⟨#[78, 79, 79, 80]⟩ : ByteArray)))]) (init := [0, 1, 2, 3]) (fin := [0, 4]) (sps := [⟨[], [], [4], [(.slot 2)]⟩]) (es' := [(_, _), (2, .v (.string (⟨#[78, 79, 79, 80]⟩ : ByteArray)))]) (by kernel_rfl) rfl rfl
          ⟨st_plain rfl (op_assign _ _ _ _ rfl rfl),
          trivial⟩ ?_
         refine pt_then ?_
         refine ht_ret ?_
         refine pt_pick [1] (by kernel_rfl) (es' := [(_, _)]) rfl ?_
         refine pt_r_in ?_
         refine pt_r_then ?_
         obtain rfl := Option.some.inj h
         exact pt_ret hio rfl (.tmp _ _ .nil) rfl rfl
        ·have h := cond_f hb41 h
         refine ht_seq ?_
         refine ht_seqR hn (El := [_, _, _, _, (59, .v (.bool (c.Kind == 8))), (58, .v (.bool (c.Kind == 8)))]) (init := [0, 1, 2, 3]) (fin := [0, 1, 2, 5]) (sps := [⟨[2], [], [4], [(.slot 59)]⟩, ⟨[4], [], [5], [(.slot 58)]⟩]) (es' := [(_, _), (_, _), (_, _), (58, .v (.bool (c.Kind == 8)))]) (by kernel_rfl) rfl rfl
          ⟨st_plain rfl (op_bin _ _ _ _ _ rfl rfl rfl),
          st_plain rfl (op_assign _ _ _ _ rfl rfl),
          trivial⟩ ?_
         refine pt_then ?_
         refine ht_cond _ rfl (fun hb42 => ?_) (fun hb42 => ?_)
         ·have h := cond_t hb42 h
          refine ht_seq ?_
          refine ht_seqR hn (El := [_, _, _, _, (2, .v (.string (⟨#[81, 85, 73, 84]⟩ : ByteArray)))]) (init := [0, 1, 2, 3]) (fin := [0, 4]) (sps := [⟨[], [], [4], [(.slot 2)]⟩]) (es' := [(_, _), (2, .v (.string (⟨#[81, 85, 73, 84]⟩ : ByteArray)))]) (by kernel_rfl) rfl rfl
           ⟨st_plain rfl (op_assign _ _ _ _ rfl rfl),
           trivial⟩ ?_
          refine pt_then ?_
          refine ht_ret ?_
          refine pt_pick [1] (by kernel_rfl) (es' := [(_, _)]) rfl ?_
          refine pt_r_in ?_
          refine pt_r_then ?_
          obtain rfl := Option.some.inj h
          exact pt_ret hio rfl (.tmp _ _ .nil) rfl rfl
         ·have h := cond_f hb42 h
          refine ht_seq ?_
          refine ht_seqR hn (El := [_, _, _, _, (61, .v (.bool (c.Kind == 9))), (60, .v (.bool (c.Kind == 9)))]) (init := [0, 1, 2, 3]) (fin := [0, 1, 2, 5]) (sps := [⟨[2], [], [4], [(.slot 61)]⟩, ⟨[4], [], [5], [(.slot 60)]⟩]) (es' := [(_, _), (_, _), (_, _), (60, .v (.bool (c.Kind == 9)))]) (by kernel_rfl) rfl rfl
           ⟨st_plain rfl (op_bin _ _ _ _ _ rfl rfl rfl),
           st_plain rfl (op_assign _ _ _ _ rfl rfl),
           trivial⟩ ?_
          refine pt_then ?_
          refine ht_cond _ rfl (fun hb43 => ?_) (fun hb43 => ?_)
          ·have h := cond_t hb43 h
           refine ht_seq ?_
           obtain ⟨v44, hv44, h⟩ := bind_some h
           refine ht_seqR hn (El := [_, _, _, _, (62, .ptr 1 1), (63, .v (.string c.Text)), (64, .v (.string v44)), (2, .v (.string v44))]) (init := [0, 1, 2, 3]) (fin := [0, 7]) (sps := [⟨[1], [], [4], [(.slot 62)]⟩, ⟨[4, 1], [], [5], [(.slot 63)]⟩, ⟨[5], [], [6], [(.slot 64)]⟩, ⟨[6], [], [7], [(.slot 2)]⟩]) (es' := [(_, _), (2, .v (.string v44))]) (by kernel_rfl) rfl rfl
            ⟨st_plain rfl (op_fieldAddr _ _ _ _ 1 0 _ Tryd.underlying26 rfl sz9 rfl rfl (by decide)),
            st_plain rfl (op_load _ _ _ _ _ _ Tryd.underlying9 rfl rfl rfl (Nat.le_of_ble_eq_true rfl) rfl rfl rfl),
            st_plain rfl (op_bin _ _ _ _ _ rfl rfl (cat_ok hv44)),
            st_plain rfl (op_assign _ _ _ _ rfl rfl),
            trivial⟩ ?_
           refine pt_then ?_
           refine ht_ret ?_
           refine pt_pick [1] (by kernel_rfl) (es' := [(_, _)]) rfl ?_
           refine pt_r_in ?_
           refine pt_r_then ?_
           obtain rfl := Option.some.inj h
           exact pt_ret hio rfl (.tmp _ _ .nil) rfl rfl
          ·have h := cond_f hb43 h
           refine ht_seq ?_
           refine ht_seqR hn (El := [_, _, _, _, (66, .v (.bool (c.Kind == 10))), (65, .v (.bool (c.Kind == 10)))]) (init := [0, 1, 2, 3]) (fin := [0, 1, 2, 5]) (sps := [⟨[2], [], [4], [(.slot 66)]⟩, ⟨[4], [], [5], [(.slot 65)]⟩]) (es' := [(_, _), (_, _), (_, _), (65, .v (.bool (c.Kind == 10)))]) (by kernel_rfl) rfl rfl
            ⟨st_plain rfl (op_bin _ _ _ _ _ rfl rfl rfl),
            st_plain rfl (op_assign _ _ _ _ rfl rfl),
            trivial⟩ ?_
           refine pt_then ?_
           refine ht_cond _ rfl (fun hb45 => ?_) (fun hb45 => ?_)
           ·have h := cond_t hb45 h
            refine ht_seq ?_
            refine ht_seqR hn (El := [_, _, _, _, (2, .v (.string (⟨#[65, 85, 84, 72, 32, 67, 82, 65, 77, 45, 77, 68, 53]⟩ : ByteArray)))]) (init := [0, 1, 2, 3]) (fin := [0, 4]) (sps := [⟨[], [], [4], [(.slot 2)]⟩]) (es' := [(_, _), (2, .v (.string (⟨#[65, 85, 84, 72, 32, 67, 82, 65, 77, 45, 77, 68, 53]⟩ : ByteArray)))]) (by kernel_rfl) rfl rfl
             ⟨st_plain rfl (op_assign _ _ _ _ rfl rfl),
             trivial⟩ ?_
            refine pt_then ?_
            refine ht_ret ?_
            refine pt_pick [1] (by kernel_rfl) (es' := [(_, _)]) rfl ?_
            refine pt_r_in ?_
            refine pt_r_then ?_
            obtain rfl := Option.some.inj h
            exact pt_ret hio rfl (.tmp _ _ .nil) rfl rfl
           ·have h := cond_f hb45 h
            refine ht_seq ?_
            refine ht_seqR hn (El := [_, _, _, _, (68, .v (.bool (c.Kind == 11))), (67, .v (.bool (c.Kind == 11)))]) (init := [0, 1, 2, 3]) (fin := [0, 1, 5]) (sps := [⟨[2], [], [4], [(.slot 68)]⟩, ⟨[4], [], [5], [(.slot 67)]⟩]) (es' := [(_, _), (_, _), (67, .v (.bool (c.Kind == 11)))]) (by kernel_rfl) rfl rfl
             ⟨st_plain rfl (op_bin _ _ _ _ _ rfl rfl rfl),
             st_plain rfl (op_assign _ _ _ _ rfl rfl),
             trivial⟩ ?_
            refine pt_then ?_
            refine ht_cond _ rfl (fun hb46 => ?_) (fun hb46 => ?_)
            ·have h := cond_t hb46 h
             refine ht_seq ?_
             refine ht_seq ?_
             refine ht_seqR hn (El := [_, _, _, (69, .ptr 1 1), (70, .v (.string c.Text)), (71, .v (.bool ((c.Text.toList == (⟨#[]⟩ : ByteArray).toList))))]) (init := [0, 1, 2]) (fin := [0, 1, 5]) (sps := [⟨[1], [], [3], [(.slot 69)]⟩, ⟨[3, 1], [], [4], [(.slot 70)]⟩, ⟨[4], [], [5], [(.slot 71)]⟩]) (es' := [(_, _), (_, _), (71, .v (.bool ((c.Text.toList == (⟨#[]⟩ : ByteArray).toList))))]) (by kernel_rfl) rfl rfl
              ⟨st_plain rfl (op_fieldAddr _ _ _ _ 1 0 _ Tryd.underlying26 rfl sz9 rfl rfl (by decide)),
              st_plain rfl (op_load _ _ _ _ _ _ Tryd.underlying9 rfl rfl rfl (Nat.le_of_ble_eq_true rfl) rfl rfl rfl),
              st_plain rfl (op_bin _ _ _ _ _ rfl rfl rfl),
              trivial⟩ ?_
             refine pt_then ?_
             refine ht_cond _ rfl (fun hb47 => ?_) (fun hb47 => ?_)
             ·have h := cond_t hb47 h
              refine ht_seq ?_
              refine ht_seqR hn (El := [_, _, _, (2, .v (.string (⟨#[65, 84, 82, 78]⟩ : ByteArray)))]) (init := [0, 1, 2]) (fin := [0, 3]) (sps := [⟨[], [], [3], [(.slot 2)]⟩]) (es' := [(_, _), (2, .v (.string (⟨#[65, 84, 82, 78]⟩ : ByteArray)))]) (by kernel_rfl) rfl rfl
               ⟨st_plain rfl (op_assign _ _ _ _ rfl rfl),
               trivial⟩ ?_
              refine pt_then ?_
              refine ht_ret ?_
              refine pt_pick [1] (by kernel_rfl) (es' := [(_, _)]) rfl ?_
              refine pt_r_then ?_
              refine pt_r_in ?_
              refine pt_r_then ?_
              obtain rfl := Option.some.inj h
              exact pt_ret hio rfl (.tmp _ _ .nil) rfl rfl
             ·have h := cond_f hb47 h
              refine ht_skip ?_
              refine pt_then ?_
              refine ht_seq ?_
              obtain ⟨v48, hv48, h⟩ := bind_some h
              refine ht_seqR hn (El := [_, _, _, (72, .ptr 1 1), (73, .v (.string c.Text)), (74, .v (.string v48)), (2, .v (.string v48))]) (init := [0, 1, 2]) (fin := [0, 6]) (sps := [⟨[1], [], [3], [(.slot 72)]⟩, ⟨[3, 1], [], [4], [(.slot 73)]⟩, ⟨[4], [], [5], [(.slot 74)]⟩, ⟨[5], [], [6], [(.slot 2)]⟩]) (es' := [(_, _), (2, .v (.string v48))]) (by kernel_rfl) rfl rfl
               ⟨st_plain rfl (op_fieldAddr _ _ _ _ 1 0 _ Tryd.underlying26 rfl sz9 rfl rfl (by decide)),
               st_plain rfl (op_load _ _ _ _ _ _ Tryd.underlying9 rfl rfl rfl (Nat.le_of_ble_eq_true rfl) rfl rfl rfl),
               st_plain rfl (op_bin _ _ _ _ _ rfl rfl (cat_ok hv48)),
               st_plain rfl (op_assign _ _ _ _ rfl rfl),
               trivial⟩ ?_
              refine pt_then ?_
              refine ht_ret ?_
              refine pt_pick [1] (by kernel_rfl) (es' := [(_, _)]) rfl ?_
              refine pt_r_in ?_
              refine pt_r_then ?_
              obtain rfl := Option.some.inj h
              exact pt_ret hio rfl (.tmp _ _ .nil) rfl rfl
            ·have h := cond_f hb46 h
             refine ht_skip ?_
             refine pt_inb ?_
             refine pt_then ?_
             refine ht_seq ?_
             refine ht_seqR hn (El := [_, _, _, (2, .v (.string (⟨#[]⟩ : ByteArray)))]) (init := [0, 1, 2]) (fin := [0, 3]) (sps := [⟨[], [], [3], [(.slot 2)]⟩]) (es' := [(_, _), (2, .v (.string (⟨#[]⟩ : ByteArray)))]) (by kernel_rfl) rfl rfl
              ⟨st_plain rfl (op_assign _ _ _ _ rfl rfl),
              trivial⟩ ?_
             refine pt_then ?_
             refine ht_ret ?_
             refine pt_pick [1] (by kernel_rfl) (es' := [(_, _)]) rfl ?_
             obtain rfl := Option.some.inj h
             exact pt_ret hio rfl (.tmp _ _ .nil) rfl rfl
   ·intro u5 h hl6 hr7
    refine ht_seq ?_
    refine ht_seqR hn (El := [_, _, _, _, (16, .v (.bool (c.Kind == 2))), (15, .v (.bool (c.Kind == 2)))]) (init := [0, 1, 2, 3]) (fin := [0, 1, 2, 5]) (sps := [⟨[2], [], [4], [(.slot 16)]⟩, ⟨[4], [], [5], [(.slot 15)]⟩]) (es' := [(_, _), (_, _), (_, _), (15, .v (.bool (c.Kind == 2)))]) (by kernel_rfl) rfl rfl
     ⟨st_plain rfl (op_bin _ _ _ _ _ rfl rfl rfl),
     st_plain rfl (op_assign _ _ _ _ rfl rfl),
     trivial⟩ ?_
    refine pt_then ?_
    refine ht_cond _ rfl (fun hb8 => ?_) (fun hb8 => ?_)
    ·have h := cond_t hb8 h
     refine ht_skip ?_
     exact hl6 _ (Option.some.inj h).symm
    ·have h := cond_f hb8 h
     refine ht_seqR hn (El := [_, _, _, _, (17, .v (.bool (c.Kind == 3))), (15, .v (.bool (c.Kind == 3)))]) (init := [0, 1, 2, 3]) (fin := [0, 1, 2, 5]) (sps := [⟨[2], [], [4], [(.slot 17)]⟩, ⟨[4], [3], [5], [(.slot 15)]⟩]) (es' := [(_, _), (_, _), (_, _), (15, .v (.bool (c.Kind == 3)))]) (by kernel_rfl) rfl rfl
      ⟨st_plain rfl (op_bin _ _ _ _ _ rfl rfl rfl),
      st_plain rfl (LOp.drop [_] (op_assign _ _ _ _ rfl rfl)),
      trivial⟩ ?_
     exact hl6 _ (Option.some.inj h).symm

end Go.Proofs.YthfmdofkkkpbkaaDoor
