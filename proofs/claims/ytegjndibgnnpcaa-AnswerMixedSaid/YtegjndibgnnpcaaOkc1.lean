/-
  The model's runs are what is told in Lean.
-/
import Derived.Test.YtegjndibgnnpcaaProg
import Derived.KernelRfl
import Derived.Test.YtegjndibgnnpcaaShelf
import Derived.Test.YtegjndibgnnpcaaSh
set_option linter.unusedVariables false
set_option linter.unusedSimpArgs false
namespace Go.Proofs.Ytegjndibgnnpcaa
open Go.Abs Go.Abs.Sh

def GL (mx : Int) : List (Nat × List Value) := [(0, [.int .i64 mx])]
theorem gl_mem0 (mx : Int) : (0, ([.int .i64 mx] : List Value)) ∈ GL mx := .head _
theorem sz9 : (Try.prog.info? 9).map (·.size) = some 1 := by kernel_rfl
theorem zr9 : (Try.prog.info? 9).bind (·.zero) = some (.string ByteArray.empty) := by kernel_rfl
theorem zr24 : (Try.prog.info? 24).bind (·.zero) = some (.agg #[.int .i64 0, .slice none 0 0]) := by kernel_rfl
theorem sz22 : (Try.prog.info? 22).map (·.size) = some 1 := by kernel_rfl
theorem sz5 : (Try.prog.info? 5).map (·.size) = some 1 := by kernel_rfl
theorem zr5 : (Try.prog.info? 5).bind (·.zero) = some (.int .u8 0) := by kernel_rfl
theorem sz3 : (Try.prog.info? 3).map (·.size) = some 1 := by kernel_rfl
theorem el22 : ElemT Try.prog 22 9 1 16 := ⟨⟨Try.t9, .string ByteArray.empty, Try.underlying22, by kernel_rfl, by kernel_rfl, by kernel_rfl, by kernel_rfl, by decide, by kernel_rfl⟩⟩
theorem sz24 : (Try.prog.info? 24).map (·.size) = some 2 := by kernel_rfl
theorem fs24 : ∀ fs, Try.prog.underlying 24 = some (.struct fs) → fs.toList.map (fun f => (Try.prog.info? f.type).map (·.size)) = ([1, 1] : List Nat).map some := by
  intro fs h
  rw [Try.underlying24] at h
  cases h
  kernel_rfl
theorem el25 : ElemT Try.prog 25 5 1 1 := ⟨⟨Try.t5, .int .u8 0, Try.underlying25, by kernel_rfl, by kernel_rfl, by kernel_rfl, by kernel_rfl, by decide, by kernel_rfl⟩⟩

set_option maxHeartbeats 1000000 in
theorem ok_wherryref11_Digits (n : Int) (r : ByteArray) (h : Sh.wherryref11_Digits n = some r) : FnOK Try.prog 20 [.v (.int .i64 n)] (.v (.string r)) := by
  unfold Sh.wherryref11_Digits at h
  refine fn_ok Try.func20 rfl (Nat.le_of_ble_eq_true rfl) rfl rfl fun g0 hn hio => ?_
  refine ht_seq ?_
  refine ht_seqR hn (El := [_, (2, .v (.string (⟨#[]⟩ : ByteArray)))]) (init := [0]) (fin := [0]) (sps := [⟨[], [], [1], [(.slot 2)]⟩]) (es' := [(_, _)]) (by kernel_rfl) rfl rfl
   ⟨st_plain rfl (op_assign _ _ _ _ rfl rfl),
   trivial⟩ ?_
  refine pt_then ?_
  refine ht_seq ?_
  refine ht_seqR hn (El := [_, (3, .v (.string (⟨#[]⟩ : ByteArray)))]) (init := [0]) (fin := [0, 1]) (sps := [⟨[], [], [1], [(.slot 3)]⟩]) (es' := [(_, _), (3, .v (.string (⟨#[]⟩ : ByteArray)))]) (by kernel_rfl) rfl rfl
   ⟨st_plain rfl (op_assign _ _ _ _ rfl rfl),
   trivial⟩ ?_
  refine pt_then ?_
  refine ht_seq ?_
  refine ht_loopS h (fun ((s11, s12) : Int × ByteArray) => [(0, .v (.int .i64 s11)), (3, .v (.string s12))]) (fun ((s14, s15) : Int × ByteArray) => [(0, .v (.int .i64 s14)), (3, .v (.string s15))]) ?_ ?_
  ·rintro ⟨s14, s15⟩ h
   refine pt_then ?_
   refine ht_seq ?_
   obtain ⟨v23, hv23, h⟩ := bind_some h
   obtain ⟨v24, hv24, h⟩ := bind_some h
   obtain ⟨v25, hv25, h⟩ := bind_some h
   refine ht_seqR hn (El := [_, _, (16, .v (.int .i64 s14)), (17, .v (.int .i64 s14)), (18, .v (.int .i64 v23)), (19, .v (.string v24)), (20, .v (.string s15)), (21, .v (.string v25)), (2, .v (.string v25))]) (init := [0, 1]) (fin := [8]) (sps := [⟨[0], [], [2], [(.slot 16)]⟩, ⟨[0], [], [3], [(.slot 17)]⟩, ⟨[3], [], [4], [(.slot 18)]⟩, ⟨[2, 4], [], [5], [(.slot 19)]⟩, ⟨[1], [], [6], [(.slot 20)]⟩, ⟨[5, 6], [], [7], [(.slot 21)]⟩, ⟨[7], [], [8], [(.slot 2)]⟩]) (es' := [(2, .v (.string v25))]) (by kernel_rfl) rfl rfl
    ⟨st_plain rfl (op_move _ _ _ _ rfl rfl),
    st_plain rfl (op_move _ _ _ _ rfl rfl),
    st_plain rfl (op_bin _ _ _ _ _ rfl rfl (ibind (f := Value.int .i64) (Option.some.inj hv23))),
    st_plain rfl (op_substr _ _ _ s14 v23 _ Try.underlying9 rfl ⟨_, rfl⟩ ⟨_, rfl⟩ hv24),
    st_plain rfl (op_move _ _ _ _ rfl rfl),
    st_plain rfl (op_bin _ _ _ _ _ rfl rfl (cat_ok hv25)),
    st_plain rfl (op_assign _ _ _ _ rfl rfl),
    trivial⟩ ?_
   refine pt_then ?_
   refine ht_ret ?_
   obtain rfl := Option.some.inj h
   exact pt_ret hio rfl (.tmp _ _ .nil) rfl rfl
  ·rintro u16 hl17 hr18 ⟨s11, s12⟩ rr21 h ho19
   refine ht_seq ?_
   refine ht_seq ?_
   refine ht_seqR hn (El := [_, _, (4, .v (.int .i64 s11)), (5, .v (.bool ((decide (9 < s11)))))]) (init := [0, 1]) (fin := [0, 1, 3]) (sps := [⟨[0], [], [2], [(.slot 4)]⟩, ⟨[2], [], [3], [(.slot 5)]⟩]) (es' := [(_, _), (_, _), (5, .v (.bool ((decide (9 < s11)))))]) (by kernel_rfl) rfl rfl
    ⟨st_plain rfl (op_move _ _ _ _ rfl rfl),
    st_plain rfl (op_bin _ _ _ _ _ rfl rfl rfl),
    trivial⟩ ?_
   refine pt_then ?_
   refine ht_cond _ rfl (fun hb22 => ?_) (fun hb22 => ?_)
   ·have h := cond_t hb22 h
    refine ht_skip ?_
    refine pt_then ?_
    refine ht_block ?_
    refine ht_seq ?_
    obtain ⟨v2, hv2, h⟩ := bind_some h
    obtain ⟨v3, hv3, h⟩ := bind_some h
    obtain ⟨v4, hv4, h⟩ := bind_some h
    obtain ⟨v5, hv5, h⟩ := bind_some h
    obtain ⟨v6, hv6, h⟩ := bind_some h
    refine ht_seqR hn (El := [_, _, _, (6, .v (.int .i64 s11)), (7, .v (.int .i64 v2)), (8, .v (.int .i64 s11)), (9, .v (.int .i64 v3)), (10, .v (.int .i64 v4)), (11, .v (.string v5)), (12, .v (.string s12)), (13, .v (.string v6)), (3, .v (.string v6))]) (init := [0, 1, 2]) (fin := [0, 11]) (sps := [⟨[0], [], [3], [(.slot 6)]⟩, ⟨[3], [], [4], [(.slot 7)]⟩, ⟨[0], [], [5], [(.slot 8)]⟩, ⟨[5], [], [6], [(.slot 9)]⟩, ⟨[6], [], [7], [(.slot 10)]⟩, ⟨[4, 7], [], [8], [(.slot 11)]⟩, ⟨[1], [], [9], [(.slot 12)]⟩, ⟨[8, 9], [], [10], [(.slot 13)]⟩, ⟨[10], [1], [11], [(.slot 3)]⟩]) (es' := [(_, _), (3, .v (.string v6))]) (by kernel_rfl) rfl rfl
     ⟨st_plain rfl (op_move _ _ _ _ rfl rfl),
     st_plain rfl (op_bin _ _ _ _ _ rfl rfl (rem_ok hv2)),
     st_plain rfl (op_move _ _ _ _ rfl rfl),
     st_plain rfl (op_bin _ _ _ _ _ rfl rfl (rem_ok hv3)),
     st_plain rfl (op_bin _ _ _ _ _ rfl rfl (ibind (f := Value.int .i64) (Option.some.inj hv4))),
     st_plain rfl (op_substr _ _ _ v2 v4 _ Try.underlying9 rfl ⟨_, rfl⟩ ⟨_, rfl⟩ hv5),
     st_plain rfl (op_move _ _ _ _ rfl rfl),
     st_plain rfl (op_bin _ _ _ _ _ rfl rfl (cat_ok hv6)),
     st_plain rfl (LOp.drop [_] (op_assign _ _ _ _ rfl rfl)),
     trivial⟩ ?_
    refine pt_then ?_
    obtain ⟨v7, hv7, h⟩ := bind_some h
    refine ht_seqR hn (El := [_, _, (14, .v (.int .i64 s11)), (15, .v (.int .i64 v7)), (0, .v (.int .i64 v7))]) (init := [0, 1]) (fin := [1, 4]) (sps := [⟨[0], [], [2], [(.slot 14)]⟩, ⟨[2], [], [3], [(.slot 15)]⟩, ⟨[3], [0], [4], [(.slot 0)]⟩]) (es' := [(_, _), (0, .v (.int .i64 v7))]) (by kernel_rfl) rfl rfl
     ⟨st_plain rfl (op_move _ _ _ _ rfl rfl),
     st_plain rfl (op_bin _ _ _ _ _ rfl rfl (quo_ok hv7)),
     st_plain rfl (LOp.drop [_] (op_assign _ _ _ _ rfl rfl)),
     trivial⟩ ?_
    refine pt_inb ?_
    refine pt_pick [1, 0] (by kernel_rfl) (es' := [(_, _), (_, _)]) rfl ?_
    exact pt_next _ (Option.some.inj h).symm rfl
   ·have h := cond_f hb22 h
    refine ht_exit ?_
    refine pt_x_then ?_
    refine pt_x_then ?_
    refine pt_x_in ?_
    refine pt_pick [0, 1] (by kernel_rfl) (es' := [(_, _), (_, _)]) rfl ?_
    exact hl17 _ (ho19 _ (Option.some.inj h).symm).symm

theorem ok_bytes_Index (mx : Int) (s sep : List Int) (r : Int) (h : Sh.bytes_Index s sep = some r) : FnG Try.prog (GL mx) 21 [.fl .shr 1 (List.map (Value.int .u8) s), .fl .shr 1 (List.map (Value.int .u8) sep)] (.v (.int .i64 r)) :=
  lib_bytes_Index (gl_mem0 mx) Try.bytes_Index_at Try.bytes_Index_longer s sep r h

set_option maxHeartbeats 1000000 in
theorem ok_answer_number (line : (List Int)) (r : (Int × Bool)) (h : Sh.answer_number line = some r) : FnOK Try.prog 22 [.fl .shr 1 (List.map (Value.int .u8) line)] (.tup [.v (.int .i64 r.1), .v (.bool r.2)]) := by
  unfold Sh.answer_number at h
  refine fn_ok Try.func22 rfl (Nat.le_of_ble_eq_true rfl) rfl rfl fun g0 hn hio => ?_
  refine ht_seq ?_
  refine ht_seqR hn (El := [_, (2, .v (.int .i64 0)), (3, .v (.bool false))]) (init := [0]) (fin := [0]) (sps := [⟨[], [], [1], [(.slot 2)]⟩, ⟨[], [], [2], [(.slot 3)]⟩]) (es' := [(_, _)]) (by kernel_rfl) rfl rfl
   ⟨st_plain rfl (op_assign _ _ _ _ rfl rfl),
   st_plain rfl (op_assign _ _ _ _ rfl rfl),
   trivial⟩ ?_
  refine pt_then ?_
  refine ht_seq ?_
  refine ht_seqR hn (El := [_, (4, .v (.int .i64 0))]) (init := [0]) (fin := [0, 1]) (sps := [⟨[], [], [1], [(.slot 4)]⟩]) (es' := [(_, _), (4, .v (.int .i64 0))]) (by kernel_rfl) rfl rfl
   ⟨st_plain rfl (op_assign _ _ _ _ rfl rfl),
   trivial⟩ ?_
  refine pt_then ?_
  refine ht_seq ?_
  refine ht_seq ?_
  obtain ⟨v1, hv1, h⟩ := bind_some h
  refine ht_seqR hn (El := [_, _, (7, .fl .shr 1 (List.map (Value.int .u8) line)), (8, .fl .shr 1 (List.map (Value.int .u8) v1)), (9, .v (.int .i64 (v1.length : Int))), (10, .v (.int .i64 0))]) (init := [0, 1]) (fin := [1, 3, 4, 5]) (sps := [⟨[0], [], [2], [(.slot 7)]⟩, ⟨[2], [], [3], [(.slot 8)]⟩, ⟨[3], [], [4], [(.slot 9)]⟩, ⟨[], [], [5], [(.slot 10)]⟩]) (es' := [(_, _), (8, .fl .shr 1 (List.map (Value.int .u8) v1)), (9, .v (.int .i64 (v1.length : Int))), (10, .v (.int .i64 0))]) (by kernel_rfl) rfl rfl
   ⟨st_plain rfl (op_move _ _ _ _ rfl rfl),
   st_plain rfl (op_sl _ _ _ 0 3 _ Try.underlying25 sz5 rfl rfl rfl ⟨_, rfl⟩ hv1),
   st_plain rfl (op_len_fl _ _ _ Try.underlying25 rfl (by decide) (map_len _)),
   st_plain rfl (op_move _ _ _ _ rfl rfl),
   trivial⟩ ?_
  refine pt_then ?_
  refine ht_loopS h (fun ((s23, s24) : Int × Int) => [(4, .v (.int .i64 s23)), (8, .fl .shr 1 (List.map (Value.int .u8) v1)), (9, .v (.int .i64 (v1.length : Int))), (10, .v (.int .i64 s24))]) (fun (s31 : Int) => [(4, .v (.int .i64 s31))]) ?_ ?_
  ·rintro s31 h
   refine pt_then ?_
   refine ht_seq ?_
   refine ht_seqR hn (El := [_, (27, .v (.int .i64 s31)), (2, .v (.int .i64 s31)), (3, .v (.bool true))]) (init := [0]) (fin := [2, 3]) (sps := [⟨[0], [], [1], [(.slot 27)]⟩, ⟨[1], [], [2], [(.slot 2)]⟩, ⟨[], [], [3], [(.slot 3)]⟩]) (es' := [(2, .v (.int .i64 s31)), (3, .v (.bool true))]) (by kernel_rfl) rfl rfl
    ⟨st_plain rfl (op_move _ _ _ _ rfl rfl),
    st_plain rfl (op_assign _ _ _ _ rfl rfl),
    st_plain rfl (op_assign _ _ _ _ rfl rfl),
    trivial⟩ ?_
   refine pt_then ?_
   refine ht_ret ?_
   obtain rfl := Option.some.inj h
   exact pt_ret hio rfl (.tmp _ _ (.tmp _ _ .nil)) rfl rfl
  ·rintro u32 hl33 hr34 ⟨s23, s24⟩ rr37 h ho35
   refine ht_seq ?_
   refine ht_seqR hn (El := [_, _, _, _, (11, .v (.bool ((decide (s24 < (v1.length : Int))))))]) (init := [0, 1, 2, 3]) (fin := [0, 1, 2, 3, 4]) (sps := [⟨[3, 2], [], [4], [(.slot 11)]⟩]) (es' := [(_, _), (_, _), (_, _), (_, _), (11, .v (.bool ((decide (s24 < (v1.length : Int))))))]) (by kernel_rfl) rfl rfl
    ⟨st_plain rfl (op_bin _ _ _ _ _ rfl rfl rfl),
    trivial⟩ ?_
   refine pt_then ?_
   refine ht_seq ?_
   refine ht_cond _ rfl (fun hb38 => ?_) (fun hb38 => ?_)
   ·have h := cond_t hb38 h
    refine ht_skip ?_
    refine pt_then ?_
    refine ht_seq ?_
    refine ht_block ?_
    refine ht_seq ?_
    obtain ⟨v3, hv3, h⟩ := bind_some h
    obtain ⟨v4, hv4, h⟩ := bind_some h
    refine ht_seqR hn (El := [_, _, _, _, _, (12, .eref (.slot 8) (v3 * 1)), (13, .v (.int .u8 v4)), (6, .v (.int .u8 v4))]) (init := [0, 1, 2, 3, 4]) (fin := [0, 1, 2, 3, 7]) (sps := [⟨[1, 3], [], [5], [(.slot 12)]⟩, ⟨[5, 1], [], [6], [(.slot 13)]⟩, ⟨[6], [], [7], [(.slot 6)]⟩]) (es' := [(_, _), (_, _), (_, _), (_, _), (6, .v (.int .u8 v4))]) (by kernel_rfl) rfl rfl
     ⟨st_plain rfl (op_ix _ _ _ _ _ _ _ _ Try.underlying25 sz5 (by decide) rfl rfl rfl (ix_ok hv3).1 (map_lt (ix_ok hv3).2) rfl),
     st_plain rfl (op_load_e _ _ _ _ _ _ Try.underlying5 rfl rfl rfl (map_get hv4)),
     st_plain rfl (op_assign _ _ _ _ rfl rfl),
     trivial⟩ ?_
    refine pt_then ?_
    refine ht_seq ?_
    refine ht_seq ?_
    refine ht_joinS h (fun (s39 : Bool) => [(4, .v (.int .i64 s23)), (8, .fl .shr 1 (List.map (Value.int .u8) v1)), (9, .v (.int .i64 (v1.length : Int))), (10, .v (.int .i64 s24)), (6, .v (.int .u8 v4)), (19, .v (.bool s39))]) ?_ ?_
    ·rintro s39 h
     refine pt_then ?_
     refine ht_cond _ rfl (fun hb43 => ?_) (fun hb43 => ?_)
     ·have h := cond_t hb43 h
      refine ht_seq ?_
      refine ht_seqR hn (El := [_, _, _, _, _, _, (2, .v (.int .i64 0)), (3, .v (.bool false))]) (init := [0, 1, 2, 3, 4, 5]) (fin := [6, 7]) (sps := [⟨[], [], [6], [(.slot 2)]⟩, ⟨[], [], [7], [(.slot 3)]⟩]) (es' := [(2, .v (.int .i64 0)), (3, .v (.bool false))]) (by kernel_rfl) rfl rfl
       ⟨st_plain rfl (op_assign _ _ _ _ rfl rfl),
       st_plain rfl (op_assign _ _ _ _ rfl rfl),
       trivial⟩ ?_
      refine pt_then ?_
      refine ht_ret ?_
      refine pt_r_then ?_
      refine pt_r_in ?_
      refine pt_r_then ?_
      refine pt_r_then ?_
      refine pt_r_in ?_
      refine pt_r_then ?_
      have h := hr34 _ (ho35 _ (Option.some.inj h).symm).symm
      obtain rfl := Option.some.inj h
      exact pt_ret hio rfl (.tmp _ _ (.tmp _ _ .nil)) rfl rfl
     ·have h := cond_f hb43 h
      refine ht_skip ?_
      refine pt_then ?_
      obtain ⟨v10, hv10, h⟩ := bind_some h
      obtain ⟨v11, hv11, h⟩ := bind_some h
      obtain ⟨v12, hv12, h⟩ := bind_some h
      obtain ⟨v13, hv13, h⟩ := bind_some h
      refine ht_seqR hn (El := [_, _, _, _, _, _, (20, .v (.int .i64 s23)), (21, .v (.int .i64 v10)), (22, .v (.int .u8 v4)), (23, .v (.int .u8 v11)), (24, .v (.int .i64 v12)), (25, .v (.int .i64 v13)), (4, .v (.int .i64 v13))]) (init := [0, 1, 2, 3, 4, 5]) (fin := [1, 2, 3, 12]) (sps := [⟨[0], [], [6], [(.slot 20)]⟩, ⟨[6], [], [7], [(.slot 21)]⟩, ⟨[4], [], [8], [(.slot 22)]⟩, ⟨[8], [], [9], [(.slot 23)]⟩, ⟨[9], [], [10], [(.slot 24)]⟩, ⟨[7, 10], [], [11], [(.slot 25)]⟩, ⟨[11], [0], [12], [(.slot 4)]⟩]) (es' := [(_, _), (_, _), (_, _), (4, .v (.int .i64 v13))]) (by kernel_rfl) rfl rfl
       ⟨st_plain rfl (op_move _ _ _ _ rfl rfl),
       st_plain rfl (op_bin _ _ _ _ _ rfl rfl (ibind (f := Value.int .i64) (Option.some.inj hv10))),
       st_plain rfl (op_move _ _ _ _ rfl rfl),
       st_plain rfl (op_bin _ _ _ _ _ rfl rfl (ibind (f := Value.int .u8) (Option.some.inj hv11))),
       st_plain rfl ((Option.some.inj hv12) ▸ op_conv _ _ _ Try.underlying5 Try.underlying3 rfl),
       st_plain rfl (op_bin _ _ _ _ _ rfl rfl (ibind (f := Value.int .i64) (Option.some.inj hv13))),
       st_plain rfl (LOp.drop [_] (op_assign _ _ _ _ rfl rfl)),
       trivial⟩ ?_
      refine pt_inb ?_
      refine pt_then ?_
      obtain ⟨v14, hv14, h⟩ := bind_some h
      refine ht_seqR hn (El := [_, _, _, _, (26, .v (.int .i64 v14)), (10, .v (.int .i64 v14))]) (init := [0, 1, 2, 3]) (fin := [0, 1, 3, 5]) (sps := [⟨[2], [], [4], [(.slot 26)]⟩, ⟨[4], [2], [5], [(.slot 10)]⟩]) (es' := [(_, _), (_, _), (_, _), (10, .v (.int .i64 v14))]) (by kernel_rfl) rfl rfl
       ⟨st_plain rfl (op_bin _ _ _ _ _ rfl rfl (ibind (f := Value.int .i64) (Option.some.inj hv14))),
       st_plain rfl (LOp.drop [_] (op_move _ _ _ _ rfl rfl)),
       trivial⟩ ?_
      refine pt_pick [2, 0, 1, 3] (by kernel_rfl) (es' := [(_, _), (_, _), (_, _), (_, _)]) rfl ?_
      exact pt_next _ (Option.some.inj h).symm rfl
    ·intro u40 h hl41 hr42
     refine cond_some h (fun hg5_2 h => ?_) (fun hg5_2 h => ?_)
     ·refine ht_seqR hn (El := [_, _, _, _, _, (14, .v (.int .u8 v4)), (15, .v (.bool ((decide (v4 < 48))))), (16, .v (.bool true)), (17, .v undef), (18, .v undef), (19, .v (.bool true))]) (init := [0, 1, 2, 3, 4]) (fin := [0, 1, 2, 3, 4, 10]) (sps := [⟨[4], [], [5], [(.slot 14)]⟩, ⟨[5], [], [6], [(.slot 15)]⟩, ⟨[6], [], [7], [(.slot 16)]⟩, ⟨[7], [], [8], [(.slot 17)]⟩, ⟨[7], [], [9], [(.slot 18)]⟩, ⟨[7], [], [10], [(.slot 19)]⟩]) (es' := [(_, _), (_, _), (_, _), (_, _), (_, _), (19, .v (.bool true))]) (by kernel_rfl) rfl rfl
       ⟨st_plain rfl (op_move _ _ _ _ rfl rfl),
       st_plain rfl (op_bin _ _ _ _ _ rfl rfl rfl),
       st_plain rfl (op_move _ _ _ _ (congrArg (fun b => AV.v (Value.bool b)) hg5_2) rfl),
       st_skip 2 16 _ false rfl rfl rfl rfl (List.Mem.head _),
       st_skip 2 16 _ false rfl rfl rfl rfl (List.Mem.head _),
       st_plain rfl (op_pick _ _ true _ rfl rfl),
       trivial⟩ ?_
      exact hl41 _ (Option.some.inj h).symm
     ·refine ht_seqR hn (El := [_, _, _, _, _, (14, .v (.int .u8 v4)), (15, .v (.bool ((decide (v4 < 48))))), (16, .v (.bool false)), (17, .v (.int .u8 v4)), (18, .v (.bool ((decide (57 < v4))))), (19, .v (.bool ((decide (57 < v4)))))]) (init := [0, 1, 2, 3, 4]) (fin := [0, 1, 2, 3, 4, 10]) (sps := [⟨[4], [], [5], [(.slot 14)]⟩, ⟨[5], [], [6], [(.slot 15)]⟩, ⟨[6], [], [7], [(.slot 16)]⟩, ⟨[7, 4], [], [8], [(.slot 17)]⟩, ⟨[7, 8], [], [9], [(.slot 18)]⟩, ⟨[7, 9], [], [10], [(.slot 19)]⟩]) (es' := [(_, _), (_, _), (_, _), (_, _), (_, _), (19, .v (.bool ((decide (57 < v4)))))]) (by kernel_rfl) rfl rfl
       ⟨st_plain rfl (op_move _ _ _ _ rfl rfl),
       st_plain rfl (op_bin _ _ _ _ _ rfl rfl rfl),
       st_plain rfl (op_move _ _ _ _ (congrArg (fun b => AV.v (Value.bool b)) hg5_2) rfl),
       st_run 2 16 false rfl rfl rfl (List.Mem.head _) (op_move _ _ _ _ rfl rfl),
       st_run 2 16 false rfl rfl rfl (List.Mem.head _) (op_bin _ _ _ _ _ rfl rfl rfl),
       st_plain rfl (op_pick _ _ false _ rfl rfl),
       trivial⟩ ?_
      exact hl41 _ (Option.some.inj h).symm
   ·have h := cond_f hb38 h
    refine ht_exit ?_
    refine pt_x_then ?_
    refine pt_x_then ?_
    refine pt_x_in ?_
    refine pt_pick [0] (by kernel_rfl) (es' := [(_, _)]) rfl ?_
    exact hl33 _ (ho35 _ (Option.some.inj h).symm).symm

set_option maxHeartbeats 1000000 in
theorem ok_answer_text (s : ByteArray) (r : Bool) (h : Sh.answer_text s = some r) : FnOK Try.prog 26 [.v (.string s)] (.v (.bool r)) := by
  unfold Sh.answer_text at h
  refine fn_ok Try.func26 rfl (Nat.le_of_ble_eq_true rfl) rfl rfl fun g0 hn hio => ?_
  refine ht_seq ?_
  refine ht_seqR hn (El := [_, (2, .v (.bool false))]) (init := [0]) (fin := [0]) (sps := [⟨[], [], [1], [(.slot 2)]⟩]) (es' := [(_, _)]) (by kernel_rfl) rfl rfl
   ⟨st_plain rfl (op_assign _ _ _ _ rfl rfl),
   trivial⟩ ?_
  refine pt_then ?_
  refine ht_seq ?_
  refine ht_seq ?_
  refine ht_seqR hn (El := [_, (4, .v (.string s)), (5, .v (.int .i64 (s.size : Int))), (6, .v (.bool ((decide (200 < (s.size : Int))))))]) (init := [0]) (fin := [0, 3]) (sps := [⟨[0], [], [1], [(.slot 4)]⟩, ⟨[1], [], [2], [(.slot 5)]⟩, ⟨[2], [], [3], [(.slot 6)]⟩]) (es' := [(_, _), (6, .v (.bool ((decide (200 < (s.size : Int))))))]) (by kernel_rfl) rfl rfl
   ⟨st_plain rfl (op_move _ _ _ _ rfl rfl),
   st_plain rfl (op_len_str _ _ _ Try.underlying9 rfl),
   st_plain rfl (op_bin _ _ _ _ _ rfl rfl rfl),
   trivial⟩ ?_
  refine pt_then ?_
  refine ht_cond _ rfl (fun hb1 => ?_) (fun hb1 => ?_)
  ·have h := cond_t hb1 h
   refine ht_seq ?_
   refine ht_seqR hn (El := [_, _, (2, .v (.bool false))]) (init := [0, 1]) (fin := [2]) (sps := [⟨[], [], [2], [(.slot 2)]⟩]) (es' := [(2, .v (.bool false))]) (by kernel_rfl) rfl rfl
    ⟨st_plain rfl (op_assign _ _ _ _ rfl rfl),
    trivial⟩ ?_
   refine pt_then ?_
   refine ht_ret ?_
   refine pt_r_then ?_
   obtain rfl := Option.some.inj h
   exact pt_ret hio rfl (.tmp _ _ .nil) rfl rfl
  ·have h := cond_f hb1 h
   refine ht_skip ?_
   refine pt_then ?_
   refine ht_seq ?_
   refine ht_seq ?_
   refine ht_seqR hn (El := [_, _, (7, .v (.string s)), (8, .v (.int .i64 (s.size : Int))), (9, .v (.int .i64 0))]) (init := [0, 1]) (fin := [0, 3, 4]) (sps := [⟨[0], [], [2], [(.slot 7)]⟩, ⟨[2], [], [3], [(.slot 8)]⟩, ⟨[], [], [4], [(.slot 9)]⟩]) (es' := [(_, _), (8, .v (.int .i64 (s.size : Int))), (9, .v (.int .i64 0))]) (by kernel_rfl) rfl rfl
    ⟨st_plain rfl (op_move _ _ _ _ rfl rfl),
    st_plain rfl (op_len_str _ _ _ Try.underlying9 rfl),
    st_plain rfl (op_move _ _ _ _ rfl rfl),
    trivial⟩ ?_
   refine pt_then ?_
   refine ht_loopS h (fun (s18 : Int) => [(0, .v (.string s)), (8, .v (.int .i64 (s.size : Int))), (9, .v (.int .i64 s18))]) (fun (() : Unit) => []) ?_ ?_
   ·rintro ⟨⟩ h
    refine pt_then ?_
    refine ht_seq ?_
    refine ht_seqR hn (El := [(2, .v (.bool true))]) (init := []) (fin := [0]) (sps := [⟨[], [], [0], [(.slot 2)]⟩]) (es' := [(2, .v (.bool true))]) (by kernel_rfl) rfl rfl
     ⟨st_plain rfl (op_assign _ _ _ _ rfl rfl),
     trivial⟩ ?_
    refine pt_then ?_
    refine ht_ret ?_
    obtain rfl := Option.some.inj h
    exact pt_ret hio rfl (.tmp _ _ .nil) rfl rfl
   ·rintro u25 hl26 hr27 s18 rr30 h ho28
    refine ht_seq ?_
    refine ht_seqR hn (El := [_, _, _, (10, .v (.bool ((decide (s18 < (s.size : Int))))))]) (init := [0, 1, 2]) (fin := [0, 1, 2, 3]) (sps := [⟨[2, 1], [], [3], [(.slot 10)]⟩]) (es' := [(_, _), (_, _), (_, _), (10, .v (.bool ((decide (s18 < (s.size : Int))))))]) (by kernel_rfl) rfl rfl
     ⟨st_plain rfl (op_bin _ _ _ _ _ rfl rfl rfl),
     trivial⟩ ?_
    refine pt_then ?_
    refine ht_seq ?_
    refine ht_cond _ rfl (fun hb31 => ?_) (fun hb31 => ?_)
    ·have h := cond_t hb31 h
     refine ht_skip ?_
     refine pt_then ?_
     refine ht_seq ?_
     refine ht_block ?_
     refine ht_seq ?_
     refine ht_seqR hn (El := [_, _, _, _, (11, .v (.int .i64 s18)), (3, .v (.int .i64 s18))]) (init := [0, 1, 2, 3]) (fin := [0, 1, 2, 5]) (sps := [⟨[2], [], [4], [(.slot 11)]⟩, ⟨[4], [], [5], [(.slot 3)]⟩]) (es' := [(_, _), (_, _), (_, _), (3, .v (.int .i64 s18))]) (by kernel_rfl) rfl rfl
      ⟨st_plain rfl (op_move _ _ _ _ rfl rfl),
      st_plain rfl (op_assign _ _ _ _ rfl rfl),
      trivial⟩ ?_
     refine pt_then ?_
     refine ht_seq ?_
     refine ht_joinS h (fun (s32 : Bool) => [(0, .v (.string s)), (8, .v (.int .i64 (s.size : Int))), (9, .v (.int .i64 s18)), (21, .v (.bool s32))]) ?_ ?_
     ·rintro s32 h
      refine pt_then ?_
      refine ht_cond _ rfl (fun hb36 => ?_) (fun hb36 => ?_)
      ·have h := cond_t hb36 h
       refine ht_seq ?_
       refine ht_seqR hn (El := [_, _, _, _, (2, .v (.bool false))]) (init := [0, 1, 2, 3]) (fin := [4]) (sps := [⟨[], [], [4], [(.slot 2)]⟩]) (es' := [(2, .v (.bool false))]) (by kernel_rfl) rfl rfl
        ⟨st_plain rfl (op_assign _ _ _ _ rfl rfl),
        trivial⟩ ?_
       refine pt_then ?_
       refine ht_ret ?_
       refine pt_r_in ?_
       refine pt_r_then ?_
       refine pt_r_then ?_
       refine pt_r_in ?_
       refine pt_r_then ?_
       have h := hr27 _ (ho28 _ (Option.some.inj h).symm).symm
       obtain rfl := Option.some.inj h
       exact pt_ret hio rfl (.tmp _ _ .nil) rfl rfl
      ·have h := cond_f hb36 h
       refine ht_skip ?_
       refine pt_inb ?_
       refine pt_then ?_
       obtain ⟨v10, hv10, h⟩ := bind_some h
       refine ht_seqR hn (El := [_, _, _, _, (22, .v (.int .i64 v10)), (9, .v (.int .i64 v10))]) (init := [0, 1, 2, 3]) (fin := [0, 1, 5]) (sps := [⟨[2], [], [4], [(.slot 22)]⟩, ⟨[4], [2], [5], [(.slot 9)]⟩]) (es' := [(_, _), (_, _), (9, .v (.int .i64 v10))]) (by kernel_rfl) rfl rfl
        ⟨st_plain rfl (op_bin _ _ _ _ _ rfl rfl (ibind (f := Value.int .i64) (Option.some.inj hv10))),
        st_plain rfl (LOp.drop [_] (op_move _ _ _ _ rfl rfl)),
        trivial⟩ ?_
       exact pt_next _ (Option.some.inj h).symm rfl
     ·intro u33 h hl34 hr35
      obtain ⟨v3, hv3, h⟩ := bind_some h
      refine cond_some h (fun hg6_4 h => ?_) (fun hg6_4 h => ?_)
      ·refine ht_seqR hn (El := [_, _, _, _, (12, .v (.string s)), (13, .v (.int .i64 s18)), (14, .v (.int .u8 v3)), (15, .v (.bool ((decide (v3 < 32))))), (16, .v (.bool true)), (17, .v undef), (18, .v undef), (19, .v undef), (20, .v undef), (21, .v (.bool true))]) (init := [0, 1, 2, 3]) (fin := [0, 1, 2, 13]) (sps := [⟨[0], [], [4], [(.slot 12)]⟩, ⟨[3], [], [5], [(.slot 13)]⟩, ⟨[4, 5], [], [6], [(.slot 14)]⟩, ⟨[6], [], [7], [(.slot 15)]⟩, ⟨[7], [], [8], [(.slot 16)]⟩, ⟨[8], [], [9], [(.slot 17)]⟩, ⟨[8], [], [10], [(.slot 18)]⟩, ⟨[8], [], [11], [(.slot 19)]⟩, ⟨[8], [], [12], [(.slot 20)]⟩, ⟨[8], [], [13], [(.slot 21)]⟩]) (es' := [(_, _), (_, _), (_, _), (21, .v (.bool true))]) (by kernel_rfl) rfl rfl
        ⟨st_plain rfl (op_move _ _ _ _ rfl rfl),
        st_plain rfl (op_move _ _ _ _ rfl rfl),
        st_plain rfl (op_chr _ _ _ s18 _ Try.underlying9 rfl rfl hv3),
        st_plain rfl (op_bin _ _ _ _ _ rfl rfl rfl),
        st_plain rfl (op_move _ _ _ _ (congrArg (fun b => AV.v (Value.bool b)) hg6_4) rfl),
        st_skip 4 16 _ false rfl rfl rfl rfl (List.Mem.head _),
        st_skip 4 16 _ false rfl rfl rfl rfl (List.Mem.head _),
        st_skip 4 16 _ false rfl rfl rfl rfl (List.Mem.head _),
        st_skip 4 16 _ false rfl rfl rfl rfl (List.Mem.head _),
        st_plain rfl (op_pick _ _ true _ rfl rfl),
        trivial⟩ ?_
       exact hl34 _ (Option.some.inj h).symm
      ·obtain ⟨v4, hv4, h⟩ := bind_some h
       refine ht_seqR hn (El := [_, _, _, _, (12, .v (.string s)), (13, .v (.int .i64 s18)), (14, .v (.int .u8 v3)), (15, .v (.bool ((decide (v3 < 32))))), (16, .v (.bool false)), (17, .v (.string s)), (18, .v (.int .i64 s18)), (19, .v (.int .u8 v4)), (20, .v (.bool ((decide (126 < v4))))), (21, .v (.bool ((decide (126 < v4)))))]) (init := [0, 1, 2, 3]) (fin := [0, 1, 2, 13]) (sps := [⟨[0], [], [4], [(.slot 12)]⟩, ⟨[3], [], [5], [(.slot 13)]⟩, ⟨[4, 5], [], [6], [(.slot 14)]⟩, ⟨[6], [], [7], [(.slot 15)]⟩, ⟨[7], [], [8], [(.slot 16)]⟩, ⟨[8, 0], [], [9], [(.slot 17)]⟩, ⟨[8, 3], [], [10], [(.slot 18)]⟩, ⟨[8, 9, 10], [], [11], [(.slot 19)]⟩, ⟨[8, 11], [], [12], [(.slot 20)]⟩, ⟨[8, 12], [], [13], [(.slot 21)]⟩]) (es' := [(_, _), (_, _), (_, _), (21, .v (.bool ((decide (126 < v4)))))]) (by kernel_rfl) rfl rfl
        ⟨st_plain rfl (op_move _ _ _ _ rfl rfl),
        st_plain rfl (op_move _ _ _ _ rfl rfl),
        st_plain rfl (op_chr _ _ _ s18 _ Try.underlying9 rfl rfl hv3),
        st_plain rfl (op_bin _ _ _ _ _ rfl rfl rfl),
        st_plain rfl (op_move _ _ _ _ (congrArg (fun b => AV.v (Value.bool b)) hg6_4) rfl),
        st_run 4 16 false rfl rfl rfl (List.Mem.head _) (op_move _ _ _ _ rfl rfl),
        st_run 4 16 false rfl rfl rfl (List.Mem.head _) (op_move _ _ _ _ rfl rfl),
        st_run 4 16 false rfl rfl rfl (List.Mem.head _) (op_chr _ _ _ s18 _ Try.underlying9 rfl rfl hv4),
        st_run 4 16 false rfl rfl rfl (List.Mem.head _) (op_bin _ _ _ _ _ rfl rfl rfl),
        st_plain rfl (op_pick _ _ false _ rfl rfl),
        trivial⟩ ?_
       exact hl34 _ (Option.some.inj h).symm
    ·have h := cond_f hb31 h
     refine ht_exit ?_
     refine pt_x_then ?_
     refine pt_x_then ?_
     refine pt_x_in ?_
     refine pt_pick [] (by kernel_rfl) (es' := []) rfl ?_
     exact hl26 _ (ho28 _ (Option.some.inj h).symm).symm

set_option maxHeartbeats 1000000 in
theorem ok_answer_Check (p_r : T_Reply) (r : Int) (h : Sh.answer_Check p_r = some r) : FnOK Try.prog 14 [.agg [.v (.int .i64 p_r.Code), .fl .shr 1 (List.map Value.string p_r.Lines)]] (.v (.int .i64 r)) := by
  unfold Sh.answer_Check at h
  refine fn_ok Try.func14 rfl (Nat.le_of_ble_eq_true rfl) rfl rfl fun g0 hn hio => ?_
  refine ht_seq ?_
  refine ht_seqR hn (El := [_, (1, .box 24 [.v (.int .i64 p_r.Code), .fl .shr 1 (List.map Value.string p_r.Lines)]), (2, .v (.int .i64 0))]) (init := [0]) (fin := [1]) (sps := [⟨[0], [], [1], [(.slot 1)]⟩, ⟨[], [], [2], [(.slot 2)]⟩]) (es' := [(1, .box 24 [.v (.int .i64 p_r.Code), .fl .shr 1 (List.map Value.string p_r.Lines)])]) (by kernel_rfl) rfl rfl
   ⟨st_plain rfl (op_box _ _ _ _ rfl rfl rfl),
   st_plain rfl (op_assign _ _ _ _ rfl rfl),
   trivial⟩ ?_
  refine pt_then ?_
  refine ht_seq ?_
  refine ht_seq ?_
  refine ht_joinS h (fun (s3 : Bool) => [(1, .box 24 [.v (.int .i64 p_r.Code), .fl .shr 1 (List.map Value.string p_r.Lines)]), (19, .v (.bool s3))]) ?_ ?_
  ·rintro s3 h
   refine pt_then ?_
   refine ht_cond _ rfl (fun hb7 => ?_) (fun hb7 => ?_)
   ·have h := cond_t hb7 h
    refine ht_seq ?_
    refine ht_seqR hn (El := [_, _, (2, .v (.int .i64 5))]) (init := [0, 1]) (fin := [2]) (sps := [⟨[], [], [2], [(.slot 2)]⟩]) (es' := [(2, .v (.int .i64 5))]) (by kernel_rfl) rfl rfl
     ⟨st_plain rfl (op_assign _ _ _ _ rfl rfl),
     trivial⟩ ?_
    refine pt_then ?_
    refine ht_ret ?_
    refine pt_r_then ?_
    obtain rfl := Option.some.inj h
    exact pt_ret hio rfl (.tmp _ _ .nil) rfl rfl
   ·have h := cond_f hb7 h
    refine ht_skip ?_
    refine pt_then ?_
    refine ht_seq ?_
    refine ht_seq ?_
    refine ht_joinS h (fun (s8 : Bool) => [(1, .box 24 [.v (.int .i64 p_r.Code), .fl .shr 1 (List.map Value.string p_r.Lines)]), (29, .v (.bool s8))]) ?_ ?_
    ·rintro s8 h
     refine pt_then ?_
     refine ht_cond _ rfl (fun hb12 => ?_) (fun hb12 => ?_)
     ·have h := cond_t hb12 h
      refine ht_seq ?_
      refine ht_seqR hn (El := [_, _, (2, .v (.int .i64 5))]) (init := [0, 1]) (fin := [2]) (sps := [⟨[], [], [2], [(.slot 2)]⟩]) (es' := [(2, .v (.int .i64 5))]) (by kernel_rfl) rfl rfl
       ⟨st_plain rfl (op_assign _ _ _ _ rfl rfl),
       trivial⟩ ?_
      refine pt_then ?_
      refine ht_ret ?_
      refine pt_r_then ?_
      obtain rfl := Option.some.inj h
      exact pt_ret hio rfl (.tmp _ _ .nil) rfl rfl
     ·have h := cond_f hb12 h
      refine ht_skip ?_
      refine pt_then ?_
      refine ht_seq ?_
      refine ht_seq ?_
      refine ht_seqR hn (El := [_, _, (30, .ptr 1 1), (31, .fl .shr 1 (List.map Value.string p_r.Lines)), (32, .v (.int .i64 (p_r.Lines.length : Int))), (33, .v (.int .i64 0))]) (init := [0, 1]) (fin := [3, 4, 5]) (sps := [⟨[0], [], [2], [(.slot 30)]⟩, ⟨[2, 0], [], [3], [(.slot 31)]⟩, ⟨[3], [], [4], [(.slot 32)]⟩, ⟨[], [], [5], [(.slot 33)]⟩]) (es' := [(31, .fl .shr 1 (List.map Value.string p_r.Lines)), (32, .v (.int .i64 (p_r.Lines.length : Int))), (33, .v (.int .i64 0))]) (by kernel_rfl) rfl rfl
       ⟨st_plain rfl (op_fieldAddr _ _ _ _ 1 0 _ Try.underlying24 rfl sz22 rfl rfl (by decide)),
       st_plain rfl (op_load _ _ _ _ _ _ Try.underlying22 rfl rfl rfl (Nat.le_of_ble_eq_true rfl) rfl rfl rfl),
       st_plain rfl (op_len_fl _ _ _ Try.underlying22 rfl (by decide) (map_len _)),
       st_plain rfl (op_move _ _ _ _ rfl rfl),
       trivial⟩ ?_
      refine pt_then ?_
      refine ht_loopS h (fun (s22 : Int) => [(31, .fl .shr 1 (List.map Value.string p_r.Lines)), (32, .v (.int .i64 (p_r.Lines.length : Int))), (33, .v (.int .i64 s22))]) (fun (() : Unit) => []) ?_ ?_
      ·rintro ⟨⟩ h
       refine pt_then ?_
       refine ht_seq ?_
       refine ht_seqR hn (El := [(2, .v (.int .i64 0))]) (init := []) (fin := [0]) (sps := [⟨[], [], [0], [(.slot 2)]⟩]) (es' := [(2, .v (.int .i64 0))]) (by kernel_rfl) rfl rfl
        ⟨st_plain rfl (op_assign _ _ _ _ rfl rfl),
        trivial⟩ ?_
       refine pt_then ?_
       refine ht_ret ?_
       obtain rfl := Option.some.inj h
       exact pt_ret hio rfl (.tmp _ _ .nil) rfl rfl
      ·rintro u25 hl26 hr27 s22 rr30 h ho28
       refine ht_seq ?_
       refine ht_seqR hn (El := [_, _, _, (34, .v (.bool ((decide (s22 < (p_r.Lines.length : Int))))))]) (init := [0, 1, 2]) (fin := [0, 1, 2, 3]) (sps := [⟨[2, 1], [], [3], [(.slot 34)]⟩]) (es' := [(_, _), (_, _), (_, _), (34, .v (.bool ((decide (s22 < (p_r.Lines.length : Int))))))]) (by kernel_rfl) rfl rfl
        ⟨st_plain rfl (op_bin _ _ _ _ _ rfl rfl rfl),
        trivial⟩ ?_
       refine pt_then ?_
       refine ht_seq ?_
       refine ht_cond _ rfl (fun hb31 => ?_) (fun hb31 => ?_)
       ·have h := cond_t hb31 h
        refine ht_skip ?_
        refine pt_then ?_
        refine ht_seq ?_
        refine ht_block ?_
        refine ht_seq ?_
        obtain ⟨v14, hv14, h⟩ := bind_some h
        obtain ⟨v15, hv15, h⟩ := bind_some h
        refine ht_seqR hn (El := [_, _, _, _, (35, .eref (.slot 31) (v14 * 1)), (36, .v (.string v15)), (4, .v (.string v15))]) (init := [0, 1, 2, 3]) (fin := [0, 1, 2, 6]) (sps := [⟨[0, 2], [], [4], [(.slot 35)]⟩, ⟨[4, 0], [], [5], [(.slot 36)]⟩, ⟨[5], [], [6], [(.slot 4)]⟩]) (es' := [(_, _), (_, _), (_, _), (4, .v (.string v15))]) (by kernel_rfl) rfl rfl
         ⟨st_plain rfl (op_ix _ _ _ _ _ _ _ _ Try.underlying22 sz9 (by decide) rfl rfl rfl (ix_ok hv14).1 (map_lt (ix_ok hv14).2) rfl),
         st_plain rfl (op_load_e _ _ _ _ _ _ Try.underlying9 rfl rfl rfl (map_get hv15)),
         st_plain rfl (op_assign _ _ _ _ rfl rfl),
         trivial⟩ ?_
        refine pt_then ?_
        refine ht_seq ?_
        obtain ⟨v16, hv16, h⟩ := bind_some h
        refine ht_seqR hn (El := [_, _, _, _, (37, .v (.string v15)), (38, .v (.bool v16)), (39, .v (.bool (!v16)))]) (init := [0, 1, 2, 3]) (fin := [0, 1, 2, 6]) (sps := [⟨[3], [], [4], [(.slot 37)]⟩, ⟨[4], [], [5], [(.slot 38)]⟩, ⟨[5], [], [6], [(.slot 39)]⟩]) (es' := [(_, _), (_, _), (_, _), (39, .v (.bool (!v16)))]) (by kernel_rfl) rfl rfl
         ⟨st_plain rfl (op_move _ _ _ _ rfl rfl),
         st_plain rfl (op_call _ _ 26 _ _ rfl Try.call26 rfl (ok_answer_text v15 _ hv16) rfl rfl),
         st_plain rfl (op_un _ _ _ _ rfl rfl),
         trivial⟩ ?_
        refine pt_then ?_
        refine ht_cond _ rfl (fun hb32 => ?_) (fun hb32 => ?_)
        ·have h := cond_t hb32 h
         refine ht_seq ?_
         refine ht_seqR hn (El := [_, _, _, _, (2, .v (.int .i64 5))]) (init := [0, 1, 2, 3]) (fin := [4]) (sps := [⟨[], [], [4], [(.slot 2)]⟩]) (es' := [(2, .v (.int .i64 5))]) (by kernel_rfl) rfl rfl
          ⟨st_plain rfl (op_assign _ _ _ _ rfl rfl),
          trivial⟩ ?_
         refine pt_then ?_
         refine ht_ret ?_
         refine pt_r_in ?_
         refine pt_r_then ?_
         refine pt_r_then ?_
         refine pt_r_in ?_
         refine pt_r_then ?_
         have h := hr27 _ (ho28 _ (Option.some.inj h).symm).symm
         obtain rfl := Option.some.inj h
         exact pt_ret hio rfl (.tmp _ _ .nil) rfl rfl
        ·have h := cond_f hb32 h
         refine ht_skip ?_
         refine pt_inb ?_
         refine pt_then ?_
         obtain ⟨v18, hv18, h⟩ := bind_some h
         refine ht_seqR hn (El := [_, _, _, _, (40, .v (.int .i64 v18)), (33, .v (.int .i64 v18))]) (init := [0, 1, 2, 3]) (fin := [0, 1, 5]) (sps := [⟨[2], [], [4], [(.slot 40)]⟩, ⟨[4], [2], [5], [(.slot 33)]⟩]) (es' := [(_, _), (_, _), (33, .v (.int .i64 v18))]) (by kernel_rfl) rfl rfl
          ⟨st_plain rfl (op_bin _ _ _ _ _ rfl rfl (ibind (f := Value.int .i64) (Option.some.inj hv18))),
          st_plain rfl (LOp.drop [_] (op_move _ _ _ _ rfl rfl)),
          trivial⟩ ?_
         exact pt_next _ (Option.some.inj h).symm rfl
       ·have h := cond_f hb31 h
        refine ht_exit ?_
        refine pt_x_then ?_
        refine pt_x_then ?_
        refine pt_x_in ?_
        refine pt_pick [] (by kernel_rfl) (es' := []) rfl ?_
        exact hl26 _ (ho28 _ (Option.some.inj h).symm).symm
    ·intro u9 h hl10 hr11
     refine cond_some h (fun hg3_4 h => ?_) (fun hg3_4 h => ?_)
     ·refine ht_seqR hn (El := [_, _, (20, .ptr 1 1), (21, .fl .shr 1 (List.map Value.string p_r.Lines)), (22, .v (.int .i64 (p_r.Lines.length : Int))), (23, .v (.bool ((decide ((p_r.Lines.length : Int) < 1))))), (24, .v (.bool true)), (25, .v undef), (26, .v undef), (27, .v undef), (28, .v undef), (29, .v (.bool true))]) (init := [0, 1]) (fin := [0, 11]) (sps := [⟨[0], [], [2], [(.slot 20)]⟩, ⟨[2, 0], [], [3], [(.slot 21)]⟩, ⟨[3], [], [4], [(.slot 22)]⟩, ⟨[4], [], [5], [(.slot 23)]⟩, ⟨[5], [], [6], [(.slot 24)]⟩, ⟨[6], [], [7], [(.slot 25)]⟩, ⟨[6], [], [8], [(.slot 26)]⟩, ⟨[6], [], [9], [(.slot 27)]⟩, ⟨[6], [], [10], [(.slot 28)]⟩, ⟨[6], [], [11], [(.slot 29)]⟩]) (es' := [(_, _), (29, .v (.bool true))]) (by kernel_rfl) rfl rfl
       ⟨st_plain rfl (op_fieldAddr _ _ _ _ 1 0 _ Try.underlying24 rfl sz22 rfl rfl (by decide)),
       st_plain rfl (op_load _ _ _ _ _ _ Try.underlying22 rfl rfl rfl (Nat.le_of_ble_eq_true rfl) rfl rfl rfl),
       st_plain rfl (op_len_fl _ _ _ Try.underlying22 rfl (by decide) (map_len _)),
       st_plain rfl (op_bin _ _ _ _ _ rfl rfl rfl),
       st_plain rfl (op_move _ _ _ _ (congrArg (fun b => AV.v (Value.bool b)) hg3_4) rfl),
       st_skip 4 24 _ false rfl rfl rfl rfl (List.Mem.head _),
       st_skip 4 24 _ false rfl rfl rfl rfl (List.Mem.head _),
       st_skip 4 24 _ false rfl rfl rfl rfl (List.Mem.head _),
       st_skip 4 24 _ false rfl rfl rfl rfl (List.Mem.head _),
       st_plain rfl (op_pick _ _ true _ rfl rfl),
       trivial⟩ ?_
      exact hl10 _ (Option.some.inj h).symm
     ·refine ht_seqR hn (El := [_, _, (20, .ptr 1 1), (21, .fl .shr 1 (List.map Value.string p_r.Lines)), (22, .v (.int .i64 (p_r.Lines.length : Int))), (23, .v (.bool ((decide ((p_r.Lines.length : Int) < 1))))), (24, .v (.bool false)), (25, .ptr 1 1), (26, .fl .shr 1 (List.map Value.string p_r.Lines)), (27, .v (.int .i64 (p_r.Lines.length : Int))), (28, .v (.bool ((decide (20 < (p_r.Lines.length : Int)))))), (29, .v (.bool ((decide (20 < (p_r.Lines.length : Int))))))]) (init := [0, 1]) (fin := [0, 11]) (sps := [⟨[0], [], [2], [(.slot 20)]⟩, ⟨[2, 0], [], [3], [(.slot 21)]⟩, ⟨[3], [], [4], [(.slot 22)]⟩, ⟨[4], [], [5], [(.slot 23)]⟩, ⟨[5], [], [6], [(.slot 24)]⟩, ⟨[6, 0], [], [7], [(.slot 25)]⟩, ⟨[6, 7, 0], [], [8], [(.slot 26)]⟩, ⟨[6, 8], [], [9], [(.slot 27)]⟩, ⟨[6, 9], [], [10], [(.slot 28)]⟩, ⟨[6, 10], [], [11], [(.slot 29)]⟩]) (es' := [(_, _), (29, .v (.bool ((decide (20 < (p_r.Lines.length : Int))))))]) (by kernel_rfl) rfl rfl
       ⟨st_plain rfl (op_fieldAddr _ _ _ _ 1 0 _ Try.underlying24 rfl sz22 rfl rfl (by decide)),
       st_plain rfl (op_load _ _ _ _ _ _ Try.underlying22 rfl rfl rfl (Nat.le_of_ble_eq_true rfl) rfl rfl rfl),
       st_plain rfl (op_len_fl _ _ _ Try.underlying22 rfl (by decide) (map_len _)),
       st_plain rfl (op_bin _ _ _ _ _ rfl rfl rfl),
       st_plain rfl (op_move _ _ _ _ (congrArg (fun b => AV.v (Value.bool b)) hg3_4) rfl),
       st_run 4 24 false rfl rfl rfl (List.Mem.head _) (op_fieldAddr _ _ _ _ 1 0 _ Try.underlying24 rfl sz22 rfl rfl (by decide)),
       st_run 4 24 false rfl rfl rfl (List.Mem.head _) (op_load _ _ _ _ _ _ Try.underlying22 rfl rfl rfl (Nat.le_of_ble_eq_true rfl) rfl rfl rfl),
       st_run 4 24 false rfl rfl rfl (List.Mem.head _) (op_len_fl _ _ _ Try.underlying22 rfl (by decide) (map_len _)),
       st_run 4 24 false rfl rfl rfl (List.Mem.head _) (op_bin _ _ _ _ _ rfl rfl rfl),
       st_plain rfl (op_pick _ _ false _ rfl rfl),
       trivial⟩ ?_
      exact hl10 _ (Option.some.inj h).symm
  ·intro u4 h hl5 hr6
   refine cond_some h (fun hg1_3 h => ?_) (fun hg1_3 h => ?_)
   ·refine ht_seqR hn (El := (_ :: (5, .ptr 1 0) :: (6, .v (.int .i64 p_r.Code)) :: (7, .v (.bool ((decide (p_r.Code < 200))))) :: (8, .v (.bool true)) :: (9, .v undef) :: (10, .v undef) :: (11, .v undef) :: (12, .v (.bool true)) :: (13, .v (.bool true)) :: (14, .v undef) :: (15, .v undef) :: (16, .v undef) :: (17, .v undef) :: (18, .v undef) :: (19, .v (.bool true)) :: [])) (init := [0]) (fin := [0, 15]) (sps := (⟨[0], [], [1], [(.slot 5)]⟩ :: ⟨[1, 0], [], [2], [(.slot 6)]⟩ :: ⟨[2], [], [3], [(.slot 7)]⟩ :: ⟨[3], [], [4], [(.slot 8)]⟩ :: ⟨[4], [], [5], [(.slot 9)]⟩ :: ⟨[4], [], [6], [(.slot 10)]⟩ :: ⟨[4], [], [7], [(.slot 11)]⟩ :: ⟨[4], [], [8], [(.slot 12)]⟩ :: ⟨[8], [], [9], [(.slot 13)]⟩ :: ⟨[9], [], [10], [(.slot 14)]⟩ :: ⟨[9], [], [11], [(.slot 15)]⟩ :: ⟨[9], [], [12], [(.slot 16)]⟩ :: ⟨[9], [], [13], [(.slot 17)]⟩ :: ⟨[9], [], [14], [(.slot 18)]⟩ :: ⟨[9], [], [15], [(.slot 19)]⟩ :: [])) (es' := [(_, _), (19, .v (.bool true))]) (by kernel_rfl) rfl rfl
     ⟨st_plain rfl (op_fieldAddr _ _ _ _ 1 0 _ Try.underlying24 rfl sz3 rfl rfl (by decide)),
     st_plain rfl (op_load _ _ _ _ _ _ Try.underlying3 rfl rfl rfl (Nat.le_of_ble_eq_true rfl) rfl rfl rfl),
     st_plain rfl (op_bin _ _ _ _ _ rfl rfl rfl),
     st_plain rfl (op_move _ _ _ _ (congrArg (fun b => AV.v (Value.bool b)) hg1_3) rfl),
     st_skip 3 8 _ false rfl rfl rfl rfl (List.Mem.head _),
     st_skip 3 8 _ false rfl rfl rfl rfl (List.Mem.head _),
     st_skip 3 8 _ false rfl rfl rfl rfl (List.Mem.head _),
     st_plain rfl (op_pick _ _ true _ rfl rfl),
     st_plain rfl (op_move _ _ _ _ rfl rfl),
     st_skip 8 13 _ false rfl rfl rfl rfl (List.Mem.head _),
     st_skip 8 13 _ false rfl rfl rfl rfl (List.Mem.head _),
     st_skip 8 13 _ false rfl rfl rfl rfl (List.Mem.head _),
     st_skip 8 13 _ false rfl rfl rfl rfl (List.Mem.head _),
     st_skip 8 13 _ false rfl rfl rfl rfl (List.Mem.head _),
     st_plain rfl (op_pick _ _ true _ rfl rfl),
     trivial⟩ ?_
    exact hl5 _ (Option.some.inj h).symm
   ·refine cond_some h (fun hg1_8 h => ?_) (fun hg1_8 h => ?_)
    ·refine ht_seqR hn (El := (_ :: (5, .ptr 1 0) :: (6, .v (.int .i64 p_r.Code)) :: (7, .v (.bool ((decide (p_r.Code < 200))))) :: (8, .v (.bool false)) :: (9, .ptr 1 0) :: (10, .v (.int .i64 p_r.Code)) :: (11, .v (.bool ((decide (559 < p_r.Code))))) :: (12, .v (.bool ((decide (559 < p_r.Code))))) :: (13, .v (.bool true)) :: (14, .v undef) :: (15, .v undef) :: (16, .v undef) :: (17, .v undef) :: (18, .v undef) :: (19, .v (.bool true)) :: [])) (init := [0]) (fin := [0, 15]) (sps := (⟨[0], [], [1], [(.slot 5)]⟩ :: ⟨[1, 0], [], [2], [(.slot 6)]⟩ :: ⟨[2], [], [3], [(.slot 7)]⟩ :: ⟨[3], [], [4], [(.slot 8)]⟩ :: ⟨[4, 0], [], [5], [(.slot 9)]⟩ :: ⟨[4, 5, 0], [], [6], [(.slot 10)]⟩ :: ⟨[4, 6], [], [7], [(.slot 11)]⟩ :: ⟨[4, 7], [], [8], [(.slot 12)]⟩ :: ⟨[8], [], [9], [(.slot 13)]⟩ :: ⟨[9], [], [10], [(.slot 14)]⟩ :: ⟨[9], [], [11], [(.slot 15)]⟩ :: ⟨[9], [], [12], [(.slot 16)]⟩ :: ⟨[9], [], [13], [(.slot 17)]⟩ :: ⟨[9], [], [14], [(.slot 18)]⟩ :: ⟨[9], [], [15], [(.slot 19)]⟩ :: [])) (es' := [(_, _), (19, .v (.bool true))]) (by kernel_rfl) rfl rfl
      ⟨st_plain rfl (op_fieldAddr _ _ _ _ 1 0 _ Try.underlying24 rfl sz3 rfl rfl (by decide)),
      st_plain rfl (op_load _ _ _ _ _ _ Try.underlying3 rfl rfl rfl (Nat.le_of_ble_eq_true rfl) rfl rfl rfl),
      st_plain rfl (op_bin _ _ _ _ _ rfl rfl rfl),
      st_plain rfl (op_move _ _ _ _ (congrArg (fun b => AV.v (Value.bool b)) hg1_3) rfl),
      st_run 3 8 false rfl rfl rfl (List.Mem.head _) (op_fieldAddr _ _ _ _ 1 0 _ Try.underlying24 rfl sz3 rfl rfl (by decide)),
      st_run 3 8 false rfl rfl rfl (List.Mem.head _) (op_load _ _ _ _ _ _ Try.underlying3 rfl rfl rfl (Nat.le_of_ble_eq_true rfl) rfl rfl rfl),
      st_run 3 8 false rfl rfl rfl (List.Mem.head _) (op_bin _ _ _ _ _ rfl rfl rfl),
      st_plain rfl (op_pick _ _ false _ rfl rfl),
      st_plain rfl (op_move _ _ _ _ (congrArg (fun b => AV.v (Value.bool b)) hg1_8) rfl),
      st_skip 8 13 _ false rfl rfl rfl rfl (List.Mem.head _),
      st_skip 8 13 _ false rfl rfl rfl rfl (List.Mem.head _),
      st_skip 8 13 _ false rfl rfl rfl rfl (List.Mem.head _),
      st_skip 8 13 _ false rfl rfl rfl rfl (List.Mem.head _),
      st_skip 8 13 _ false rfl rfl rfl rfl (List.Mem.head _),
      st_plain rfl (op_pick _ _ true _ rfl rfl),
      trivial⟩ ?_
     exact hl5 _ (Option.some.inj h).symm
    ·obtain ⟨v1, hv1, h⟩ := bind_some h
     obtain ⟨v2, hv2, h⟩ := bind_some h
     refine ht_seqR hn (El := (_ :: (5, .ptr 1 0) :: (6, .v (.int .i64 p_r.Code)) :: (7, .v (.bool ((decide (p_r.Code < 200))))) :: (8, .v (.bool false)) :: (9, .ptr 1 0) :: (10, .v (.int .i64 p_r.Code)) :: (11, .v (.bool ((decide (559 < p_r.Code))))) :: (12, .v (.bool ((decide (559 < p_r.Code))))) :: (13, .v (.bool false)) :: (14, .ptr 1 0) :: (15, .v (.int .i64 p_r.Code)) :: (16, .v (.int .i64 v1)) :: (17, .v (.int .i64 v2)) :: (18, .v (.bool ((decide (5 < v2))))) :: (19, .v (.bool ((decide (5 < v2))))) :: [])) (init := [0]) (fin := [0, 15]) (sps := (⟨[0], [], [1], [(.slot 5)]⟩ :: ⟨[1, 0], [], [2], [(.slot 6)]⟩ :: ⟨[2], [], [3], [(.slot 7)]⟩ :: ⟨[3], [], [4], [(.slot 8)]⟩ :: ⟨[4, 0], [], [5], [(.slot 9)]⟩ :: ⟨[4, 5, 0], [], [6], [(.slot 10)]⟩ :: ⟨[4, 6], [], [7], [(.slot 11)]⟩ :: ⟨[4, 7], [], [8], [(.slot 12)]⟩ :: ⟨[8], [], [9], [(.slot 13)]⟩ :: ⟨[9, 0], [], [10], [(.slot 14)]⟩ :: ⟨[9, 10, 0], [], [11], [(.slot 15)]⟩ :: ⟨[9, 11], [], [12], [(.slot 16)]⟩ :: ⟨[9, 12], [], [13], [(.slot 17)]⟩ :: ⟨[9, 13], [], [14], [(.slot 18)]⟩ :: ⟨[9, 14], [], [15], [(.slot 19)]⟩ :: [])) (es' := [(_, _), (19, .v (.bool ((decide (5 < v2)))))]) (by kernel_rfl) rfl rfl
      ⟨st_plain rfl (op_fieldAddr _ _ _ _ 1 0 _ Try.underlying24 rfl sz3 rfl rfl (by decide)),
      st_plain rfl (op_load _ _ _ _ _ _ Try.underlying3 rfl rfl rfl (Nat.le_of_ble_eq_true rfl) rfl rfl rfl),
      st_plain rfl (op_bin _ _ _ _ _ rfl rfl rfl),
      st_plain rfl (op_move _ _ _ _ (congrArg (fun b => AV.v (Value.bool b)) hg1_3) rfl),
      st_run 3 8 false rfl rfl rfl (List.Mem.head _) (op_fieldAddr _ _ _ _ 1 0 _ Try.underlying24 rfl sz3 rfl rfl (by decide)),
      st_run 3 8 false rfl rfl rfl (List.Mem.head _) (op_load _ _ _ _ _ _ Try.underlying3 rfl rfl rfl (Nat.le_of_ble_eq_true rfl) rfl rfl rfl),
      st_run 3 8 false rfl rfl rfl (List.Mem.head _) (op_bin _ _ _ _ _ rfl rfl rfl),
      st_plain rfl (op_pick _ _ false _ rfl rfl),
      st_plain rfl (op_move _ _ _ _ (congrArg (fun b => AV.v (Value.bool b)) hg1_8) rfl),
      st_run 8 13 false rfl rfl rfl (List.Mem.head _) (op_fieldAddr _ _ _ _ 1 0 _ Try.underlying24 rfl sz3 rfl rfl (by decide)),
      st_run 8 13 false rfl rfl rfl (List.Mem.head _) (op_load _ _ _ _ _ _ Try.underlying3 rfl rfl rfl (Nat.le_of_ble_eq_true rfl) rfl rfl rfl),
      st_run 8 13 false rfl rfl rfl (List.Mem.head _) (op_bin _ _ _ _ _ rfl rfl (quo_ok hv1)),
      st_run 8 13 false rfl rfl rfl (List.Mem.head _) (op_bin _ _ _ _ _ rfl rfl (rem_ok hv2)),
      st_run 8 13 false rfl rfl rfl (List.Mem.head _) (op_bin _ _ _ _ _ rfl rfl rfl),
      st_plain rfl (op_pick _ _ false _ rfl rfl),
      trivial⟩ ?_
     exact hl5 _ (Option.some.inj h).symm

set_option maxHeartbeats 1000000 in
theorem ok_answer_Read (mx : Int) (b : (List Int)) (r : (T_Reply × Int × Int)) (h : Sh.answer_Read b = some r) : FnG Try.prog (GL mx) 11 [.fl .shr 1 (List.map (Value.int .u8) b)] (.tup [.agg [.v (.int .i64 r.1.Code), .fl (.own 9) 1 (List.map Value.string r.1.Lines)], .v (.int .i64 r.2.1), .v (.int .i64 r.2.2)]) := by
  unfold Sh.answer_Read at h
  refine fn_okG Try.func11 rfl (Nat.le_of_ble_eq_true rfl) rfl rfl fun g0 hn hio => ?_
  refine ht_seq ?_
  refine ht_seqR hn (El := [_, _, (2, .box 24 [.v (.int .i64 0), .v (.slice none 0 0)]), (3, .v (.int .i64 0)), (4, .v (.int .i64 0))]) (init := [0, 1]) (fin := [0, 1, 2, 3]) (sps := [⟨[], [], [2], [(.slot 2)]⟩, ⟨[], [], [3], [(.slot 3)]⟩, ⟨[], [], [4], [(.slot 4)]⟩]) (es' := [(_, _), (_, _), (2, .box 24 [.v (.int .i64 0), .v (.slice none 0 0)]), (3, .v (.int .i64 0))]) (by kernel_rfl) rfl rfl
   ⟨st_plain rfl (op_alloc _ _ zr24),
   st_plain rfl (op_assign _ _ _ _ rfl rfl),
   st_plain rfl (op_assign _ _ _ _ rfl rfl),
   trivial⟩ ?_
  refine pt_then ?_
  refine ht_seq ?_
  refine ht_sub (fs := [(0, .fl .shr 1 (List.map (Value.int .u8) b)), (76, .glob (GL mx)), (2, .box 24 [.v (.int .i64 0), .fl (.own 9) 1 (List.map Value.string [])]), (3, .v (.int .i64 0))]) (.same _ (.same _ (.box _ _ (subs_cons (sub_refl _) (subs_cons (sub_nil 9 1) (subs_nil))) rfl (.same _ .nil)))) ?_
  refine ht_loopS h (fun ((s43, s44, s45) : Int × (List ByteArray) × Int) => [(0, .fl .shr 1 (List.map (Value.int .u8) b)), (76, .glob (GL mx)), (2, .box 24 [.v (.int .i64 s43), .fl (.own 9) 1 (List.map Value.string s44)]), (3, .v (.int .i64 s45))]) (fun ((s59, s60) : Int × (List ByteArray)) => [(76, .glob (GL mx)), (2, .box 24 [.v (.int .i64 s59), .fl (.own 9) 1 (List.map Value.string s60)])]) ?_ ?_
  ·rintro ⟨s59, s60⟩ h
   refine pt_then ?_
   refine ht_seq ?_
   refine ht_seqR hn (El := [_, _, (75, .agg [.v (.int .i64 0), .v (.slice none 0 0)]), (2, .box 24 [.v (.int .i64 0), .v (.slice none 0 0)]), (3, .v (.int .i64 0)), (4, .v (.int .i64 3))]) (init := [0, 1]) (fin := [0, 3, 4, 5]) (sps := [⟨[], [], [2], [(.slot 75)]⟩, ⟨[2], [1], [3], [.cell 2 0, .cell 2 1]⟩, ⟨[], [], [4], [(.slot 3)]⟩, ⟨[], [], [5], [(.slot 4)]⟩]) (es' := [(_, _), (2, .box 24 [.v (.int .i64 0), .v (.slice none 0 0)]), (3, .v (.int .i64 0)), (4, .v (.int .i64 3))]) (by kernel_rfl) rfl rfl
    ⟨st_plain rfl (op_build _ _ _ _ [1, 1] _ _ Try.underlying24 zr24 (fs24 _ Try.underlying24) Src.nil rfl rfl rfl),
    st_plain rfl (op_store _ _ _ _ _ _ _ _ sz24 rfl rfl rfl rfl (Nat.le_of_ble_eq_true rfl) rfl rfl),
    st_plain rfl (op_assign _ _ _ _ rfl rfl),
    st_plain rfl (op_assign _ _ _ _ rfl rfl),
    trivial⟩ ?_
   refine pt_then ?_
   refine ht_ret ?_
   refine pt_pick [1, 2, 3] (by kernel_rfl) (es' := [(_, _), (_, _), (_, _)]) rfl ?_
   refine pt_sub (fs := [(2, .box 24 [.v (.int .i64 0), .fl (.own 9) 1 (List.map Value.string [])]), (3, .v (.int .i64 0)), (4, .v (.int .i64 3))]) (.box _ _ (subs_cons (sub_refl _) (subs_cons (sub_nil 9 1) (subs_nil))) rfl (.same _ (.same _ .nil))) ?_
   obtain rfl := Option.some.inj h
   exact pt_ret hio rfl (.cellA _ _ _ _ Try.underlying24 rfl sz24 (.tmp _ _ (.tmp _ _ .nil))) rfl rfl
  ·rintro u61 hl62 hr63 ⟨s43, s44, s45⟩ rr66 h ho64
   refine ht_seq ?_
   refine ht_seq ?_
   refine ht_seqR hn (El := [_, _, _, _, (10, .ptr 2 1), (11, .same (.cell 2 1)), (12, .v (.int .i64 (s44.length : Int))), (13, .v (.bool ((decide ((s44.length : Int) < 20)))))]) (init := [0, 1, 2, 3]) (fin := [0, 1, 2, 3, 7]) (sps := [⟨[2], [], [4], [(.slot 10)]⟩, ⟨[4, 2], [], [5], [(.slot 11)]⟩, ⟨[5, 2], [], [6], [(.slot 12)]⟩, ⟨[6], [], [7], [(.slot 13)]⟩]) (es' := [(_, _), (_, _), (_, _), (_, _), (13, .v (.bool ((decide ((s44.length : Int) < 20)))))]) (by kernel_rfl) rfl rfl
    ⟨st_plain rfl (op_fieldAddr _ _ _ _ 2 0 _ Try.underlying24 rfl sz22 rfl rfl (by decide)),
    st_plain rfl (op_load _ _ _ _ _ _ Try.underlying22 rfl rfl rfl (Nat.le_of_ble_eq_true rfl) rfl rfl rfl),
    st_plain rfl (op_len_fl _ _ _ Try.underlying22 rfl (by decide) (map_len _)),
    st_plain rfl (op_bin _ _ _ _ _ rfl rfl rfl),
    trivial⟩ ?_
   refine pt_then ?_
   refine ht_cond _ rfl (fun hb67 => ?_) (fun hb67 => ?_)
   ·have h := cond_t hb67 h
    refine ht_skip ?_
    refine pt_then ?_
    refine ht_block ?_
    refine ht_seq ?_
    obtain ⟨v2, hv2, h⟩ := bind_some h
    obtain ⟨v3, hv3, h⟩ := bind_some h
    refine ht_seqR hn (El := [_, _, _, _, _, (14, .fl .shr 1 (List.map (Value.int .u8) b)), (15, .v (.int .i64 s45)), (16, .fl .shr 1 (List.map (Value.int .u8) v2)), (17, .fl (.own 5) 1 (List.map (Value.int .u8) [13, 10])), (18, .fl .ro 1 (List.map (Value.int .u8) [13, 10])), (19, .v (.int .i64 v3)), (5, .v (.int .i64 v3))]) (init := [0, 1, 2, 3, 4]) (fin := [0, 1, 2, 3, 11]) (sps := [⟨[0], [], [5], [(.slot 14)]⟩, ⟨[3], [], [6], [(.slot 15)]⟩, ⟨[5, 6], [], [7], [(.slot 16)]⟩, ⟨[], [], [8], [(.slot 17)]⟩, ⟨[], [8], [9], [(.slot 18)]⟩, ⟨[7, 9, 1], [], [10], [(.slot 19)]⟩, ⟨[10], [], [11], [(.slot 5)]⟩]) (es' := [(_, _), (_, _), (_, _), (_, _), (5, .v (.int .i64 v3))]) (by kernel_rfl) rfl rfl
     ⟨st_plain rfl (op_move _ _ _ _ rfl rfl),
     st_plain rfl (op_move _ _ _ _ rfl rfl),
     st_plain rfl (op_sl _ _ _ s45 (b.length : Int) _ Try.underlying25 sz5 rfl rfl ⟨_, rfl⟩ rfl hv2),
     st_plain rfl (op_buildSlice _ _ 1 (.int .u8 0) (List.map (Value.int .u8) [13, 10]) [(0, .int .u8 13), (1, .int .u8 10)] Try.underlying25 sz5 zr5 (fun _ V w o a hv hes => by simp only [List.map_toArray, List.map_cons, List.map_nil]; try rfl) (litfill (by simp [Instr.fill, Value.cells]; rfl) (by simp [List.range, List.range.loop])) (by simp [Value.oneCell']) rfl (by decide) (by decide) (by decide)),
     st_plain rfl (op_conv_mark _ _ _ Try.underlying25 Try.underlying5 (by intro h; cases h)),
     st_plain rfl (op_callG _ _ 76 21 _ _ rfl Try.call21 rfl rfl (fun _ h => h) (ok_bytes_Index mx v2 [13, 10] _ hv3) rfl rfl),
     st_plain rfl (op_assign _ _ _ _ rfl rfl),
     trivial⟩ ?_
    refine pt_then ?_
    refine ht_seq ?_
    refine ht_seq ?_
    refine ht_seqR hn (El := [_, _, _, _, _, (20, .v (.int .i64 v3)), (21, .v (.bool ((decide (v3 < 4)))))]) (init := [0, 1, 2, 3, 4]) (fin := [0, 1, 2, 3, 4, 6]) (sps := [⟨[4], [], [5], [(.slot 20)]⟩, ⟨[5], [], [6], [(.slot 21)]⟩]) (es' := [(_, _), (_, _), (_, _), (_, _), (_, _), (21, .v (.bool ((decide (v3 < 4)))))]) (by kernel_rfl) rfl rfl
     ⟨st_plain rfl (op_move _ _ _ _ rfl rfl),
     st_plain rfl (op_bin _ _ _ _ _ rfl rfl rfl),
     trivial⟩ ?_
    refine pt_then ?_
    refine ht_cond _ rfl (fun hb68 => ?_) (fun hb68 => ?_)
    ·have h := cond_t hb68 h
     refine ht_exit ?_
     refine pt_x_then ?_
     refine pt_x_out (by decide) ?_
     refine pt_x_then ?_
     refine pt_x_in ?_
     refine pt_pick [1, 2] (by kernel_rfl) (es' := [(_, _), (_, _)]) rfl ?_
     exact hl62 _ (ho64 _ (Option.some.inj h).symm).symm
    ·have h := cond_f hb68 h
     refine ht_skip ?_
     refine pt_then ?_
     refine ht_seq ?_
     obtain ⟨v5, hv5, h⟩ := bind_some h
     obtain ⟨v6, hv6, h⟩ := bind_some h
     refine ht_seqR hn (El := [_, _, _, _, _, _, (22, .fl .shr 1 (List.map (Value.int .u8) b)), (23, .v (.int .i64 s45)), (24, .v (.int .i64 s45)), (25, .v (.int .i64 v3)), (26, .v (.int .i64 v5)), (27, .fl .shr 1 (List.map (Value.int .u8) v6)), (6, .fl .shr 1 (List.map (Value.int .u8) v6))]) (init := [0, 1, 2, 3, 4, 5]) (fin := [0, 1, 2, 3, 4, 12]) (sps := [⟨[0], [], [6], [(.slot 22)]⟩, ⟨[3], [], [7], [(.slot 23)]⟩, ⟨[3], [], [8], [(.slot 24)]⟩, ⟨[4], [], [9], [(.slot 25)]⟩, ⟨[8, 9], [], [10], [(.slot 26)]⟩, ⟨[6, 7, 10], [], [11], [(.slot 27)]⟩, ⟨[11], [], [12], [(.slot 6)]⟩]) (es' := [(_, _), (_, _), (_, _), (_, _), (_, _), (6, .fl .shr 1 (List.map (Value.int .u8) v6))]) (by kernel_rfl) rfl rfl
      ⟨st_plain rfl (op_move _ _ _ _ rfl rfl),
      st_plain rfl (op_move _ _ _ _ rfl rfl),
      st_plain rfl (op_move _ _ _ _ rfl rfl),
      st_plain rfl (op_move _ _ _ _ rfl rfl),
      st_plain rfl (op_bin _ _ _ _ _ rfl rfl (ibind (f := Value.int .i64) (Option.some.inj hv5))),
      st_plain rfl (op_sl _ _ _ s45 v5 _ Try.underlying25 sz5 rfl rfl ⟨_, rfl⟩ ⟨_, rfl⟩ hv6),
      st_plain rfl (op_assign _ _ _ _ rfl rfl),
      trivial⟩ ?_
     refine pt_then ?_
     refine ht_seq ?_
     obtain ⟨v7, hv7, h⟩ := bind_some h
     obtain ⟨v8, hv8, h⟩ := bind_some h
     refine ht_seqR hn (El := [_, _, _, _, _, _, (28, .v (.int .i64 s45)), (29, .v (.int .i64 v3)), (30, .v (.int .i64 v7)), (31, .v (.int .i64 v8)), (3, .v (.int .i64 v8))]) (init := [0, 1, 2, 3, 4, 5]) (fin := [0, 1, 2, 5, 10]) (sps := [⟨[3], [], [6], [(.slot 28)]⟩, ⟨[4], [], [7], [(.slot 29)]⟩, ⟨[7], [], [8], [(.slot 30)]⟩, ⟨[6, 8], [], [9], [(.slot 31)]⟩, ⟨[9], [3], [10], [(.slot 3)]⟩]) (es' := [(_, _), (_, _), (_, _), (_, _), (3, .v (.int .i64 v8))]) (by kernel_rfl) rfl rfl
      ⟨st_plain rfl (op_move _ _ _ _ rfl rfl),
      st_plain rfl (op_move _ _ _ _ rfl rfl),
      st_plain rfl (op_bin _ _ _ _ _ rfl rfl (ibind (f := Value.int .i64) (Option.some.inj hv7))),
      st_plain rfl (op_bin _ _ _ _ _ rfl rfl (ibind (f := Value.int .i64) (Option.some.inj hv8))),
      st_plain rfl (LOp.drop [_] (op_assign _ _ _ _ rfl rfl)),
      trivial⟩ ?_
     refine pt_then ?_
     refine ht_seq ?_
     obtain ⟨v9, hv9, h⟩ := bind_some h
     refine ht_seqR hn (El := [_, _, _, _, _, (33, .fl .shr 1 (List.map (Value.int .u8) v6)), (34, .tup [.v (.int .i64 v9.1), .v (.bool v9.2)]), (32, .tup [.v (.int .i64 v9.1), .v (.bool v9.2)]), (35, .v (.int .i64 v9.1)), (36, .v (.bool v9.2)), (7, .v (.int .i64 v9.1)), (8, .v (.bool v9.2))]) (init := [0, 1, 2, 3, 4]) (fin := [0, 1, 2, 3, 4, 10, 11]) (sps := [⟨[3], [], [5], [(.slot 33)]⟩, ⟨[5], [], [6], [(.slot 34)]⟩, ⟨[], [6], [7], [(.slot 32)]⟩, ⟨[7], [], [8], [(.slot 35)]⟩, ⟨[7], [], [9], [(.slot 36)]⟩, ⟨[8], [], [10], [(.slot 7)]⟩, ⟨[9], [], [11], [(.slot 8)]⟩]) (es' := [(_, _), (_, _), (_, _), (_, _), (_, _), (7, .v (.int .i64 v9.1)), (8, .v (.bool v9.2))]) (by kernel_rfl) rfl rfl
      ⟨st_plain rfl (op_move _ _ _ _ rfl rfl),
      st_plain rfl (op_call _ _ 22 _ _ rfl Try.call22 rfl (ok_answer_number v6 _ hv9) rfl rfl),
      st_plain rfl (op_move_take _ _ _ _ rfl),
      st_plain rfl (op_extract _ _ _ _ _ rfl rfl (Nat.le_of_ble_eq_true rfl) rfl rfl),
      st_plain rfl (op_extract _ _ _ _ _ rfl rfl (Nat.le_of_ble_eq_true rfl) rfl rfl),
      st_plain rfl (op_assign _ _ _ _ rfl rfl),
      st_plain rfl (op_assign _ _ _ _ rfl rfl),
      trivial⟩ ?_
     refine pt_then ?_
     refine ht_seq ?_
     refine ht_seq ?_
     refine ht_joinS h (fun (s69 : Bool) => [(0, .fl .shr 1 (List.map (Value.int .u8) b)), (76, .glob (GL mx)), (2, .box 24 [.v (.int .i64 s43), .fl (.own 9) 1 (List.map Value.string s44)]), (6, .fl .shr 1 (List.map (Value.int .u8) v6)), (3, .v (.int .i64 v8)), (7, .v (.int .i64 v9.1)), (50, .v (.bool s69))]) ?_ ?_
     ·rintro s69 h
      refine pt_then ?_
      refine ht_cond _ rfl (fun hb73 => ?_) (fun hb73 => ?_)
      ·have h := cond_t hb73 h
       refine ht_exit ?_
       refine pt_x_then ?_
       refine pt_x_out (by decide) ?_
       refine pt_x_then ?_
       refine pt_x_in ?_
       refine pt_pick [1, 2] (by kernel_rfl) (es' := [(_, _), (_, _)]) rfl ?_
       exact hl62 _ (ho64 _ (Option.some.inj h).symm).symm
      ·have h := cond_f hb73 h
       refine ht_skip ?_
       refine pt_then ?_
       refine ht_seq ?_
       refine ht_seqR hn (El := [_, _, _, _, _, _, _, (51, .v (.int .i64 v9.1)), (52, .ptr 2 0), (2, .box 24 [.v (.int .i64 v9.1), .fl (.own 9) 1 (List.map Value.string s44)])]) (init := [0, 1, 2, 3, 4, 5, 6]) (fin := [0, 1, 9, 3, 4]) (sps := [⟨[5], [], [7], [(.slot 51)]⟩, ⟨[2], [], [8], [(.slot 52)]⟩, ⟨[8, 7], [2], [9], [.cell 2 0]⟩]) (es' := [(_, _), (_, _), (2, .box 24 [.v (.int .i64 v9.1), .fl (.own 9) 1 (List.map Value.string s44)]), (_, _), (_, _)]) (by kernel_rfl) rfl rfl
        ⟨st_plain rfl (op_move _ _ _ _ rfl rfl),
        st_plain rfl (op_fieldAddr _ _ _ _ 2 0 _ Try.underlying24 rfl sz3 rfl rfl (by decide)),
        st_plain rfl (op_store _ _ _ _ _ _ _ _ sz3 rfl rfl rfl rfl (Nat.le_of_ble_eq_true rfl) rfl rfl),
        trivial⟩ ?_
       refine pt_then ?_
       refine ht_seq ?_
       obtain ⟨v15, hv15, h⟩ := bind_some h
       obtain ⟨v16, hv16, h⟩ := bind_some h
       obtain ⟨v17, hv17, h⟩ := bind_some h
       refine ht_anyR (by kernel_rfl) hn (El := (_ :: _ :: _ :: _ :: _ :: (53, .ptr 2 1) :: (54, .same (.cell 2 1)) :: (55, .fl .shr 1 (List.map (Value.int .u8) v6)) :: (56, .fl .shr 1 (List.map (Value.int .u8) v15)) :: (57, .v (.string v16)) :: (58, .fl (.own 9) 1 (List.map Value.string [v16])) :: (59, .fl (.own 9) 1 (List.map Value.string v17)) :: (2, .box 24 [.v (.int .i64 v9.1), .any]) :: (60, .ptr 2 1) :: (2, .box 24 [.v (.int .i64 v9.1), .fl (.own 9) 1 (List.map Value.string v17)]) :: [])) (init := [0, 1, 2, 3, 4]) (fin := [0, 1, 14, 3, 4]) (sps := [⟨[2], [], [5], [(.slot 53)]⟩, ⟨[5, 2], [], [6], [(.slot 54)]⟩, ⟨[3], [], [7], [(.slot 55)]⟩, ⟨[7], [], [8], [(.slot 56)]⟩, ⟨[8], [], [9], [(.slot 57)]⟩, ⟨[9], [], [10], [(.slot 58)]⟩, ⟨[6, 10], [2], [12, 11], [(.slot 59)]⟩, ⟨[12], [], [13], [(.slot 60)]⟩, ⟨[13], [6, 11, 12], [14], [.cell 2 1]⟩]) (es' := [(_, _), (_, _), (2, .box 24 [.v (.int .i64 v9.1), .fl (.own 9) 1 (List.map Value.string v17)]), (_, _), (_, _)]) (by kernel_rfl) rfl rfl
        ⟨st_plain rfl (op_fieldAddr _ _ _ _ 2 0 _ Try.underlying24 rfl sz22 rfl rfl (by decide)),
        st_plain rfl (op_load _ _ _ _ _ _ Try.underlying22 rfl rfl rfl (Nat.le_of_ble_eq_true rfl) rfl rfl rfl),
        st_plain rfl (op_move _ _ _ _ rfl rfl),
        st_plain rfl (op_sl _ _ _ 4 (v6.length : Int) _ Try.underlying25 sz5 rfl rfl ⟨_, rfl⟩ rfl hv15),
        st_plain rfl ((Option.some.inj hv16) ▸ op_bytes_str _ _ _ v15 Try.underlying25 Try.underlying9 Try.underlying5 rfl),
        st_plain rfl (op_buildSlice _ _ 1 (.string ByteArray.empty) (List.map Value.string [v16]) [(0, .string v16)] Try.underlying22 sz9 zr9 (fun _ V w o a hv hes => by have e0 := rd_v hv hes (x := .tmp 57) rfl; simp only [List.map_toArray, List.map_cons, List.map_nil, e0]; try rfl) (litfill (by simp [Instr.fill, Value.cells]; rfl) (by simp [List.range, List.range.loop])) (by simp [Value.oneCell']) rfl (by decide) (by decide) (by decide)),
        st_plain rfl (op_app_cell _ _ _ _ _ _ el22 rfl rfl (Nat.le_of_ble_eq_true rfl) rfl (map_len _) (map_len _) hv17 ((List.map_append).symm.trans (congrArg (List.map _) (app_eq hv17))) (by decide) rfl rfl),
        st_plain rfl (op_fieldAddr _ _ _ _ 2 0 _ Try.underlying24 rfl sz22 rfl rfl (by decide)),
        st_plain rfl (LOp.drop [_] (op_store_take _ _ _ _ _ _ _ _ sz22 rfl rfl rfl (Nat.le_of_ble_eq_true rfl) rfl rfl)),
        trivial⟩ ?_
       refine pt_then ?_
       refine ht_seq ?_
       obtain ⟨v18, hv18, h⟩ := bind_some h
       obtain ⟨v19, hv19, h⟩ := bind_some h
       refine ht_seqR hn (El := [_, _, _, _, _, (61, .fl .shr 1 (List.map (Value.int .u8) v6)), (62, .eref (.slot 61) (v18 * 1)), (63, .v (.int .u8 v19)), (9, .v (.int .u8 v19))]) (init := [0, 1, 2, 3, 4]) (fin := [0, 1, 2, 4, 8]) (sps := [⟨[3], [], [5], [(.slot 61)]⟩, ⟨[5], [], [6], [(.slot 62)]⟩, ⟨[6, 5], [], [7], [(.slot 63)]⟩, ⟨[7], [], [8], [(.slot 9)]⟩]) (es' := [(_, _), (_, _), (_, _), (_, _), (9, .v (.int .u8 v19))]) (by kernel_rfl) rfl rfl
        ⟨st_plain rfl (op_move _ _ _ _ rfl rfl),
        st_plain rfl (op_ix _ _ _ _ _ _ _ _ Try.underlying25 sz5 (by decide) rfl rfl rfl (ix_ok hv18).1 (map_lt (ix_ok hv18).2) rfl),
        st_plain rfl (op_load_e _ _ _ _ _ _ Try.underlying5 rfl rfl rfl (map_get hv19)),
        st_plain rfl (op_assign _ _ _ _ rfl rfl),
        trivial⟩ ?_
       refine pt_then ?_
       refine ht_seq ?_
       refine ht_seq ?_
       refine ht_joinS h (fun (s74 : Bool) => [(0, .fl .shr 1 (List.map (Value.int .u8) b)), (76, .glob (GL mx)), (2, .box 24 [.v (.int .i64 v9.1), .fl (.own 9) 1 (List.map Value.string v17)]), (3, .v (.int .i64 v8)), (9, .v (.int .u8 v19)), (70, .v (.bool s74))]) ?_ ?_
       ·rintro s74 h
        refine pt_then ?_
        refine ht_cond _ rfl (fun hb78 => ?_) (fun hb78 => ?_)
        ·have h := cond_t hb78 h
         refine ht_seq ?_
         refine ht_seqR hn (El := [_, _, _, _, _, _, (71, .agg [.v (.int .i64 v9.1), .same (.cell 2 1)]), (72, .v (.int .i64 v8)), (2, .box 24 [.v (.int .i64 v9.1), .fl (.own 9) 1 (List.map Value.string v17)]), (3, .v (.int .i64 v8)), (4, .v (.int .i64 0))]) (init := [0, 1, 2, 3, 4, 5]) (fin := [1, 8, 9, 10]) (sps := [⟨[2], [], [6], [(.slot 71)]⟩, ⟨[3], [], [7], [(.slot 72)]⟩, ⟨[], [6, 2], [8], [.cell 2 0, .cell 2 1]⟩, ⟨[7], [3], [9], [(.slot 3)]⟩, ⟨[], [], [10], [(.slot 4)]⟩]) (es' := [(_, _), (2, .box 24 [.v (.int .i64 v9.1), .fl (.own 9) 1 (List.map Value.string v17)]), (3, .v (.int .i64 v8)), (4, .v (.int .i64 0))]) (by kernel_rfl) rfl rfl
          ⟨st_plain rfl (op_loadA _ _ _ _ _ _ _ Try.underlying24 rfl sz24 rfl rfl (Nat.le_of_ble_eq_true rfl) rfl rfl),
          st_plain rfl (op_move _ _ _ _ rfl rfl),
          st_plain rfl (op_store_self _ _ _ 71 2 2 sz24 rfl rfl rfl rfl rfl (.eq _ (.same _ (.nil _))) rfl),
          st_plain rfl (LOp.drop [_] (op_assign _ _ _ _ rfl rfl)),
          st_plain rfl (op_assign _ _ _ _ rfl rfl),
          trivial⟩ ?_
         refine pt_then ?_
         refine ht_ret ?_
         refine pt_pick [1, 2, 3] (by kernel_rfl) (es' := [(_, _), (_, _), (_, _)]) rfl ?_
         refine pt_r_then ?_
         refine pt_r_in ?_
         refine pt_r_then ?_
         refine pt_r_in ?_
         refine pt_r_then ?_
         have h := hr63 _ (ho64 _ (Option.some.inj h).symm).symm
         obtain rfl := Option.some.inj h
         exact pt_ret hio rfl (.cellA _ _ _ _ Try.underlying24 rfl sz24 (.tmp _ _ (.tmp _ _ .nil))) rfl rfl
        ·have h := cond_f hb78 h
         refine ht_skip ?_
         refine pt_then ?_
         refine ht_seq ?_
         refine ht_seqR hn (El := [_, _, _, _, _, _, (73, .v (.int .u8 v19)), (74, .v (.bool (v19 != 45)))]) (init := [0, 1, 2, 3, 4, 5]) (fin := [0, 1, 2, 3, 7]) (sps := [⟨[4], [], [6], [(.slot 73)]⟩, ⟨[6], [], [7], [(.slot 74)]⟩]) (es' := [(_, _), (_, _), (_, _), (_, _), (74, .v (.bool (v19 != 45)))]) (by kernel_rfl) rfl rfl
          ⟨st_plain rfl (op_move _ _ _ _ rfl rfl),
          st_plain rfl (op_bin _ _ _ _ _ rfl rfl rfl),
          trivial⟩ ?_
         refine pt_then ?_
         refine ht_cond _ rfl (fun hb79 => ?_) (fun hb79 => ?_)
         ·have h := cond_t hb79 h
          refine ht_exit ?_
          refine pt_x_out (by decide) ?_
          refine pt_x_then ?_
          refine pt_x_in ?_
          refine pt_pick [1, 2] (by kernel_rfl) (es' := [(_, _), (_, _)]) rfl ?_
          exact hl62 _ (ho64 _ (Option.some.inj h).symm).symm
         ·have h := cond_f hb79 h
          refine ht_skip ?_
          refine pt_inb ?_
          refine pt_pick [0, 1, 2, 3] (by kernel_rfl) (es' := [(_, _), (_, _), (_, _), (_, _)]) rfl ?_
          exact pt_next _ (Option.some.inj h).symm rfl
       ·intro u75 h hl76 hr77
        refine cond_some h (fun hg11_2 h => ?_) (fun hg11_2 h => ?_)
        ·obtain ⟨v20, hv20, h⟩ := bind_some h
         refine ht_seqR hn (El := [_, _, _, _, _, (64, .v (.int .u8 v19)), (65, .v (.bool (v19 == 32))), (66, .v (.bool true)), (67, .agg [.v (.int .i64 v9.1), .same (.cell 2 1)]), (68, .v (.int .i64 v20)), (69, .v (.bool (v20 == 0))), (70, .v (.bool (v20 == 0)))]) (init := [0, 1, 2, 3, 4]) (fin := [0, 1, 2, 3, 4, 11]) (sps := [⟨[4], [], [5], [(.slot 64)]⟩, ⟨[5], [], [6], [(.slot 65)]⟩, ⟨[6], [], [7], [(.slot 66)]⟩, ⟨[7, 2], [], [8], [(.slot 67)]⟩, ⟨[7, 8, 2], [], [9], [(.slot 68)]⟩, ⟨[7, 9], [], [10], [(.slot 69)]⟩, ⟨[7, 10], [], [11], [(.slot 70)]⟩]) (es' := [(_, _), (_, _), (_, _), (_, _), (_, _), (70, .v (.bool (v20 == 0)))]) (by kernel_rfl) rfl rfl
          ⟨st_plain rfl (op_move _ _ _ _ rfl rfl),
          st_plain rfl (op_bin _ _ _ _ _ rfl rfl rfl),
          st_plain rfl (op_move _ _ _ _ (congrArg (fun b => AV.v (Value.bool b)) hg11_2) rfl),
          st_run 2 66 true rfl rfl rfl (List.Mem.head _) (op_loadA _ _ _ _ _ _ _ Try.underlying24 rfl sz24 rfl rfl (Nat.le_of_ble_eq_true rfl) rfl rfl),
          st_run 2 66 true rfl rfl rfl (List.Mem.head _) (op_call _ _ 14 _ _ rfl Try.call14 rfl (ok_answer_Check (T_Reply.mk v9.1 v17) _ hv20) rfl rfl),
          st_run 2 66 true rfl rfl rfl (List.Mem.head _) (op_bin _ _ _ _ _ rfl rfl rfl),
          st_plain rfl (op_pick _ _ true _ rfl rfl),
          trivial⟩ ?_
         exact hl76 _ (Option.some.inj h).symm
        ·refine ht_seqR hn (El := [_, _, _, _, _, (64, .v (.int .u8 v19)), (65, .v (.bool (v19 == 32))), (66, .v (.bool false)), (67, .v undef), (68, .v undef), (69, .v undef), (70, .v (.bool false))]) (init := [0, 1, 2, 3, 4]) (fin := [0, 1, 2, 3, 4, 11]) (sps := [⟨[4], [], [5], [(.slot 64)]⟩, ⟨[5], [], [6], [(.slot 65)]⟩, ⟨[6], [], [7], [(.slot 66)]⟩, ⟨[7], [], [8], [(.slot 67)]⟩, ⟨[7], [], [9], [(.slot 68)]⟩, ⟨[7], [], [10], [(.slot 69)]⟩, ⟨[7], [], [11], [(.slot 70)]⟩]) (es' := [(_, _), (_, _), (_, _), (_, _), (_, _), (70, .v (.bool false))]) (by kernel_rfl) rfl rfl
          ⟨st_plain rfl (op_move _ _ _ _ rfl rfl),
          st_plain rfl (op_bin _ _ _ _ _ rfl rfl rfl),
          st_plain rfl (op_move _ _ _ _ (congrArg (fun b => AV.v (Value.bool b)) hg11_2) rfl),
          st_skip 2 66 _ true rfl rfl rfl rfl (List.Mem.head _),
          st_skip 2 66 _ true rfl rfl rfl rfl (List.Mem.head _),
          st_skip 2 66 _ true rfl rfl rfl rfl (List.Mem.head _),
          st_plain rfl (op_pick _ _ false _ rfl rfl),
          trivial⟩ ?_
         exact hl76 _ (Option.some.inj h).symm
     ·intro u70 h hl71 hr72
      refine cond_some h (fun hg7_2 h => ?_) (fun hg7_2 h => ?_)
      ·refine ht_seqR hn (El := (_ :: _ :: _ :: _ :: _ :: _ :: _ :: (37, .v (.bool v9.2)) :: (38, .v (.bool (!v9.2))) :: (39, .v (.bool true)) :: (40, .v undef) :: (41, .v undef) :: (42, .v undef) :: (43, .v undef) :: (44, .v undef) :: (45, .v undef) :: (46, .v undef) :: (47, .v undef) :: (48, .v undef) :: (49, .v undef) :: (50, .v (.bool true)) :: [])) (init := [0, 1, 2, 3, 4, 5, 6]) (fin := [0, 1, 2, 3, 4, 5, 20]) (sps := [⟨[6], [], [7], [(.slot 37)]⟩, ⟨[7], [], [8], [(.slot 38)]⟩, ⟨[8], [], [9], [(.slot 39)]⟩, ⟨[9], [], [10], [(.slot 40)]⟩, ⟨[9], [], [11], [(.slot 41)]⟩, ⟨[9], [], [12], [(.slot 42)]⟩, ⟨[9], [], [13], [(.slot 43)]⟩, ⟨[9], [], [14], [(.slot 44)]⟩, ⟨[14], [], [15], [(.slot 45)]⟩, ⟨[14], [], [16], [(.slot 46)]⟩, ⟨[14], [], [17], [(.slot 47)]⟩, ⟨[14], [], [18], [(.slot 48)]⟩, ⟨[9], [], [19], [(.slot 49)]⟩, ⟨[9], [], [20], [(.slot 50)]⟩]) (es' := [(_, _), (_, _), (_, _), (_, _), (_, _), (_, _), (50, .v (.bool true))]) (by kernel_rfl) rfl rfl
        ⟨st_plain rfl (op_move _ _ _ _ rfl rfl),
        st_plain rfl (op_un _ _ _ _ rfl rfl),
        st_plain rfl (op_move _ _ _ _ (congrArg (fun b => AV.v (Value.bool b)) hg7_2) rfl),
        st_skip 2 39 _ false rfl rfl rfl rfl (List.Mem.head _),
        st_skip 2 39 _ false rfl rfl rfl rfl (List.Mem.head _),
        st_skip 2 39 _ false rfl rfl rfl rfl (List.Mem.head _),
        st_skip 2 39 _ false rfl rfl rfl rfl (List.Mem.head _),
        st_skip 2 39 _ false rfl rfl rfl rfl (List.Mem.head _),
        st_skipU 7 44 _ true rfl rfl rfl rfl (List.Mem.head _),
        st_skipU 7 44 _ true rfl rfl rfl rfl (List.Mem.head _),
        st_skipU 7 44 _ true rfl rfl rfl rfl (List.Mem.head _),
        st_skipU 7 44 _ true rfl rfl rfl rfl (List.Mem.head _),
        st_skip 2 39 _ false rfl rfl rfl rfl (List.Mem.head _),
        st_plain rfl (op_pick _ _ true _ rfl rfl),
        trivial⟩ ?_
       exact hl71 _ (Option.some.inj h).symm
      ·refine cond_some h (fun hg7_7 h => ?_) (fun hg7_7 h => ?_)
       ·refine ht_seqR hn (El := (_ :: _ :: _ :: _ :: _ :: _ :: _ :: (37, .v (.bool v9.2)) :: (38, .v (.bool (!v9.2))) :: (39, .v (.bool false)) :: (40, .ptr 2 1) :: (41, .same (.cell 2 1)) :: (42, .v (.int .i64 (s44.length : Int))) :: (43, .v (.bool ((decide (0 < (s44.length : Int)))))) :: (44, .v (.bool true)) :: (45, .v (.int .i64 v9.1)) :: (46, .ptr 2 0) :: (47, .v (.int .i64 s43)) :: (48, .v (.bool (v9.1 != s43))) :: (49, .v (.bool (v9.1 != s43))) :: (50, .v (.bool (v9.1 != s43))) :: [])) (init := [0, 1, 2, 3, 4, 5, 6]) (fin := [0, 1, 2, 3, 4, 5, 20]) (sps := [⟨[6], [], [7], [(.slot 37)]⟩, ⟨[7], [], [8], [(.slot 38)]⟩, ⟨[8], [], [9], [(.slot 39)]⟩, ⟨[9, 2], [], [10], [(.slot 40)]⟩, ⟨[9, 10, 2], [], [11], [(.slot 41)]⟩, ⟨[9, 11, 2], [], [12], [(.slot 42)]⟩, ⟨[9, 12], [], [13], [(.slot 43)]⟩, ⟨[9, 13], [], [14], [(.slot 44)]⟩, ⟨[14, 5], [], [15], [(.slot 45)]⟩, ⟨[14, 2], [], [16], [(.slot 46)]⟩, ⟨[14, 16, 2], [], [17], [(.slot 47)]⟩, ⟨[14, 15, 17], [], [18], [(.slot 48)]⟩, ⟨[9, 14, 18], [], [19], [(.slot 49)]⟩, ⟨[9, 19], [], [20], [(.slot 50)]⟩]) (es' := [(_, _), (_, _), (_, _), (_, _), (_, _), (_, _), (50, .v (.bool (v9.1 != s43)))]) (by kernel_rfl) rfl rfl
         ⟨st_plain rfl (op_move _ _ _ _ rfl rfl),
         st_plain rfl (op_un _ _ _ _ rfl rfl),
         st_plain rfl (op_move _ _ _ _ (congrArg (fun b => AV.v (Value.bool b)) hg7_2) rfl),
         st_run 2 39 false rfl rfl rfl (List.Mem.head _) (op_fieldAddr _ _ _ _ 2 0 _ Try.underlying24 rfl sz22 rfl rfl (by decide)),
         st_run 2 39 false rfl rfl rfl (List.Mem.head _) (op_load _ _ _ _ _ _ Try.underlying22 rfl rfl rfl (Nat.le_of_ble_eq_true rfl) rfl rfl rfl),
         st_run 2 39 false rfl rfl rfl (List.Mem.head _) (op_len_fl _ _ _ Try.underlying22 rfl (by decide) (map_len _)),
         st_run 2 39 false rfl rfl rfl (List.Mem.head _) (op_bin _ _ _ _ _ rfl rfl rfl),
         st_run 2 39 false rfl rfl rfl (List.Mem.head _) (op_move _ _ _ _ (congrArg (fun b => AV.v (Value.bool b)) hg7_7) rfl),
         st_run 7 44 true rfl rfl rfl (List.Mem.head _) (op_move _ _ _ _ rfl rfl),
         st_run 7 44 true rfl rfl rfl (List.Mem.head _) (op_fieldAddr _ _ _ _ 2 0 _ Try.underlying24 rfl sz3 rfl rfl (by decide)),
         st_run 7 44 true rfl rfl rfl (List.Mem.head _) (op_load _ _ _ _ _ _ Try.underlying3 rfl rfl rfl (Nat.le_of_ble_eq_true rfl) rfl rfl rfl),
         st_run 7 44 true rfl rfl rfl (List.Mem.head _) (op_bin _ _ _ _ _ rfl rfl rfl),
         st_run 2 39 false rfl rfl rfl (List.Mem.head _) (op_pick _ _ true _ rfl rfl),
         st_plain rfl (op_pick _ _ false _ rfl rfl),
         trivial⟩ ?_
        exact hl71 _ (Option.some.inj h).symm
       ·refine ht_seqR hn (El := (_ :: _ :: _ :: _ :: _ :: _ :: _ :: (37, .v (.bool v9.2)) :: (38, .v (.bool (!v9.2))) :: (39, .v (.bool false)) :: (40, .ptr 2 1) :: (41, .same (.cell 2 1)) :: (42, .v (.int .i64 (s44.length : Int))) :: (43, .v (.bool ((decide (0 < (s44.length : Int)))))) :: (44, .v (.bool false)) :: (45, .v undef) :: (46, .v undef) :: (47, .v undef) :: (48, .v undef) :: (49, .v (.bool false)) :: (50, .v (.bool false)) :: [])) (init := [0, 1, 2, 3, 4, 5, 6]) (fin := [0, 1, 2, 3, 4, 5, 20]) (sps := [⟨[6], [], [7], [(.slot 37)]⟩, ⟨[7], [], [8], [(.slot 38)]⟩, ⟨[8], [], [9], [(.slot 39)]⟩, ⟨[9, 2], [], [10], [(.slot 40)]⟩, ⟨[9, 10, 2], [], [11], [(.slot 41)]⟩, ⟨[9, 11, 2], [], [12], [(.slot 42)]⟩, ⟨[9, 12], [], [13], [(.slot 43)]⟩, ⟨[9, 13], [], [14], [(.slot 44)]⟩, ⟨[14], [], [15], [(.slot 45)]⟩, ⟨[14], [], [16], [(.slot 46)]⟩, ⟨[14], [], [17], [(.slot 47)]⟩, ⟨[14], [], [18], [(.slot 48)]⟩, ⟨[9, 14], [], [19], [(.slot 49)]⟩, ⟨[9, 19], [], [20], [(.slot 50)]⟩]) (es' := [(_, _), (_, _), (_, _), (_, _), (_, _), (_, _), (50, .v (.bool false))]) (by kernel_rfl) rfl rfl
         ⟨st_plain rfl (op_move _ _ _ _ rfl rfl),
         st_plain rfl (op_un _ _ _ _ rfl rfl),
         st_plain rfl (op_move _ _ _ _ (congrArg (fun b => AV.v (Value.bool b)) hg7_2) rfl),
         st_run 2 39 false rfl rfl rfl (List.Mem.head _) (op_fieldAddr _ _ _ _ 2 0 _ Try.underlying24 rfl sz22 rfl rfl (by decide)),
         st_run 2 39 false rfl rfl rfl (List.Mem.head _) (op_load _ _ _ _ _ _ Try.underlying22 rfl rfl rfl (Nat.le_of_ble_eq_true rfl) rfl rfl rfl),
         st_run 2 39 false rfl rfl rfl (List.Mem.head _) (op_len_fl _ _ _ Try.underlying22 rfl (by decide) (map_len _)),
         st_run 2 39 false rfl rfl rfl (List.Mem.head _) (op_bin _ _ _ _ _ rfl rfl rfl),
         st_run 2 39 false rfl rfl rfl (List.Mem.head _) (op_move _ _ _ _ (congrArg (fun b => AV.v (Value.bool b)) hg7_7) rfl),
         st_skip 7 44 _ true rfl rfl rfl rfl (List.Mem.head _),
         st_skip 7 44 _ true rfl rfl rfl rfl (List.Mem.head _),
         st_skip 7 44 _ true rfl rfl rfl rfl (List.Mem.head _),
         st_skip 7 44 _ true rfl rfl rfl rfl (List.Mem.head _),
         st_run 2 39 false rfl rfl rfl (List.Mem.head _) (op_pick _ _ false _ rfl rfl),
         st_plain rfl (op_pick _ _ false _ rfl rfl),
         trivial⟩ ?_
        exact hl71 _ (Option.some.inj h).symm
   ·have h := cond_f hb67 h
    refine ht_exit ?_
    refine pt_x_then ?_
    refine pt_x_then ?_
    refine pt_x_in ?_
    refine pt_pick [1, 2] (by kernel_rfl) (es' := [(_, _), (_, _)]) rfl ?_
    exact hl62 _ (ho64 _ (Option.some.inj h).symm).symm

set_option maxHeartbeats 1000000 in
theorem ok_answer_Bytes (p_r : T_Reply) (r : ((List Int) × Int)) (h : Sh.answer_Bytes p_r = some r) : FnOK Try.prog 10 [.agg [.v (.int .i64 p_r.Code), .fl .shr 1 (List.map Value.string p_r.Lines)]] (.tup [.fl (.own 5) 1 (List.map (Value.int .u8) r.1), .v (.int .i64 r.2)]) := by
  unfold Sh.answer_Bytes at h
  refine fn_ok Try.func10 rfl (Nat.le_of_ble_eq_true rfl) rfl rfl fun g0 hn hio => ?_
  refine ht_seq ?_
  refine ht_seqR hn (El := [_, (1, .box 24 [.v (.int .i64 p_r.Code), .fl .shr 1 (List.map Value.string p_r.Lines)]), (2, .v (.slice none 0 0)), (3, .v (.int .i64 0))]) (init := [0]) (fin := [1]) (sps := [⟨[0], [], [1], [(.slot 1)]⟩, ⟨[], [], [2], [(.slot 2)]⟩, ⟨[], [], [3], [(.slot 3)]⟩]) (es' := [(1, .box 24 [.v (.int .i64 p_r.Code), .fl .shr 1 (List.map Value.string p_r.Lines)])]) (by kernel_rfl) rfl rfl
   ⟨st_plain rfl (op_box _ _ _ _ rfl rfl rfl),
   st_plain rfl (op_assign _ _ _ _ rfl rfl),
   st_plain rfl (op_assign _ _ _ _ rfl rfl),
   trivial⟩ ?_
  refine pt_then ?_
  refine ht_seq ?_
  refine ht_seq ?_
  obtain ⟨v1, hv1, h⟩ := bind_some h
  refine ht_seqR hn (El := [_, (9, .agg [.v (.int .i64 p_r.Code), .fl .shr 1 (List.map Value.string p_r.Lines)]), (10, .v (.int .i64 v1)), (4, .v (.int .i64 v1))]) (init := [0]) (fin := [0, 3]) (sps := [⟨[0], [], [1], [(.slot 9)]⟩, ⟨[1], [], [2], [(.slot 10)]⟩, ⟨[2], [], [3], [(.slot 4)]⟩]) (es' := [(_, _), (4, .v (.int .i64 v1))]) (by kernel_rfl) rfl rfl
   ⟨st_plain rfl (op_loadA _ _ _ _ _ _ _ Try.underlying24 rfl sz24 rfl rfl (Nat.le_of_ble_eq_true rfl) rfl rfl),
   st_plain rfl (op_call _ _ 14 _ _ rfl Try.call14 rfl (ok_answer_Check p_r _ hv1) rfl rfl),
   st_plain rfl (op_assign _ _ _ _ rfl rfl),
   trivial⟩ ?_
  refine pt_then ?_
  refine ht_seq ?_
  refine ht_seqR hn (El := [_, _, (11, .v (.int .i64 v1)), (12, .v (.bool (v1 != 0)))]) (init := [0, 1]) (fin := [0, 1, 3]) (sps := [⟨[1], [], [2], [(.slot 11)]⟩, ⟨[2], [], [3], [(.slot 12)]⟩]) (es' := [(_, _), (_, _), (12, .v (.bool (v1 != 0)))]) (by kernel_rfl) rfl rfl
   ⟨st_plain rfl (op_move _ _ _ _ rfl rfl),
   st_plain rfl (op_bin _ _ _ _ _ rfl rfl rfl),
   trivial⟩ ?_
  refine pt_then ?_
  refine ht_cond _ rfl (fun hb2 => ?_) (fun hb2 => ?_)
  ·have h := cond_t hb2 h
   refine ht_seq ?_
   refine ht_seqR hn (El := [_, _, _, (13, .v (.int .i64 v1)), (2, .v (.slice none 0 0)), (3, .v (.int .i64 v1))]) (init := [0, 1, 2]) (fin := [4, 5]) (sps := [⟨[1], [], [3], [(.slot 13)]⟩, ⟨[], [], [4], [(.slot 2)]⟩, ⟨[3], [], [5], [(.slot 3)]⟩]) (es' := [(2, .v (.slice none 0 0)), (3, .v (.int .i64 v1))]) (by kernel_rfl) rfl rfl
    ⟨st_plain rfl (op_move _ _ _ _ rfl rfl),
    st_plain rfl (op_assign _ _ _ _ rfl rfl),
    st_plain rfl (op_assign _ _ _ _ rfl rfl),
    trivial⟩ ?_
   refine pt_then ?_
   refine ht_ret ?_
   refine pt_sub (fs := [(2, .fl (.own 5) 1 (List.map (Value.int .u8) [])), (3, .v (.int .i64 v1))]) (.sub _ (sub_nil 5 1) rfl (.same _ .nil)) ?_
   refine pt_r_then ?_
   obtain rfl := Option.some.inj h
   exact pt_ret hio rfl (.tmp _ _ (.tmp _ _ .nil)) rfl rfl
  ·have h := cond_f hb2 h
   refine ht_skip ?_
   refine pt_then ?_
   refine ht_seq ?_
   refine ht_seqR hn (El := [_, _, _, (5, .v (.slice none 0 0))]) (init := [0, 1, 2]) (fin := [0, 3]) (sps := [⟨[], [], [3], [(.slot 5)]⟩]) (es' := [(_, _), (5, .v (.slice none 0 0))]) (by kernel_rfl) rfl rfl
    ⟨st_plain rfl (op_assign _ _ _ _ rfl rfl),
    trivial⟩ ?_
   refine pt_then ?_
   refine ht_seq ?_
   refine ht_seq ?_
   refine ht_seqR hn (El := [_, _, (14, .ptr 1 1), (15, .fl .shr 1 (List.map Value.string p_r.Lines)), (16, .v (.int .i64 (p_r.Lines.length : Int))), (17, .v (.int .i64 0))]) (init := [0, 1]) (fin := [0, 1, 3, 4, 5]) (sps := [⟨[0], [], [2], [(.slot 14)]⟩, ⟨[2, 0], [], [3], [(.slot 15)]⟩, ⟨[3], [], [4], [(.slot 16)]⟩, ⟨[], [], [5], [(.slot 17)]⟩]) (es' := [(_, _), (_, _), (15, .fl .shr 1 (List.map Value.string p_r.Lines)), (16, .v (.int .i64 (p_r.Lines.length : Int))), (17, .v (.int .i64 0))]) (by kernel_rfl) rfl rfl
    ⟨st_plain rfl (op_fieldAddr _ _ _ _ 1 0 _ Try.underlying24 rfl sz22 rfl rfl (by decide)),
    st_plain rfl (op_load _ _ _ _ _ _ Try.underlying22 rfl rfl rfl (Nat.le_of_ble_eq_true rfl) rfl rfl rfl),
    st_plain rfl (op_len_fl _ _ _ Try.underlying22 rfl (by decide) (map_len _)),
    st_plain rfl (op_move _ _ _ _ rfl rfl),
    trivial⟩ ?_
   refine pt_then ?_
   refine ht_sub (fs := [(1, .box 24 [.v (.int .i64 p_r.Code), .fl .shr 1 (List.map Value.string p_r.Lines)]), (5, .fl (.own 5) 1 (List.map (Value.int .u8) [])), (15, .fl .shr 1 (List.map Value.string p_r.Lines)), (16, .v (.int .i64 (p_r.Lines.length : Int))), (17, .v (.int .i64 0))]) (.same _ (.sub _ (sub_nil 5 1) rfl (.same _ (.same _ (.same _ .nil))))) ?_
   refine ht_loopS h (fun ((s36, s37) : (List Int) × Int) => [(1, .box 24 [.v (.int .i64 p_r.Code), .fl .shr 1 (List.map Value.string p_r.Lines)]), (5, .fl (.own 5) 1 (List.map (Value.int .u8) s36)), (15, .fl .shr 1 (List.map Value.string p_r.Lines)), (16, .v (.int .i64 (p_r.Lines.length : Int))), (17, .v (.int .i64 s37))]) (fun (s45 : (List Int)) => [(5, .fl (.own 5) 1 (List.map (Value.int .u8) s45))]) ?_ ?_
   ·rintro s45 h
    refine pt_then ?_
    refine ht_seq ?_
    refine ht_seqR hn (El := [_, (54, .fl (.own 5) 1 (List.map (Value.int .u8) s45)), (2, .fl (.own 5) 1 (List.map (Value.int .u8) s45)), (3, .v (.int .i64 0))]) (init := [0]) (fin := [2, 3]) (sps := [⟨[], [0], [1], [(.slot 54)]⟩, ⟨[], [1], [2], [(.slot 2)]⟩, ⟨[], [], [3], [(.slot 3)]⟩]) (es' := [(2, .fl (.own 5) 1 (List.map (Value.int .u8) s45)), (3, .v (.int .i64 0))]) (by kernel_rfl) rfl rfl
     ⟨st_plain rfl (op_move_take _ _ _ _ rfl),
     st_plain rfl (op_assign_take _ _ _ _ rfl),
     st_plain rfl (op_assign _ _ _ _ rfl rfl),
     trivial⟩ ?_
    refine pt_then ?_
    refine ht_ret ?_
    obtain rfl := Option.some.inj h
    exact pt_ret hio rfl (.tmp _ _ (.tmp _ _ .nil)) rfl rfl
   ·rintro u46 hl47 hr48 ⟨s36, s37⟩ rr51 h ho49
    refine ht_seq ?_
    refine ht_seqR hn (El := [_, _, _, _, _, (18, .v (.bool ((decide (s37 < (p_r.Lines.length : Int))))))]) (init := [0, 1, 2, 3, 4]) (fin := [0, 1, 2, 3, 4, 5]) (sps := [⟨[4, 3], [], [5], [(.slot 18)]⟩]) (es' := [(_, _), (_, _), (_, _), (_, _), (_, _), (18, .v (.bool ((decide (s37 < (p_r.Lines.length : Int))))))]) (by kernel_rfl) rfl rfl
     ⟨st_plain rfl (op_bin _ _ _ _ _ rfl rfl rfl),
     trivial⟩ ?_
    refine pt_then ?_
    refine ht_seq ?_
    refine ht_cond _ rfl (fun hb52 => ?_) (fun hb52 => ?_)
    ·have h := cond_t hb52 h
     refine ht_skip ?_
     refine pt_then ?_
     refine ht_seq ?_
     refine ht_block ?_
     refine ht_seq ?_
     obtain ⟨v4, hv4, h⟩ := bind_some h
     obtain ⟨v5, hv5, h⟩ := bind_some h
     refine ht_seqR hn (El := [_, _, _, _, _, _, (19, .v (.int .i64 s37)), (20, .eref (.slot 15) (v4 * 1)), (21, .v (.string v5)), (6, .v (.int .i64 s37)), (7, .v (.string v5))]) (init := [0, 1, 2, 3, 4, 5]) (fin := [0, 1, 2, 3, 4, 9, 10]) (sps := [⟨[4], [], [6], [(.slot 19)]⟩, ⟨[2, 4], [], [7], [(.slot 20)]⟩, ⟨[7, 2], [], [8], [(.slot 21)]⟩, ⟨[6], [], [9], [(.slot 6)]⟩, ⟨[8], [], [10], [(.slot 7)]⟩]) (es' := [(_, _), (_, _), (_, _), (_, _), (_, _), (6, .v (.int .i64 s37)), (7, .v (.string v5))]) (by kernel_rfl) rfl rfl
      ⟨st_plain rfl (op_move _ _ _ _ rfl rfl),
      st_plain rfl (op_ix _ _ _ _ _ _ _ _ Try.underlying22 sz9 (by decide) rfl rfl rfl (ix_ok hv4).1 (map_lt (ix_ok hv4).2) rfl),
      st_plain rfl (op_load_e _ _ _ _ _ _ Try.underlying9 rfl rfl rfl (map_get hv5)),
      st_plain rfl (op_assign _ _ _ _ rfl rfl),
      st_plain rfl (op_assign _ _ _ _ rfl rfl),
      trivial⟩ ?_
     refine pt_then ?_
     refine ht_seq ?_
     refine ht_seqR hn (El := [_, _, _, _, _, _, _, (8, .v (.int .u8 45))]) (init := [0, 1, 2, 3, 4, 5, 6]) (fin := [0, 1, 2, 3, 4, 5, 6, 7]) (sps := [⟨[], [], [7], [(.slot 8)]⟩]) (es' := [(_, _), (_, _), (_, _), (_, _), (_, _), (_, _), (_, _), (8, .v (.int .u8 45))]) (by kernel_rfl) rfl rfl
      ⟨st_plain rfl (op_assign _ _ _ _ rfl rfl),
      trivial⟩ ?_
     refine pt_then ?_
     refine ht_seq ?_
     refine ht_joinS h (fun (s54 : Int) => [(1, .box 24 [.v (.int .i64 p_r.Code), .fl .shr 1 (List.map Value.string p_r.Lines)]), (5, .fl (.own 5) 1 (List.map (Value.int .u8) s36)), (15, .fl .shr 1 (List.map Value.string p_r.Lines)), (16, .v (.int .i64 (p_r.Lines.length : Int))), (17, .v (.int .i64 s37)), (7, .v (.string v5)), (8, .v (.int .u8 s54))]) ?_ ?_
     ·rintro s54 h
      refine pt_then ?_
      refine ht_seq ?_
      obtain ⟨v13, hv13, h⟩ := bind_some h
      obtain ⟨v14, hv14, h⟩ := bind_some h
      obtain ⟨v15, hv15, h⟩ := bind_some h
      obtain ⟨v16, hv16, h⟩ := bind_some h
      obtain ⟨v17, hv17, h⟩ := bind_some h
      obtain ⟨v18, hv18, h⟩ := bind_some h
      obtain ⟨v19, hv19, h⟩ := bind_some h
      obtain ⟨v20, hv20, h⟩ := bind_some h
      obtain ⟨v21, hv21, h⟩ := bind_some h
      obtain ⟨v22, hv22, h⟩ := bind_some h
      obtain ⟨v23, hv23, h⟩ := bind_some h
      refine ht_seqR hn (El := (_ :: _ :: _ :: _ :: _ :: _ :: _ :: (28, .fl (.own 5) 1 (List.map (Value.int .u8) s36)) :: (29, .ptr 1 0) :: (30, .v (.int .i64 p_r.Code)) :: (31, .v (.int .i64 v13)) :: (32, .v (.int .i64 v14)) :: (33, .v (.int .u8 v15)) :: (34, .ptr 1 0) :: (35, .v (.int .i64 p_r.Code)) :: (36, .v (.int .i64 v16)) :: (37, .v (.int .i64 v17)) :: (38, .v (.int .i64 v18)) :: (39, .v (.int .u8 v19)) :: (40, .ptr 1 0) :: (41, .v (.int .i64 p_r.Code)) :: (42, .v (.int .i64 v20)) :: (43, .v (.int .i64 v21)) :: (44, .v (.int .u8 v22)) :: (45, .v (.int .u8 s54)) :: (46, .fl (.own 5) 1 (List.map (Value.int .u8) [v15, v19, v22, s54])) :: (47, .fl (.own 5) 1 (List.map (Value.int .u8) v23)) :: (28, .any) :: (5, .fl (.own 5) 1 (List.map (Value.int .u8) v23)) :: [])) (init := [0, 1, 2, 3, 4, 5, 6]) (fin := [0, 2, 3, 4, 5, 28]) (sps := (⟨[], [1], [7], [(.slot 28)]⟩ :: ⟨[0], [], [8], [(.slot 29)]⟩ :: ⟨[8, 0], [], [9], [(.slot 30)]⟩ :: ⟨[9], [], [10], [(.slot 31)]⟩ :: ⟨[10], [], [11], [(.slot 32)]⟩ :: ⟨[11], [], [12], [(.slot 33)]⟩ :: ⟨[0], [], [13], [(.slot 34)]⟩ :: ⟨[13, 0], [], [14], [(.slot 35)]⟩ :: ⟨[14], [], [15], [(.slot 36)]⟩ :: ⟨[15], [], [16], [(.slot 37)]⟩ :: ⟨[16], [], [17], [(.slot 38)]⟩ :: ⟨[17], [], [18], [(.slot 39)]⟩ :: ⟨[0], [], [19], [(.slot 40)]⟩ :: ⟨[19, 0], [], [20], [(.slot 41)]⟩ :: ⟨[20], [], [21], [(.slot 42)]⟩ :: ⟨[21], [], [22], [(.slot 43)]⟩ :: ⟨[22], [], [23], [(.slot 44)]⟩ :: ⟨[6], [], [24], [(.slot 45)]⟩ :: ⟨[12, 18, 23, 24], [], [25], [(.slot 46)]⟩ :: ⟨[25], [7], [27, 26], [(.slot 47)]⟩ :: ⟨[], [26], [28], [(.slot 5)]⟩ :: [])) (es' := [(_, _), (_, _), (_, _), (_, _), (_, _), (5, .fl (.own 5) 1 (List.map (Value.int .u8) v23))]) (by kernel_rfl) rfl rfl
       ⟨st_plain rfl (op_move_take _ _ _ _ rfl),
       st_plain rfl (op_fieldAddr _ _ _ _ 1 0 _ Try.underlying24 rfl sz3 rfl rfl (by decide)),
       st_plain rfl (op_load _ _ _ _ _ _ Try.underlying3 rfl rfl rfl (Nat.le_of_ble_eq_true rfl) rfl rfl rfl),
       st_plain rfl (op_bin _ _ _ _ _ rfl rfl (quo_ok hv13)),
       st_plain rfl (op_bin _ _ _ _ _ rfl rfl (ibind (f := Value.int .i64) (Option.some.inj hv14))),
       st_plain rfl ((Option.some.inj hv15) ▸ op_conv _ _ _ Try.underlying3 Try.underlying5 rfl),
       st_plain rfl (op_fieldAddr _ _ _ _ 1 0 _ Try.underlying24 rfl sz3 rfl rfl (by decide)),
       st_plain rfl (op_load _ _ _ _ _ _ Try.underlying3 rfl rfl rfl (Nat.le_of_ble_eq_true rfl) rfl rfl rfl),
       st_plain rfl (op_bin _ _ _ _ _ rfl rfl (quo_ok hv16)),
       st_plain rfl (op_bin _ _ _ _ _ rfl rfl (rem_ok hv17)),
       st_plain rfl (op_bin _ _ _ _ _ rfl rfl (ibind (f := Value.int .i64) (Option.some.inj hv18))),
       st_plain rfl ((Option.some.inj hv19) ▸ op_conv _ _ _ Try.underlying3 Try.underlying5 rfl),
       st_plain rfl (op_fieldAddr _ _ _ _ 1 0 _ Try.underlying24 rfl sz3 rfl rfl (by decide)),
       st_plain rfl (op_load _ _ _ _ _ _ Try.underlying3 rfl rfl rfl (Nat.le_of_ble_eq_true rfl) rfl rfl rfl),
       st_plain rfl (op_bin _ _ _ _ _ rfl rfl (rem_ok hv20)),
       st_plain rfl (op_bin _ _ _ _ _ rfl rfl (ibind (f := Value.int .i64) (Option.some.inj hv21))),
       st_plain rfl ((Option.some.inj hv22) ▸ op_conv _ _ _ Try.underlying3 Try.underlying5 rfl),
       st_plain rfl (op_move _ _ _ _ rfl rfl),
       st_plain rfl (op_buildSlice _ _ 1 (.int .u8 0) (List.map (Value.int .u8) [v15, v19, v22, s54]) [(0, .int .u8 v15), (1, .int .u8 v19), (2, .int .u8 v22), (3, .int .u8 s54)] Try.underlying25 sz5 zr5 (fun _ V w o a hv hes => by have e0 := rd_v hv hes (x := .tmp 33) rfl; have e1 := rd_v hv hes (x := .tmp 39) rfl; have e2 := rd_v hv hes (x := .tmp 44) rfl; have e3 := rd_v hv hes (x := .tmp 45) rfl; simp only [List.map_toArray, List.map_cons, List.map_nil, e0, e1, e2, e3]; try rfl) (litfill (by simp [Instr.fill, Value.cells]; rfl) (by simp [List.range, List.range.loop])) (by simp [Value.oneCell']) rfl (by decide) (by decide) (by decide)),
       st_plain rfl (op_app _ _ _ _ _ el25 rfl rfl (map_len _) (map_len _) hv23 ((List.map_append).symm.trans (congrArg (List.map _) (app_eq hv23)))),
       st_plain rfl (op_assign_take _ _ _ _ rfl),
       trivial⟩ ?_
      refine pt_then ?_
      refine ht_seq ?_
      obtain ⟨v24, hv24, h⟩ := bind_some h
      refine ht_seqR hn (El := [_, _, _, _, _, _, (48, .fl (.own 5) 1 (List.map (Value.int .u8) v23)), (49, .v (.string v5)), (50, .fl (.own 5) 1 (List.map (Value.int .u8) v24)), (48, .any), (5, .fl (.own 5) 1 (List.map (Value.int .u8) v24))]) (init := [0, 1, 2, 3, 4, 5]) (fin := [0, 1, 2, 3, 10]) (sps := [⟨[], [5], [6], [(.slot 48)]⟩, ⟨[4], [], [7], [(.slot 49)]⟩, ⟨[7], [6], [9, 8], [(.slot 50)]⟩, ⟨[], [8], [10], [(.slot 5)]⟩]) (es' := [(_, _), (_, _), (_, _), (_, _), (5, .fl (.own 5) 1 (List.map (Value.int .u8) v24))]) (by kernel_rfl) rfl rfl
       ⟨st_plain rfl (op_move_take _ _ _ _ rfl),
       st_plain rfl (op_move _ _ _ _ rfl rfl),
       st_plain rfl (op_apps _ _ _ _ _ el25 zr5 Try.underlying9 rfl rfl rfl hv24 rfl),
       st_plain rfl (op_assign_take _ _ _ _ rfl),
       trivial⟩ ?_
      refine pt_then ?_
      obtain ⟨v25, hv25, h⟩ := bind_some h
      refine ht_seqR hn (El := [_, _, _, _, _, (51, .fl (.own 5) 1 (List.map (Value.int .u8) v24)), (52, .fl (.own 5) 1 (List.map (Value.int .u8) v25)), (51, .any), (5, .fl (.own 5) 1 (List.map (Value.int .u8) v25))]) (init := [0, 1, 2, 3, 4]) (fin := [0, 1, 2, 3, 8]) (sps := [⟨[], [4], [5], [(.slot 51)]⟩, ⟨[], [5], [7, 6], [(.slot 52)]⟩, ⟨[], [6], [8], [(.slot 5)]⟩]) (es' := [(_, _), (_, _), (_, _), (_, _), (5, .fl (.own 5) 1 (List.map (Value.int .u8) v25))]) (by kernel_rfl) rfl rfl
       ⟨st_plain rfl (op_move_take _ _ _ _ rfl),
       st_plain rfl (op_apps _ _ _ _ _ el25 zr5 Try.underlying9 rfl rfl rfl hv25 rfl),
       st_plain rfl (op_assign_take _ _ _ _ rfl),
       trivial⟩ ?_
      refine pt_inb ?_
      refine pt_then ?_
      obtain ⟨v26, hv26, h⟩ := bind_some h
      refine ht_seqR hn (El := [_, _, _, _, _, (53, .v (.int .i64 v26)), (17, .v (.int .i64 v26))]) (init := [0, 1, 2, 3, 4]) (fin := [0, 1, 2, 4, 6]) (sps := [⟨[3], [], [5], [(.slot 53)]⟩, ⟨[5], [3], [6], [(.slot 17)]⟩]) (es' := [(_, _), (_, _), (_, _), (_, _), (17, .v (.int .i64 v26))]) (by kernel_rfl) rfl rfl
       ⟨st_plain rfl (op_bin _ _ _ _ _ rfl rfl (ibind (f := Value.int .i64) (Option.some.inj hv26))),
       st_plain rfl (LOp.drop [_] (op_move _ _ _ _ rfl rfl)),
       trivial⟩ ?_
      refine pt_pick [0, 3, 1, 2, 4] (by kernel_rfl) (es' := [(_, _), (_, _), (_, _), (_, _), (_, _)]) rfl ?_
      exact pt_next _ (Option.some.inj h).symm rfl
     ·intro u55 h hl56 hr57
      refine ht_seq ?_
      obtain ⟨v6, hv6, h⟩ := bind_some h
      refine ht_seqR hn (El := [_, _, _, _, _, _, _, _, (22, .v (.int .i64 s37)), (23, .ptr 1 1), (24, .fl .shr 1 (List.map Value.string p_r.Lines)), (25, .v (.int .i64 (p_r.Lines.length : Int))), (26, .v (.int .i64 v6)), (27, .v (.bool (s37 == v6)))]) (init := [0, 1, 2, 3, 4, 5, 6, 7]) (fin := [0, 1, 2, 3, 4, 6, 7, 13]) (sps := [⟨[5], [], [8], [(.slot 22)]⟩, ⟨[0], [], [9], [(.slot 23)]⟩, ⟨[9, 0], [], [10], [(.slot 24)]⟩, ⟨[10], [], [11], [(.slot 25)]⟩, ⟨[11], [], [12], [(.slot 26)]⟩, ⟨[8, 12], [], [13], [(.slot 27)]⟩]) (es' := [(_, _), (_, _), (_, _), (_, _), (_, _), (_, _), (_, _), (27, .v (.bool (s37 == v6)))]) (by kernel_rfl) rfl rfl
       ⟨st_plain rfl (op_move _ _ _ _ rfl rfl),
       st_plain rfl (op_fieldAddr _ _ _ _ 1 0 _ Try.underlying24 rfl sz22 rfl rfl (by decide)),
       st_plain rfl (op_load _ _ _ _ _ _ Try.underlying22 rfl rfl rfl (Nat.le_of_ble_eq_true rfl) rfl rfl rfl),
       st_plain rfl (op_len_fl _ _ _ Try.underlying22 rfl (by decide) (map_len _)),
       st_plain rfl (op_bin _ _ _ _ _ rfl rfl (ibind (f := Value.int .i64) (Option.some.inj hv6))),
       st_plain rfl (op_bin _ _ _ _ _ rfl rfl rfl),
       trivial⟩ ?_
      refine pt_then ?_
      refine ht_cond _ rfl (fun hb58 => ?_) (fun hb58 => ?_)
      ·have h := cond_t hb58 h
       refine ht_seqR hn (El := [_, _, _, _, _, _, _, _, (8, .v (.int .u8 32))]) (init := [0, 1, 2, 3, 4, 5, 6, 7]) (fin := [0, 1, 2, 3, 4, 5, 8]) (sps := [⟨[], [6], [8], [(.slot 8)]⟩]) (es' := [(_, _), (_, _), (_, _), (_, _), (_, _), (_, _), (8, .v (.int .u8 32))]) (by kernel_rfl) rfl rfl
        ⟨st_plain rfl (LOp.drop [_] (op_assign _ _ _ _ rfl rfl)),
        trivial⟩ ?_
       exact hl56 _ (Option.some.inj h).symm
      ·have h := cond_f hb58 h
       refine ht_skip ?_
       refine pt_pick [0, 1, 2, 3, 4, 5, 6] (by kernel_rfl) (es' := [(_, _), (_, _), (_, _), (_, _), (_, _), (_, _), (_, _)]) rfl ?_
       exact hl56 _ (Option.some.inj h).symm
    ·have h := cond_f hb52 h
     refine ht_exit ?_
     refine pt_x_then ?_
     refine pt_x_then ?_
     refine pt_x_in ?_
     refine pt_pick [1] (by kernel_rfl) (es' := [(_, _)]) rfl ?_
     exact hl47 _ (ho49 _ (Option.some.inj h).symm).symm

set_option maxHeartbeats 1000000 in
theorem ok_wherrykeep_Reply (a : T_Reply) (b : T_Reply) (r : Bool) (h : Sh.wherrykeep_Reply a b = some r) : FnOK Try.prog 17 [.agg [.v (.int .i64 a.Code), .fl .shr 1 (List.map Value.string a.Lines)], .agg [.v (.int .i64 b.Code), .fl .shr 1 (List.map Value.string b.Lines)]] (.v (.bool r)) := by
  unfold Sh.wherrykeep_Reply at h
  refine fn_ok Try.func17 rfl (Nat.le_of_ble_eq_true rfl) rfl rfl fun g0 hn hio => ?_
  refine ht_seq ?_
  refine ht_seqR hn (El := [_, _, (2, .box 24 [.v (.int .i64 a.Code), .fl .shr 1 (List.map Value.string a.Lines)]), (3, .box 24 [.v (.int .i64 b.Code), .fl .shr 1 (List.map Value.string b.Lines)]), (4, .v (.bool false))]) (init := [0, 1]) (fin := [2, 3]) (sps := [⟨[0], [], [2], [(.slot 2)]⟩, ⟨[1], [], [3], [(.slot 3)]⟩, ⟨[], [], [4], [(.slot 4)]⟩]) (es' := [(2, .box 24 [.v (.int .i64 a.Code), .fl .shr 1 (List.map Value.string a.Lines)]), (3, .box 24 [.v (.int .i64 b.Code), .fl .shr 1 (List.map Value.string b.Lines)])]) (by kernel_rfl) rfl rfl
   ⟨st_plain rfl (op_box _ _ _ _ rfl rfl rfl),
   st_plain rfl (op_box _ _ _ _ rfl rfl rfl),
   st_plain rfl (op_assign _ _ _ _ rfl rfl),
   trivial⟩ ?_
  refine pt_then ?_
  refine ht_seq ?_
  refine ht_seq ?_
  refine ht_joinS h (fun (s1 : Bool) => [(2, .box 24 [.v (.int .i64 a.Code), .fl .shr 1 (List.map Value.string a.Lines)]), (3, .box 24 [.v (.int .i64 b.Code), .fl .shr 1 (List.map Value.string b.Lines)]), (19, .v (.bool s1))]) ?_ ?_
  ·rintro s1 h
   refine pt_then ?_
   refine ht_cond _ rfl (fun hb5 => ?_) (fun hb5 => ?_)
   ·have h := cond_t hb5 h
    refine ht_seq ?_
    refine ht_seqR hn (El := [_, _, _, (4, .v (.bool false))]) (init := [0, 1, 2]) (fin := [3]) (sps := [⟨[], [], [3], [(.slot 4)]⟩]) (es' := [(4, .v (.bool false))]) (by kernel_rfl) rfl rfl
     ⟨st_plain rfl (op_assign _ _ _ _ rfl rfl),
     trivial⟩ ?_
    refine pt_then ?_
    refine ht_ret ?_
    refine pt_r_then ?_
    obtain rfl := Option.some.inj h
    exact pt_ret hio rfl (.tmp _ _ .nil) rfl rfl
   ·have h := cond_f hb5 h
    refine ht_skip ?_
    refine pt_then ?_
    refine ht_seq ?_
    refine ht_seq ?_
    refine ht_seqR hn (El := [_, _, _, (5, .v (.int .i64 0))]) (init := [0, 1, 2]) (fin := [0, 1, 3]) (sps := [⟨[], [], [3], [(.slot 5)]⟩]) (es' := [(_, _), (_, _), (5, .v (.int .i64 0))]) (by kernel_rfl) rfl rfl
     ⟨st_plain rfl (op_assign _ _ _ _ rfl rfl),
     trivial⟩ ?_
    refine pt_then ?_
    refine ht_loopS h (fun (s16 : Int) => [(2, .box 24 [.v (.int .i64 a.Code), .fl .shr 1 (List.map Value.string a.Lines)]), (3, .box 24 [.v (.int .i64 b.Code), .fl .shr 1 (List.map Value.string b.Lines)]), (5, .v (.int .i64 s16))]) (fun (() : Unit) => []) ?_ ?_
    ·rintro ⟨⟩ h
     refine pt_then ?_
     refine ht_seq ?_
     refine ht_seqR hn (El := [(4, .v (.bool true))]) (init := []) (fin := [0]) (sps := [⟨[], [], [0], [(.slot 4)]⟩]) (es' := [(4, .v (.bool true))]) (by kernel_rfl) rfl rfl
      ⟨st_plain rfl (op_assign _ _ _ _ rfl rfl),
      trivial⟩ ?_
     refine pt_then ?_
     refine ht_ret ?_
     obtain rfl := Option.some.inj h
     exact pt_ret hio rfl (.tmp _ _ .nil) rfl rfl
    ·rintro u19 hl20 hr21 s16 rr24 h ho22
     refine ht_seq ?_
     refine ht_seq ?_
     refine ht_seqR hn (El := [_, _, _, (20, .v (.int .i64 s16)), (21, .ptr 2 1), (22, .fl .shr 1 (List.map Value.string a.Lines)), (23, .v (.int .i64 (a.Lines.length : Int))), (24, .v (.bool ((decide (s16 < (a.Lines.length : Int))))))]) (init := [0, 1, 2]) (fin := [0, 1, 2, 7]) (sps := [⟨[2], [], [3], [(.slot 20)]⟩, ⟨[0], [], [4], [(.slot 21)]⟩, ⟨[4, 0], [], [5], [(.slot 22)]⟩, ⟨[5], [], [6], [(.slot 23)]⟩, ⟨[3, 6], [], [7], [(.slot 24)]⟩]) (es' := [(_, _), (_, _), (_, _), (24, .v (.bool ((decide (s16 < (a.Lines.length : Int))))))]) (by kernel_rfl) rfl rfl
      ⟨st_plain rfl (op_move _ _ _ _ rfl rfl),
      st_plain rfl (op_fieldAddr _ _ _ _ 2 0 _ Try.underlying24 rfl sz22 rfl rfl (by decide)),
      st_plain rfl (op_load _ _ _ _ _ _ Try.underlying22 rfl rfl rfl (Nat.le_of_ble_eq_true rfl) rfl rfl rfl),
      st_plain rfl (op_len_fl _ _ _ Try.underlying22 rfl (by decide) (map_len _)),
      st_plain rfl (op_bin _ _ _ _ _ rfl rfl rfl),
      trivial⟩ ?_
     refine pt_then ?_
     refine ht_cond _ rfl (fun hb25 => ?_) (fun hb25 => ?_)
     ·have h := cond_t hb25 h
      refine ht_skip ?_
      refine pt_then ?_
      refine ht_seq ?_
      refine ht_block ?_
      refine ht_seq ?_
      obtain ⟨v7, hv7, h⟩ := bind_some h
      obtain ⟨v8, hv8, h⟩ := bind_some h
      obtain ⟨v9, hv9, h⟩ := bind_some h
      obtain ⟨v10, hv10, h⟩ := bind_some h
      refine ht_anyR (by kernel_rfl) hn (El := (_ :: _ :: _ :: _ :: (27, .ptr 2 1) :: (28, .fl .shr 1 (List.map Value.string a.Lines)) :: (29, .v (.int .i64 s16)) :: (30, .eref (.slot 28) (v7 * 1)) :: (31, .v (.string v8)) :: (32, .ptr 3 1) :: (33, .fl .shr 1 (List.map Value.string b.Lines)) :: (34, .v (.int .i64 s16)) :: (35, .eref (.slot 33) (v9 * 1)) :: (36, .v (.string v10)) :: (37, .v (.bool ((!(v8.toList == v10.toList))))) :: [])) (init := [0, 1, 2, 3]) (fin := [0, 1, 2, 14]) (sps := [⟨[0], [], [4], [(.slot 27)]⟩, ⟨[4, 0], [], [5], [(.slot 28)]⟩, ⟨[2], [], [6], [(.slot 29)]⟩, ⟨[5, 6], [], [7], [(.slot 30)]⟩, ⟨[7, 5], [], [8], [(.slot 31)]⟩, ⟨[1], [], [9], [(.slot 32)]⟩, ⟨[9, 1], [], [10], [(.slot 33)]⟩, ⟨[2], [], [11], [(.slot 34)]⟩, ⟨[10, 11], [], [12], [(.slot 35)]⟩, ⟨[12, 10], [], [13], [(.slot 36)]⟩, ⟨[8, 13], [], [14], [(.slot 37)]⟩]) (es' := [(_, _), (_, _), (_, _), (37, .v (.bool ((!(v8.toList == v10.toList)))))]) (by kernel_rfl) rfl rfl
       ⟨st_plain rfl (op_fieldAddr _ _ _ _ 2 0 _ Try.underlying24 rfl sz22 rfl rfl (by decide)),
       st_plain rfl (op_load _ _ _ _ _ _ Try.underlying22 rfl rfl rfl (Nat.le_of_ble_eq_true rfl) rfl rfl rfl),
       st_plain rfl (op_move _ _ _ _ rfl rfl),
       st_plain rfl (op_ix _ _ _ _ _ _ _ _ Try.underlying22 sz9 (by decide) rfl rfl rfl (ix_ok hv7).1 (map_lt (ix_ok hv7).2) rfl),
       st_plain rfl (op_load_e _ _ _ _ _ _ Try.underlying9 rfl rfl rfl (map_get hv8)),
       st_plain rfl (op_fieldAddr _ _ _ _ 3 0 _ Try.underlying24 rfl sz22 rfl rfl (by decide)),
       st_plain rfl (op_load _ _ _ _ _ _ Try.underlying22 rfl rfl rfl (Nat.le_of_ble_eq_true rfl) rfl rfl rfl),
       st_plain rfl (op_move _ _ _ _ rfl rfl),
       st_plain rfl (op_ix _ _ _ _ _ _ _ _ Try.underlying22 sz9 (by decide) rfl rfl rfl (ix_ok hv9).1 (map_lt (ix_ok hv9).2) rfl),
       st_plain rfl (op_load_e _ _ _ _ _ _ Try.underlying9 rfl rfl rfl (map_get hv10)),
       st_plain rfl (op_bin _ _ _ _ _ rfl rfl rfl),
       trivial⟩ ?_
      refine pt_then ?_
      refine ht_cond _ rfl (fun hb26 => ?_) (fun hb26 => ?_)
      ·have h := cond_t hb26 h
       refine ht_seq ?_
       refine ht_seqR hn (El := [_, _, _, _, (4, .v (.bool false))]) (init := [0, 1, 2, 3]) (fin := [4]) (sps := [⟨[], [], [4], [(.slot 4)]⟩]) (es' := [(4, .v (.bool false))]) (by kernel_rfl) rfl rfl
        ⟨st_plain rfl (op_assign _ _ _ _ rfl rfl),
        trivial⟩ ?_
       refine pt_then ?_
       refine ht_ret ?_
       refine pt_r_in ?_
       refine pt_r_then ?_
       refine pt_r_then ?_
       refine pt_r_in ?_
       refine pt_r_then ?_
       have h := hr21 _ (ho22 _ (Option.some.inj h).symm).symm
       obtain rfl := Option.some.inj h
       exact pt_ret hio rfl (.tmp _ _ .nil) rfl rfl
      ·have h := cond_f hb26 h
       refine ht_skip ?_
       refine pt_inb ?_
       refine pt_then ?_
       obtain ⟨v12, hv12, h⟩ := bind_some h
       refine ht_seqR hn (El := [_, _, _, _, (25, .v (.int .i64 s16)), (26, .v (.int .i64 v12)), (5, .v (.int .i64 v12))]) (init := [0, 1, 2, 3]) (fin := [0, 1, 6]) (sps := [⟨[2], [], [4], [(.slot 25)]⟩, ⟨[4], [], [5], [(.slot 26)]⟩, ⟨[5], [2], [6], [(.slot 5)]⟩]) (es' := [(_, _), (_, _), (5, .v (.int .i64 v12))]) (by kernel_rfl) rfl rfl
        ⟨st_plain rfl (op_move _ _ _ _ rfl rfl),
        st_plain rfl (op_bin _ _ _ _ _ rfl rfl (ibind (f := Value.int .i64) (Option.some.inj hv12))),
        st_plain rfl (LOp.drop [_] (op_assign _ _ _ _ rfl rfl)),
        trivial⟩ ?_
       exact pt_next _ (Option.some.inj h).symm rfl
     ·have h := cond_f hb25 h
      refine ht_exit ?_
      refine pt_x_then ?_
      refine pt_x_then ?_
      refine pt_x_in ?_
      refine pt_pick [] (by kernel_rfl) (es' := []) rfl ?_
      exact hl20 _ (ho22 _ (Option.some.inj h).symm).symm
  ·intro u2 h hl3 hr4
   refine cond_some h (fun hg1_5 h => ?_) (fun hg1_5 h => ?_)
   ·refine ht_seqR hn (El := (_ :: _ :: (6, .ptr 2 0) :: (7, .v (.int .i64 a.Code)) :: (8, .ptr 3 0) :: (9, .v (.int .i64 b.Code)) :: (10, .v (.bool (a.Code != b.Code))) :: (11, .v (.bool true)) :: (12, .v undef) :: (13, .v undef) :: (14, .v undef) :: (15, .v undef) :: (16, .v undef) :: (17, .v undef) :: (18, .v undef) :: (19, .v (.bool true)) :: [])) (init := [0, 1]) (fin := [0, 1, 15]) (sps := [⟨[0], [], [2], [(.slot 6)]⟩, ⟨[2, 0], [], [3], [(.slot 7)]⟩, ⟨[1], [], [4], [(.slot 8)]⟩, ⟨[4, 1], [], [5], [(.slot 9)]⟩, ⟨[3, 5], [], [6], [(.slot 10)]⟩, ⟨[6], [], [7], [(.slot 11)]⟩, ⟨[7], [], [8], [(.slot 12)]⟩, ⟨[7], [], [9], [(.slot 13)]⟩, ⟨[7], [], [10], [(.slot 14)]⟩, ⟨[7], [], [11], [(.slot 15)]⟩, ⟨[7], [], [12], [(.slot 16)]⟩, ⟨[7], [], [13], [(.slot 17)]⟩, ⟨[7], [], [14], [(.slot 18)]⟩, ⟨[7], [], [15], [(.slot 19)]⟩]) (es' := [(_, _), (_, _), (19, .v (.bool true))]) (by kernel_rfl) rfl rfl
     ⟨st_plain rfl (op_fieldAddr _ _ _ _ 2 0 _ Try.underlying24 rfl sz3 rfl rfl (by decide)),
     st_plain rfl (op_load _ _ _ _ _ _ Try.underlying3 rfl rfl rfl (Nat.le_of_ble_eq_true rfl) rfl rfl rfl),
     st_plain rfl (op_fieldAddr _ _ _ _ 3 0 _ Try.underlying24 rfl sz3 rfl rfl (by decide)),
     st_plain rfl (op_load _ _ _ _ _ _ Try.underlying3 rfl rfl rfl (Nat.le_of_ble_eq_true rfl) rfl rfl rfl),
     st_plain rfl (op_bin _ _ _ _ _ rfl rfl rfl),
     st_plain rfl (op_move _ _ _ _ (congrArg (fun b => AV.v (Value.bool b)) hg1_5) rfl),
     st_skip 5 11 _ false rfl rfl rfl rfl (List.Mem.head _),
     st_skip 5 11 _ false rfl rfl rfl rfl (List.Mem.head _),
     st_skip 5 11 _ false rfl rfl rfl rfl (List.Mem.head _),
     st_skip 5 11 _ false rfl rfl rfl rfl (List.Mem.head _),
     st_skip 5 11 _ false rfl rfl rfl rfl (List.Mem.head _),
     st_skip 5 11 _ false rfl rfl rfl rfl (List.Mem.head _),
     st_skip 5 11 _ false rfl rfl rfl rfl (List.Mem.head _),
     st_plain rfl (op_pick _ _ true _ rfl rfl),
     trivial⟩ ?_
    exact hl3 _ (Option.some.inj h).symm
   ·refine ht_seqR hn (El := (_ :: _ :: (6, .ptr 2 0) :: (7, .v (.int .i64 a.Code)) :: (8, .ptr 3 0) :: (9, .v (.int .i64 b.Code)) :: (10, .v (.bool (a.Code != b.Code))) :: (11, .v (.bool false)) :: (12, .ptr 2 1) :: (13, .fl .shr 1 (List.map Value.string a.Lines)) :: (14, .v (.int .i64 (a.Lines.length : Int))) :: (15, .ptr 3 1) :: (16, .fl .shr 1 (List.map Value.string b.Lines)) :: (17, .v (.int .i64 (b.Lines.length : Int))) :: (18, .v (.bool (((a.Lines.length : Int) != (b.Lines.length : Int))))) :: (19, .v (.bool (((a.Lines.length : Int) != (b.Lines.length : Int))))) :: [])) (init := [0, 1]) (fin := [0, 1, 15]) (sps := [⟨[0], [], [2], [(.slot 6)]⟩, ⟨[2, 0], [], [3], [(.slot 7)]⟩, ⟨[1], [], [4], [(.slot 8)]⟩, ⟨[4, 1], [], [5], [(.slot 9)]⟩, ⟨[3, 5], [], [6], [(.slot 10)]⟩, ⟨[6], [], [7], [(.slot 11)]⟩, ⟨[7, 0], [], [8], [(.slot 12)]⟩, ⟨[7, 8, 0], [], [9], [(.slot 13)]⟩, ⟨[7, 9], [], [10], [(.slot 14)]⟩, ⟨[7, 1], [], [11], [(.slot 15)]⟩, ⟨[7, 11, 1], [], [12], [(.slot 16)]⟩, ⟨[7, 12], [], [13], [(.slot 17)]⟩, ⟨[7, 10, 13], [], [14], [(.slot 18)]⟩, ⟨[7, 14], [], [15], [(.slot 19)]⟩]) (es' := [(_, _), (_, _), (19, .v (.bool (((a.Lines.length : Int) != (b.Lines.length : Int)))))]) (by kernel_rfl) rfl rfl
     ⟨st_plain rfl (op_fieldAddr _ _ _ _ 2 0 _ Try.underlying24 rfl sz3 rfl rfl (by decide)),
     st_plain rfl (op_load _ _ _ _ _ _ Try.underlying3 rfl rfl rfl (Nat.le_of_ble_eq_true rfl) rfl rfl rfl),
     st_plain rfl (op_fieldAddr _ _ _ _ 3 0 _ Try.underlying24 rfl sz3 rfl rfl (by decide)),
     st_plain rfl (op_load _ _ _ _ _ _ Try.underlying3 rfl rfl rfl (Nat.le_of_ble_eq_true rfl) rfl rfl rfl),
     st_plain rfl (op_bin _ _ _ _ _ rfl rfl rfl),
     st_plain rfl (op_move _ _ _ _ (congrArg (fun b => AV.v (Value.bool b)) hg1_5) rfl),
     st_run 5 11 false rfl rfl rfl (List.Mem.head _) (op_fieldAddr _ _ _ _ 2 0 _ Try.underlying24 rfl sz22 rfl rfl (by decide)),
     st_run 5 11 false rfl rfl rfl (List.Mem.head _) (op_load _ _ _ _ _ _ Try.underlying22 rfl rfl rfl (Nat.le_of_ble_eq_true rfl) rfl rfl rfl),
     st_run 5 11 false rfl rfl rfl (List.Mem.head _) (op_len_fl _ _ _ Try.underlying22 rfl (by decide) (map_len _)),
     st_run 5 11 false rfl rfl rfl (List.Mem.head _) (op_fieldAddr _ _ _ _ 3 0 _ Try.underlying24 rfl sz22 rfl rfl (by decide)),
     st_run 5 11 false rfl rfl rfl (List.Mem.head _) (op_load _ _ _ _ _ _ Try.underlying22 rfl rfl rfl (Nat.le_of_ble_eq_true rfl) rfl rfl rfl),
     st_run 5 11 false rfl rfl rfl (List.Mem.head _) (op_len_fl _ _ _ Try.underlying22 rfl (by decide) (map_len _)),
     st_run 5 11 false rfl rfl rfl (List.Mem.head _) (op_bin _ _ _ _ _ rfl rfl rfl),
     st_plain rfl (op_pick _ _ false _ rfl rfl),
     trivial⟩ ?_
    exact hl3 _ (Option.some.inj h).symm

set_option maxHeartbeats 1000000 in
theorem ok_answer_Good (code : Int) (r : Bool) (h : Sh.answer_Good code = some r) : FnOK Try.prog 18 [.v (.int .i64 code)] (.v (.bool r)) := by
  unfold Sh.answer_Good at h
  refine fn_ok Try.func18 rfl (Nat.le_of_ble_eq_true rfl) rfl rfl fun g0 hn hio => ?_
  refine ht_seq ?_
  refine ht_seqR hn (El := [_, (2, .v (.bool false))]) (init := [0]) (fin := [0]) (sps := [⟨[], [], [1], [(.slot 2)]⟩]) (es' := [(_, _)]) (by kernel_rfl) rfl rfl
   ⟨st_plain rfl (op_assign _ _ _ _ rfl rfl),
   trivial⟩ ?_
  refine pt_then ?_
  refine ht_seq ?_
  refine ht_joinS h (fun (s1 : Bool) => [(2, .v (.bool s1))]) ?_ ?_
  ·rintro s1 h
   refine pt_then ?_
   refine ht_ret ?_
   obtain rfl := Option.some.inj h
   exact pt_ret hio rfl (.tmp _ _ .nil) rfl rfl
  ·intro u2 h hl3 hr4
   refine cond_some h (fun hg1_2 h => ?_) (fun hg1_2 h => ?_)
   ·refine ht_seqR hn (El := [_, (3, .v (.int .i64 code)), (4, .v (.bool ((decide (200 ≤ code))))), (5, .v (.bool true)), (6, .v (.int .i64 code)), (7, .v (.bool ((decide (code < 400))))), (8, .v (.bool ((decide (code < 400))))), (2, .v (.bool ((decide (code < 400)))))]) (init := [0]) (fin := [7]) (sps := [⟨[0], [], [1], [(.slot 3)]⟩, ⟨[1], [], [2], [(.slot 4)]⟩, ⟨[2], [], [3], [(.slot 5)]⟩, ⟨[3, 0], [], [4], [(.slot 6)]⟩, ⟨[3, 4], [], [5], [(.slot 7)]⟩, ⟨[3, 5], [], [6], [(.slot 8)]⟩, ⟨[6], [], [7], [(.slot 2)]⟩]) (es' := [(2, .v (.bool ((decide (code < 400)))))]) (by kernel_rfl) rfl rfl
     ⟨st_plain rfl (op_move _ _ _ _ rfl rfl),
     st_plain rfl (op_bin _ _ _ _ _ rfl rfl rfl),
     st_plain rfl (op_move _ _ _ _ (congrArg (fun b => AV.v (Value.bool b)) hg1_2) rfl),
     st_run 2 5 true rfl rfl rfl (List.Mem.head _) (op_move _ _ _ _ rfl rfl),
     st_run 2 5 true rfl rfl rfl (List.Mem.head _) (op_bin _ _ _ _ _ rfl rfl rfl),
     st_plain rfl (op_pick _ _ true _ rfl rfl),
     st_plain rfl (op_assign _ _ _ _ rfl rfl),
     trivial⟩ ?_
    exact hl3 _ (Option.some.inj h).symm
   ·refine ht_seqR hn (El := [_, (3, .v (.int .i64 code)), (4, .v (.bool ((decide (200 ≤ code))))), (5, .v (.bool false)), (6, .v undef), (7, .v undef), (8, .v (.bool false)), (2, .v (.bool false))]) (init := [0]) (fin := [7]) (sps := [⟨[0], [], [1], [(.slot 3)]⟩, ⟨[1], [], [2], [(.slot 4)]⟩, ⟨[2], [], [3], [(.slot 5)]⟩, ⟨[3], [], [4], [(.slot 6)]⟩, ⟨[3], [], [5], [(.slot 7)]⟩, ⟨[3], [], [6], [(.slot 8)]⟩, ⟨[6], [], [7], [(.slot 2)]⟩]) (es' := [(2, .v (.bool false))]) (by kernel_rfl) rfl rfl
     ⟨st_plain rfl (op_move _ _ _ _ rfl rfl),
     st_plain rfl (op_bin _ _ _ _ _ rfl rfl rfl),
     st_plain rfl (op_move _ _ _ _ (congrArg (fun b => AV.v (Value.bool b)) hg1_2) rfl),
     st_skip 2 5 _ true rfl rfl rfl rfl (List.Mem.head _),
     st_skip 2 5 _ true rfl rfl rfl rfl (List.Mem.head _),
     st_plain rfl (op_pick _ _ false _ rfl rfl),
     st_plain rfl (op_assign _ _ _ _ rfl rfl),
     trivial⟩ ?_
    exact hl3 _ (Option.some.inj h).symm

set_option maxHeartbeats 1000000 in
theorem ok_wherrylaw13_wakes (mx : Int) (r : Bool) (h : Sh.wherrylaw13_wakes  = some r) : FnG Try.prog (GL mx) 19 [] (.v (.bool r)) := by
  unfold Sh.wherrylaw13_wakes at h
  refine fn_okG Try.func19 rfl (Nat.le_of_ble_eq_true rfl) rfl rfl fun g0 hn hio => ?_
  refine ht_seq ?_
  refine ht_seqR hn (El := [_, (0, .v (.bool false))]) (init := [0]) (fin := [0]) (sps := [⟨[], [], [1], [(.slot 0)]⟩]) (es' := [(_, _)]) (by kernel_rfl) rfl rfl
   ⟨st_plain rfl (op_assign _ _ _ _ rfl rfl),
   trivial⟩ ?_
  refine pt_then ?_
  refine ht_seq ?_
  refine ht_seqR hn (El := [_, (7, .fl (.own 9) 1 (List.map Value.string ([(⟨#[111, 107]⟩ : ByteArray)]))), (8, .agg [.v (.int .i64 250), .fl (.own 9) 1 (List.map Value.string ([(⟨#[111, 107]⟩ : ByteArray)]))]), (1, .box 24 [.v (.int .i64 0), .v (.slice none 0 0)]), (1, .box 24 [.v (.int .i64 250), .fl (.own 9) 1 (List.map Value.string ([(⟨#[111, 107]⟩ : ByteArray)]))])]) (init := [0]) (fin := [0, 4]) (sps := [⟨[], [], [1], [(.slot 7)]⟩, ⟨[], [1], [2], [(.slot 8)]⟩, ⟨[], [], [3], [(.slot 1)]⟩, ⟨[], [2, 3], [4], [.cell 1 0, .cell 1 1]⟩]) (es' := [(_, _), (1, .box 24 [.v (.int .i64 250), .fl (.own 9) 1 (List.map Value.string ([(⟨#[111, 107]⟩ : ByteArray)]))])]) (by kernel_rfl) rfl rfl
   ⟨st_plain rfl (op_buildSlice _ _ 1 (.string ByteArray.empty) (List.map Value.string ([(⟨#[111, 107]⟩ : ByteArray)])) [(0, .string (⟨#[111, 107]⟩ : ByteArray))] Try.underlying22 sz9 zr9 (fun _ V w o a hv hes => by simp only [List.map_toArray, List.map_cons, List.map_nil]; try rfl) (litfill (by simp [Instr.fill, Value.cells]; rfl) (by simp [List.range, List.range.loop])) (by simp [Value.oneCell']) rfl (by decide) (by decide) (by decide)),
   st_plain rfl (op_build _ _ _ _ [1, 1] _ _ Try.underlying24 zr24 (fs24 _ Try.underlying24) (.copy _ (.take _ _ Src.nil)) rfl rfl rfl),
   st_plain rfl (op_alloc _ _ zr24),
   st_plain rfl (op_store_take _ _ _ _ _ _ _ _ sz24 rfl rfl rfl (Nat.le_of_ble_eq_true rfl) rfl rfl),
   trivial⟩ ?_
  refine pt_then ?_
  refine ht_seq ?_
  obtain ⟨v1, hv1, h⟩ := bind_some h
  refine ht_seqR hn (El := [_, _, (10, .agg [.v (.int .i64 250), .same (.cell 1 1)]), (11, .tup [.fl (.own 5) 1 (List.map (Value.int .u8) v1.1), .v (.int .i64 v1.2)]), (9, .tup [.fl (.own 5) 1 (List.map (Value.int .u8) v1.1), .v (.int .i64 v1.2)]), (12, .fl (.own 5) 1 (List.map (Value.int .u8) v1.1)), (9, .tup [.any, .v (.int .i64 v1.2)]), (13, .v (.int .i64 v1.2)), (2, .fl (.own 5) 1 (List.map (Value.int .u8) v1.1)), (3, .v (.int .i64 v1.2))]) (init := [0, 1]) (fin := [0, 1, 8, 9]) (sps := [⟨[1], [], [2], [(.slot 10)]⟩, ⟨[2, 1], [], [3], [(.slot 11)]⟩, ⟨[], [3], [4], [(.slot 9)]⟩, ⟨[], [4], [6, 5], [(.slot 12)]⟩, ⟨[6], [], [7], [(.slot 13)]⟩, ⟨[], [5], [8], [(.slot 2)]⟩, ⟨[7], [], [9], [(.slot 3)]⟩]) (es' := [(_, _), (_, _), (2, .fl (.own 5) 1 (List.map (Value.int .u8) v1.1)), (3, .v (.int .i64 v1.2))]) (by kernel_rfl) rfl rfl
   ⟨st_plain rfl (op_loadA _ _ _ _ _ _ _ Try.underlying24 rfl sz24 rfl rfl (Nat.le_of_ble_eq_true rfl) rfl rfl),
   st_plain rfl (op_call _ _ 10 _ _ rfl Try.call10 rfl (ok_answer_Bytes ((T_Reply.mk 250 ([(⟨#[111, 107]⟩ : ByteArray)]))) _ hv1) rfl rfl),
   st_plain rfl (op_move_take _ _ _ _ rfl),
   st_plain rfl (op_extract_take _ _ _ _ _ rfl (Nat.le_of_ble_eq_true rfl) rfl rfl (by decide) rfl),
   st_plain rfl (op_extract _ _ _ _ _ rfl rfl (Nat.le_of_ble_eq_true rfl) rfl rfl),
   st_plain rfl (op_assign_take _ _ _ _ rfl),
   st_plain rfl (op_assign _ _ _ _ rfl rfl),
   trivial⟩ ?_
  refine pt_then ?_
  refine ht_seq ?_
  obtain ⟨v2, hv2, h⟩ := bind_some h
  refine ht_seqR hn (El := (_ :: _ :: _ :: _ :: (15, .same (.slot 2)) :: (16, .tup [.agg [.v (.int .i64 v2.1.Code), .fl (.own 9) 1 (List.map Value.string v2.1.Lines)], .v (.int .i64 v2.2.1), .v (.int .i64 v2.2.2)]) :: (14, .tup [.agg [.v (.int .i64 v2.1.Code), .fl (.own 9) 1 (List.map Value.string v2.1.Lines)], .v (.int .i64 v2.2.1), .v (.int .i64 v2.2.2)]) :: (17, .agg [.v (.int .i64 v2.1.Code), .fl (.own 9) 1 (List.map Value.string v2.1.Lines)]) :: (14, .tup [.any, .v (.int .i64 v2.2.1), .v (.int .i64 v2.2.2)]) :: (18, .v (.int .i64 v2.2.1)) :: (19, .v (.int .i64 v2.2.2)) :: (4, .box 24 [.v (.int .i64 0), .v (.slice none 0 0)]) :: (4, .box 24 [.v (.int .i64 v2.1.Code), .fl (.own 9) 1 (List.map Value.string v2.1.Lines)]) :: (5, .v (.int .i64 v2.2.1)) :: (6, .v (.int .i64 v2.2.2)) :: [])) (init := [0, 1, 2, 3]) (fin := [0, 1, 2, 3, 12, 13, 14]) (sps := [⟨[2], [], [4], [(.slot 15)]⟩, ⟨[4, 2, 0], [], [5], [(.slot 16)]⟩, ⟨[], [5], [6], [(.slot 14)]⟩, ⟨[], [6], [8, 7], [(.slot 17)]⟩, ⟨[8], [], [9], [(.slot 18)]⟩, ⟨[8], [], [10], [(.slot 19)]⟩, ⟨[], [], [11], [(.slot 4)]⟩, ⟨[], [7, 11], [12], [.cell 4 0, .cell 4 1]⟩, ⟨[9], [], [13], [(.slot 5)]⟩, ⟨[10], [], [14], [(.slot 6)]⟩]) (es' := [(_, _), (_, _), (_, _), (_, _), (4, .box 24 [.v (.int .i64 v2.1.Code), .fl (.own 9) 1 (List.map Value.string v2.1.Lines)]), (5, .v (.int .i64 v2.2.1)), (6, .v (.int .i64 v2.2.2))]) (by kernel_rfl) rfl rfl
   ⟨st_plain rfl (op_move _ _ _ _ rfl rfl),
   st_plain rfl (op_callG _ _ 53 11 _ _ rfl Try.call11 rfl rfl (fun _ h => h) (ok_answer_Read mx v1.1 _ hv2) rfl rfl),
   st_plain rfl (op_move_take _ _ _ _ rfl),
   st_plain rfl (op_extract_take _ _ _ _ _ rfl (Nat.le_of_ble_eq_true rfl) rfl rfl (by decide) rfl),
   st_plain rfl (op_extract _ _ _ _ _ rfl rfl (Nat.le_of_ble_eq_true rfl) rfl rfl),
   st_plain rfl (op_extract _ _ _ _ _ rfl rfl (Nat.le_of_ble_eq_true rfl) rfl rfl),
   st_plain rfl (op_alloc _ _ zr24),
   st_plain rfl (op_store_take _ _ _ _ _ _ _ _ sz24 rfl rfl rfl (Nat.le_of_ble_eq_true rfl) rfl rfl),
   st_plain rfl (op_assign _ _ _ _ rfl rfl),
   st_plain rfl (op_assign _ _ _ _ rfl rfl),
   trivial⟩ ?_
  refine pt_then ?_
  refine ht_seq ?_
  refine ht_joinS h (fun (s8 : Bool) => [(53, .glob (GL mx)), (0, .v (.bool s8))]) ?_ ?_
  ·rintro s8 h
   refine pt_then ?_
   refine ht_ret ?_
   refine pt_pick [1] (by kernel_rfl) (es' := [(_, _)]) rfl ?_
   obtain rfl := Option.some.inj h
   exact pt_ret hio rfl (.tmp _ _ .nil) rfl rfl
  ·intro u9 h hl10 hr11
   refine cond_some h (fun hg4_2 h => ?_) (fun hg4_2 h => ?_)
   ·refine cond_some h (fun hg4_6 h => ?_) (fun hg4_6 h => ?_)
    ·obtain ⟨v3, hv3, h⟩ := bind_some h
     refine cond_some h (fun hg4_11 h => ?_) (fun hg4_11 h => ?_)
     ·refine cond_some h (fun hg4_15 h => ?_) (fun hg4_15 h => ?_)
      ·obtain ⟨v4, hv4, h⟩ := bind_some h
       refine cond_some h (fun hg4_20 h => ?_) (fun hg4_20 h => ?_)
       ·obtain ⟨v5, hv5, h⟩ := bind_some h
        refine cond_some h (fun hg4_26 h => ?_) (fun hg4_26 h => ?_)
        ·obtain ⟨v6, hv6, h⟩ := bind_some h
         refine cond_some h (fun hg4_29 h => ?_) (fun hg4_29 h => ?_)
         ·obtain ⟨v7, hv7, h⟩ := bind_some h
          refine ht_seqR hn (El := (_ :: _ :: _ :: _ :: _ :: _ :: _ :: (20, .v (.int .i64 v1.2)) :: (21, .v (.bool (v1.2 == 0))) :: (22, .v (.bool true)) :: (23, .v (.int .i64 v2.2.2)) :: (24, .v (.bool (v2.2.2 == 0))) :: (25, .v (.bool (v2.2.2 == 0))) :: (26, .v (.bool true)) :: (27, .fl (.own 5) 1 (List.map (Value.int .u8) v1.1)) :: (28, .v (.string v3)) :: (29, .v (.bool ((v3.toList == (⟨#[50, 53, 48, 32, 111, 107, 13, 10]⟩ : ByteArray).toList)))) :: (30, .v (.bool ((v3.toList == (⟨#[50, 53, 48, 32, 111, 107, 13, 10]⟩ : ByteArray).toList)))) :: (31, .v (.bool true)) :: (32, .v (.int .i64 v2.2.1)) :: (33, .v (.bool (v2.2.1 == 8))) :: (34, .v (.bool (v2.2.1 == 8))) :: (35, .v (.bool true)) :: (36, .agg [.v (.int .i64 v2.1.Code), .fl (.own 9) 1 (List.map Value.string v2.1.Lines)]) :: (37, .agg [.v (.int .i64 250), .fl (.own 9) 1 (List.map Value.string ([(⟨#[111, 107]⟩ : ByteArray)]))]) :: (38, .v (.bool v4)) :: (39, .v (.bool v4)) :: (40, .v (.bool true)) :: (41, .fl (.own 9) 1 (List.map Value.string ([(⟨#[97]⟩ : ByteArray)]))) :: (42, .agg [.v (.int .i64 270), .fl (.own 9) 1 (List.map Value.string ([(⟨#[97]⟩ : ByteArray)]))]) :: (43, .v (.int .i64 v5)) :: (44, .v (.bool (v5 == 5))) :: (45, .v (.bool (v5 == 5))) :: (46, .v (.bool true)) :: (47, .v (.bool v6)) :: (48, .v (.bool v6)) :: (49, .v (.bool true)) :: (50, .v (.bool v7)) :: (51, .v (.bool (!v7))) :: (52, .v (.bool (!v7))) :: (0, .v (.bool (!v7))) :: [])) (init := [0, 1, 2, 3, 4, 5, 6]) (fin := [0, 40]) (sps := (⟨[3], [], [7], [(.slot 20)]⟩ :: ⟨[7], [], [8], [(.slot 21)]⟩ :: ⟨[8], [], [9], [(.slot 22)]⟩ :: ⟨[9, 6], [], [10], [(.slot 23)]⟩ :: ⟨[9, 10], [], [11], [(.slot 24)]⟩ :: ⟨[9, 11], [], [12], [(.slot 25)]⟩ :: ⟨[12], [], [13], [(.slot 26)]⟩ :: ⟨[13], [2], [14], [(.slot 27)]⟩ :: ⟨[13, 14], [], [15], [(.slot 28)]⟩ :: ⟨[13, 15], [], [16], [(.slot 29)]⟩ :: ⟨[13, 16], [], [17], [(.slot 30)]⟩ :: ⟨[17], [], [18], [(.slot 31)]⟩ :: ⟨[18, 5], [], [19], [(.slot 32)]⟩ :: ⟨[18, 19], [], [20], [(.slot 33)]⟩ :: ⟨[18, 20], [], [21], [(.slot 34)]⟩ :: ⟨[21], [], [22], [(.slot 35)]⟩ :: ⟨[22], [4], [23], [(.slot 36)]⟩ :: ⟨[22], [1], [24], [(.slot 37)]⟩ :: ⟨[22, 23, 24], [], [25], [(.slot 38)]⟩ :: ⟨[22, 25], [], [26], [(.slot 39)]⟩ :: ⟨[26], [], [27], [(.slot 40)]⟩ :: ⟨[27], [], [28], [(.slot 41)]⟩ :: ⟨[27], [28], [29], [(.slot 42)]⟩ :: ⟨[27, 29], [], [30], [(.slot 43)]⟩ :: ⟨[27, 30], [], [31], [(.slot 44)]⟩ :: ⟨[27, 31], [], [32], [(.slot 45)]⟩ :: ⟨[32], [], [33], [(.slot 46)]⟩ :: ⟨[33], [], [34], [(.slot 47)]⟩ :: ⟨[33, 34], [], [35], [(.slot 48)]⟩ :: ⟨[35], [], [36], [(.slot 49)]⟩ :: ⟨[36], [], [37], [(.slot 50)]⟩ :: ⟨[36, 37], [], [38], [(.slot 51)]⟩ :: ⟨[36, 38], [], [39], [(.slot 52)]⟩ :: ⟨[39], [], [40], [(.slot 0)]⟩ :: [])) (es' := [(_, _), (0, .v (.bool (!v7)))]) (by kernel_rfl) rfl rfl
           ⟨st_plain rfl (op_move _ _ _ _ rfl rfl),
           st_plain rfl (op_bin _ _ _ _ _ rfl rfl rfl),
           st_plain rfl (op_move _ _ _ _ (congrArg (fun b => AV.v (Value.bool b)) hg4_2) rfl),
           st_run 2 22 true rfl rfl rfl (List.Mem.head _) (op_move _ _ _ _ rfl rfl),
           st_run 2 22 true rfl rfl rfl (List.Mem.head _) (op_bin _ _ _ _ _ rfl rfl rfl),
           st_plain rfl (op_pick _ _ true _ rfl rfl),
           st_plain rfl (op_move _ _ _ _ (congrArg (fun b => AV.v (Value.bool b)) hg4_6) rfl),
           st_run 6 26 true rfl rfl rfl (List.Mem.head _) (op_move_take _ _ _ _ rfl),
           st_run 6 26 true rfl rfl rfl (List.Mem.head _) ((Option.some.inj hv3) ▸ op_bytes_str _ _ _ v1.1 Try.underlying25 Try.underlying9 Try.underlying5 rfl),
           st_run 6 26 true rfl rfl rfl (List.Mem.head _) (op_bin _ _ _ _ _ rfl rfl rfl),
           st_plain rfl (op_pick _ _ true _ rfl rfl),
           st_plain rfl (op_move _ _ _ _ (congrArg (fun b => AV.v (Value.bool b)) hg4_11) rfl),
           st_run 11 31 true rfl rfl rfl (List.Mem.head _) (op_move _ _ _ _ rfl rfl),
           st_run 11 31 true rfl rfl rfl (List.Mem.head _) (op_bin _ _ _ _ _ rfl rfl rfl),
           st_plain rfl (op_pick _ _ true _ rfl rfl),
           st_plain rfl (op_move _ _ _ _ (congrArg (fun b => AV.v (Value.bool b)) hg4_15) rfl),
           st_run 15 35 true rfl rfl rfl (List.Mem.head _) (op_loadA_take _ _ _ _ Try.underlying24 rfl sz24 rfl rfl),
           st_run 15 35 true rfl rfl rfl (List.Mem.head _) (op_loadA_take _ _ _ _ Try.underlying24 rfl sz24 rfl rfl),
           st_run 15 35 true rfl rfl rfl (List.Mem.head _) (op_call _ _ 17 _ _ rfl Try.call17 rfl (ok_wherrykeep_Reply v2.1 ((T_Reply.mk 250 ([(⟨#[111, 107]⟩ : ByteArray)]))) _ hv4) rfl rfl),
           st_plain rfl (op_pick _ _ true _ rfl rfl),
           st_plain rfl (op_move _ _ _ _ (congrArg (fun b => AV.v (Value.bool b)) hg4_20) rfl),
           st_run 20 40 true rfl rfl rfl (List.Mem.head _) (op_buildSlice _ _ 1 (.string ByteArray.empty) (List.map Value.string ([(⟨#[97]⟩ : ByteArray)])) [(0, .string (⟨#[97]⟩ : ByteArray))] Try.underlying22 sz9 zr9 (fun _ V w o a hv hes => by simp only [List.map_toArray, List.map_cons, List.map_nil]; try rfl) (litfill (by simp [Instr.fill, Value.cells]; rfl) (by simp [List.range, List.range.loop])) (by simp [Value.oneCell']) rfl (by decide) (by decide) (by decide)),
           st_run 20 40 true rfl rfl rfl (List.Mem.head _) (op_build _ _ _ _ [1, 1] _ _ Try.underlying24 zr24 (fs24 _ Try.underlying24) (.copy _ (.take _ _ Src.nil)) rfl rfl rfl),
           st_run 20 40 true rfl rfl rfl (List.Mem.head _) (op_call _ _ 14 _ _ rfl Try.call14 rfl (ok_answer_Check ((T_Reply.mk 270 ([(⟨#[97]⟩ : ByteArray)]))) _ hv5) rfl rfl),
           st_run 20 40 true rfl rfl rfl (List.Mem.head _) (op_bin _ _ _ _ _ rfl rfl rfl),
           st_plain rfl (op_pick _ _ true _ rfl rfl),
           st_plain rfl (op_move _ _ _ _ (congrArg (fun b => AV.v (Value.bool b)) hg4_26) rfl),
           st_run 26 46 true rfl rfl rfl (List.Mem.head _) (op_call _ _ 18 _ _ rfl Try.call18 rfl (ok_answer_Good 250 _ hv6) rfl rfl),
           st_plain rfl (op_pick _ _ true _ rfl rfl),
           st_plain rfl (op_move _ _ _ _ (congrArg (fun b => AV.v (Value.bool b)) hg4_29) rfl),
           st_run 29 49 true rfl rfl rfl (List.Mem.head _) (op_call _ _ 18 _ _ rfl Try.call18 rfl (ok_answer_Good 503 _ hv7) rfl rfl),
           st_run 29 49 true rfl rfl rfl (List.Mem.head _) (op_un _ _ _ _ rfl rfl),
           st_plain rfl (op_pick _ _ true _ rfl rfl),
           st_plain rfl (op_assign _ _ _ _ rfl rfl),
           trivial⟩ ?_
          exact hl10 _ (Option.some.inj h).symm
         ·refine ht_seqR hn (El := (_ :: _ :: _ :: _ :: _ :: _ :: _ :: (20, .v (.int .i64 v1.2)) :: (21, .v (.bool (v1.2 == 0))) :: (22, .v (.bool true)) :: (23, .v (.int .i64 v2.2.2)) :: (24, .v (.bool (v2.2.2 == 0))) :: (25, .v (.bool (v2.2.2 == 0))) :: (26, .v (.bool true)) :: (27, .fl (.own 5) 1 (List.map (Value.int .u8) v1.1)) :: (28, .v (.string v3)) :: (29, .v (.bool ((v3.toList == (⟨#[50, 53, 48, 32, 111, 107, 13, 10]⟩ : ByteArray).toList)))) :: (30, .v (.bool ((v3.toList == (⟨#[50, 53, 48, 32, 111, 107, 13, 10]⟩ : ByteArray).toList)))) :: (31, .v (.bool true)) :: (32, .v (.int .i64 v2.2.1)) :: (33, .v (.bool (v2.2.1 == 8))) :: (34, .v (.bool (v2.2.1 == 8))) :: (35, .v (.bool true)) :: (36, .agg [.v (.int .i64 v2.1.Code), .fl (.own 9) 1 (List.map Value.string v2.1.Lines)]) :: (37, .agg [.v (.int .i64 250), .fl (.own 9) 1 (List.map Value.string ([(⟨#[111, 107]⟩ : ByteArray)]))]) :: (38, .v (.bool v4)) :: (39, .v (.bool v4)) :: (40, .v (.bool true)) :: (41, .fl (.own 9) 1 (List.map Value.string ([(⟨#[97]⟩ : ByteArray)]))) :: (42, .agg [.v (.int .i64 270), .fl (.own 9) 1 (List.map Value.string ([(⟨#[97]⟩ : ByteArray)]))]) :: (43, .v (.int .i64 v5)) :: (44, .v (.bool (v5 == 5))) :: (45, .v (.bool (v5 == 5))) :: (46, .v (.bool true)) :: (47, .v (.bool v6)) :: (48, .v (.bool v6)) :: (49, .v (.bool false)) :: (50, .v undef) :: (51, .v undef) :: (52, .v (.bool false)) :: (0, .v (.bool false)) :: [])) (init := [0, 1, 2, 3, 4, 5, 6]) (fin := [0, 40]) (sps := (⟨[3], [], [7], [(.slot 20)]⟩ :: ⟨[7], [], [8], [(.slot 21)]⟩ :: ⟨[8], [], [9], [(.slot 22)]⟩ :: ⟨[9, 6], [], [10], [(.slot 23)]⟩ :: ⟨[9, 10], [], [11], [(.slot 24)]⟩ :: ⟨[9, 11], [], [12], [(.slot 25)]⟩ :: ⟨[12], [], [13], [(.slot 26)]⟩ :: ⟨[13], [2], [14], [(.slot 27)]⟩ :: ⟨[13, 14], [], [15], [(.slot 28)]⟩ :: ⟨[13, 15], [], [16], [(.slot 29)]⟩ :: ⟨[13, 16], [], [17], [(.slot 30)]⟩ :: ⟨[17], [], [18], [(.slot 31)]⟩ :: ⟨[18, 5], [], [19], [(.slot 32)]⟩ :: ⟨[18, 19], [], [20], [(.slot 33)]⟩ :: ⟨[18, 20], [], [21], [(.slot 34)]⟩ :: ⟨[21], [], [22], [(.slot 35)]⟩ :: ⟨[22], [4], [23], [(.slot 36)]⟩ :: ⟨[22], [1], [24], [(.slot 37)]⟩ :: ⟨[22, 23, 24], [], [25], [(.slot 38)]⟩ :: ⟨[22, 25], [], [26], [(.slot 39)]⟩ :: ⟨[26], [], [27], [(.slot 40)]⟩ :: ⟨[27], [], [28], [(.slot 41)]⟩ :: ⟨[27], [28], [29], [(.slot 42)]⟩ :: ⟨[27, 29], [], [30], [(.slot 43)]⟩ :: ⟨[27, 30], [], [31], [(.slot 44)]⟩ :: ⟨[27, 31], [], [32], [(.slot 45)]⟩ :: ⟨[32], [], [33], [(.slot 46)]⟩ :: ⟨[33], [], [34], [(.slot 47)]⟩ :: ⟨[33, 34], [], [35], [(.slot 48)]⟩ :: ⟨[35], [], [36], [(.slot 49)]⟩ :: ⟨[36], [], [37], [(.slot 50)]⟩ :: ⟨[36], [], [38], [(.slot 51)]⟩ :: ⟨[36], [], [39], [(.slot 52)]⟩ :: ⟨[39], [], [40], [(.slot 0)]⟩ :: [])) (es' := [(_, _), (0, .v (.bool false))]) (by kernel_rfl) rfl rfl
           ⟨st_plain rfl (op_move _ _ _ _ rfl rfl),
           st_plain rfl (op_bin _ _ _ _ _ rfl rfl rfl),
           st_plain rfl (op_move _ _ _ _ (congrArg (fun b => AV.v (Value.bool b)) hg4_2) rfl),
           st_run 2 22 true rfl rfl rfl (List.Mem.head _) (op_move _ _ _ _ rfl rfl),
           st_run 2 22 true rfl rfl rfl (List.Mem.head _) (op_bin _ _ _ _ _ rfl rfl rfl),
           st_plain rfl (op_pick _ _ true _ rfl rfl),
           st_plain rfl (op_move _ _ _ _ (congrArg (fun b => AV.v (Value.bool b)) hg4_6) rfl),
           st_run 6 26 true rfl rfl rfl (List.Mem.head _) (op_move_take _ _ _ _ rfl),
           st_run 6 26 true rfl rfl rfl (List.Mem.head _) ((Option.some.inj hv3) ▸ op_bytes_str _ _ _ v1.1 Try.underlying25 Try.underlying9 Try.underlying5 rfl),
           st_run 6 26 true rfl rfl rfl (List.Mem.head _) (op_bin _ _ _ _ _ rfl rfl rfl),
           st_plain rfl (op_pick _ _ true _ rfl rfl),
           st_plain rfl (op_move _ _ _ _ (congrArg (fun b => AV.v (Value.bool b)) hg4_11) rfl),
           st_run 11 31 true rfl rfl rfl (List.Mem.head _) (op_move _ _ _ _ rfl rfl),
           st_run 11 31 true rfl rfl rfl (List.Mem.head _) (op_bin _ _ _ _ _ rfl rfl rfl),
           st_plain rfl (op_pick _ _ true _ rfl rfl),
           st_plain rfl (op_move _ _ _ _ (congrArg (fun b => AV.v (Value.bool b)) hg4_15) rfl),
           st_run 15 35 true rfl rfl rfl (List.Mem.head _) (op_loadA_take _ _ _ _ Try.underlying24 rfl sz24 rfl rfl),
           st_run 15 35 true rfl rfl rfl (List.Mem.head _) (op_loadA_take _ _ _ _ Try.underlying24 rfl sz24 rfl rfl),
           st_run 15 35 true rfl rfl rfl (List.Mem.head _) (op_call _ _ 17 _ _ rfl Try.call17 rfl (ok_wherrykeep_Reply v2.1 ((T_Reply.mk 250 ([(⟨#[111, 107]⟩ : ByteArray)]))) _ hv4) rfl rfl),
           st_plain rfl (op_pick _ _ true _ rfl rfl),
           st_plain rfl (op_move _ _ _ _ (congrArg (fun b => AV.v (Value.bool b)) hg4_20) rfl),
           st_run 20 40 true rfl rfl rfl (List.Mem.head _) (op_buildSlice _ _ 1 (.string ByteArray.empty) (List.map Value.string ([(⟨#[97]⟩ : ByteArray)])) [(0, .string (⟨#[97]⟩ : ByteArray))] Try.underlying22 sz9 zr9 (fun _ V w o a hv hes => by simp only [List.map_toArray, List.map_cons, List.map_nil]; try rfl) (litfill (by simp [Instr.fill, Value.cells]; rfl) (by simp [List.range, List.range.loop])) (by simp [Value.oneCell']) rfl (by decide) (by decide) (by decide)),
           st_run 20 40 true rfl rfl rfl (List.Mem.head _) (op_build _ _ _ _ [1, 1] _ _ Try.underlying24 zr24 (fs24 _ Try.underlying24) (.copy _ (.take _ _ Src.nil)) rfl rfl rfl),
           st_run 20 40 true rfl rfl rfl (List.Mem.head _) (op_call _ _ 14 _ _ rfl Try.call14 rfl (ok_answer_Check ((T_Reply.mk 270 ([(⟨#[97]⟩ : ByteArray)]))) _ hv5) rfl rfl),
           st_run 20 40 true rfl rfl rfl (List.Mem.head _) (op_bin _ _ _ _ _ rfl rfl rfl),
           st_plain rfl (op_pick _ _ true _ rfl rfl),
           st_plain rfl (op_move _ _ _ _ (congrArg (fun b => AV.v (Value.bool b)) hg4_26) rfl),
           st_run 26 46 true rfl rfl rfl (List.Mem.head _) (op_call _ _ 18 _ _ rfl Try.call18 rfl (ok_answer_Good 250 _ hv6) rfl rfl),
           st_plain rfl (op_pick _ _ true _ rfl rfl),
           st_plain rfl (op_move _ _ _ _ (congrArg (fun b => AV.v (Value.bool b)) hg4_29) rfl),
           st_skip 29 49 _ true rfl rfl rfl rfl (List.Mem.head _),
           st_skip 29 49 _ true rfl rfl rfl rfl (List.Mem.head _),
           st_plain rfl (op_pick _ _ false _ rfl rfl),
           st_plain rfl (op_assign _ _ _ _ rfl rfl),
           trivial⟩ ?_
          exact hl10 _ (Option.some.inj h).symm
        ·refine ht_seqR hn (El := (_ :: _ :: _ :: _ :: _ :: _ :: _ :: (20, .v (.int .i64 v1.2)) :: (21, .v (.bool (v1.2 == 0))) :: (22, .v (.bool true)) :: (23, .v (.int .i64 v2.2.2)) :: (24, .v (.bool (v2.2.2 == 0))) :: (25, .v (.bool (v2.2.2 == 0))) :: (26, .v (.bool true)) :: (27, .fl (.own 5) 1 (List.map (Value.int .u8) v1.1)) :: (28, .v (.string v3)) :: (29, .v (.bool ((v3.toList == (⟨#[50, 53, 48, 32, 111, 107, 13, 10]⟩ : ByteArray).toList)))) :: (30, .v (.bool ((v3.toList == (⟨#[50, 53, 48, 32, 111, 107, 13, 10]⟩ : ByteArray).toList)))) :: (31, .v (.bool true)) :: (32, .v (.int .i64 v2.2.1)) :: (33, .v (.bool (v2.2.1 == 8))) :: (34, .v (.bool (v2.2.1 == 8))) :: (35, .v (.bool true)) :: (36, .agg [.v (.int .i64 v2.1.Code), .fl (.own 9) 1 (List.map Value.string v2.1.Lines)]) :: (37, .agg [.v (.int .i64 250), .fl (.own 9) 1 (List.map Value.string ([(⟨#[111, 107]⟩ : ByteArray)]))]) :: (38, .v (.bool v4)) :: (39, .v (.bool v4)) :: (40, .v (.bool true)) :: (41, .fl (.own 9) 1 (List.map Value.string ([(⟨#[97]⟩ : ByteArray)]))) :: (42, .agg [.v (.int .i64 270), .fl (.own 9) 1 (List.map Value.string ([(⟨#[97]⟩ : ByteArray)]))]) :: (43, .v (.int .i64 v5)) :: (44, .v (.bool (v5 == 5))) :: (45, .v (.bool (v5 == 5))) :: (46, .v (.bool false)) :: (47, .v undef) :: (48, .v (.bool false)) :: (49, .v (.bool false)) :: (50, .v undef) :: (51, .v undef) :: (52, .v (.bool false)) :: (0, .v (.bool false)) :: [])) (init := [0, 1, 2, 3, 4, 5, 6]) (fin := [0, 40]) (sps := (⟨[3], [], [7], [(.slot 20)]⟩ :: ⟨[7], [], [8], [(.slot 21)]⟩ :: ⟨[8], [], [9], [(.slot 22)]⟩ :: ⟨[9, 6], [], [10], [(.slot 23)]⟩ :: ⟨[9, 10], [], [11], [(.slot 24)]⟩ :: ⟨[9, 11], [], [12], [(.slot 25)]⟩ :: ⟨[12], [], [13], [(.slot 26)]⟩ :: ⟨[13], [2], [14], [(.slot 27)]⟩ :: ⟨[13, 14], [], [15], [(.slot 28)]⟩ :: ⟨[13, 15], [], [16], [(.slot 29)]⟩ :: ⟨[13, 16], [], [17], [(.slot 30)]⟩ :: ⟨[17], [], [18], [(.slot 31)]⟩ :: ⟨[18, 5], [], [19], [(.slot 32)]⟩ :: ⟨[18, 19], [], [20], [(.slot 33)]⟩ :: ⟨[18, 20], [], [21], [(.slot 34)]⟩ :: ⟨[21], [], [22], [(.slot 35)]⟩ :: ⟨[22], [4], [23], [(.slot 36)]⟩ :: ⟨[22], [1], [24], [(.slot 37)]⟩ :: ⟨[22, 23, 24], [], [25], [(.slot 38)]⟩ :: ⟨[22, 25], [], [26], [(.slot 39)]⟩ :: ⟨[26], [], [27], [(.slot 40)]⟩ :: ⟨[27], [], [28], [(.slot 41)]⟩ :: ⟨[27], [28], [29], [(.slot 42)]⟩ :: ⟨[27, 29], [], [30], [(.slot 43)]⟩ :: ⟨[27, 30], [], [31], [(.slot 44)]⟩ :: ⟨[27, 31], [], [32], [(.slot 45)]⟩ :: ⟨[32], [], [33], [(.slot 46)]⟩ :: ⟨[33], [], [34], [(.slot 47)]⟩ :: ⟨[33], [], [35], [(.slot 48)]⟩ :: ⟨[35], [], [36], [(.slot 49)]⟩ :: ⟨[36], [], [37], [(.slot 50)]⟩ :: ⟨[36], [], [38], [(.slot 51)]⟩ :: ⟨[36], [], [39], [(.slot 52)]⟩ :: ⟨[39], [], [40], [(.slot 0)]⟩ :: [])) (es' := [(_, _), (0, .v (.bool false))]) (by kernel_rfl) rfl rfl
          ⟨st_plain rfl (op_move _ _ _ _ rfl rfl),
          st_plain rfl (op_bin _ _ _ _ _ rfl rfl rfl),
          st_plain rfl (op_move _ _ _ _ (congrArg (fun b => AV.v (Value.bool b)) hg4_2) rfl),
          st_run 2 22 true rfl rfl rfl (List.Mem.head _) (op_move _ _ _ _ rfl rfl),
          st_run 2 22 true rfl rfl rfl (List.Mem.head _) (op_bin _ _ _ _ _ rfl rfl rfl),
          st_plain rfl (op_pick _ _ true _ rfl rfl),
          st_plain rfl (op_move _ _ _ _ (congrArg (fun b => AV.v (Value.bool b)) hg4_6) rfl),
          st_run 6 26 true rfl rfl rfl (List.Mem.head _) (op_move_take _ _ _ _ rfl),
          st_run 6 26 true rfl rfl rfl (List.Mem.head _) ((Option.some.inj hv3) ▸ op_bytes_str _ _ _ v1.1 Try.underlying25 Try.underlying9 Try.underlying5 rfl),
          st_run 6 26 true rfl rfl rfl (List.Mem.head _) (op_bin _ _ _ _ _ rfl rfl rfl),
          st_plain rfl (op_pick _ _ true _ rfl rfl),
          st_plain rfl (op_move _ _ _ _ (congrArg (fun b => AV.v (Value.bool b)) hg4_11) rfl),
          st_run 11 31 true rfl rfl rfl (List.Mem.head _) (op_move _ _ _ _ rfl rfl),
          st_run 11 31 true rfl rfl rfl (List.Mem.head _) (op_bin _ _ _ _ _ rfl rfl rfl),
          st_plain rfl (op_pick _ _ true _ rfl rfl),
          st_plain rfl (op_move _ _ _ _ (congrArg (fun b => AV.v (Value.bool b)) hg4_15) rfl),
          st_run 15 35 true rfl rfl rfl (List.Mem.head _) (op_loadA_take _ _ _ _ Try.underlying24 rfl sz24 rfl rfl),
          st_run 15 35 true rfl rfl rfl (List.Mem.head _) (op_loadA_take _ _ _ _ Try.underlying24 rfl sz24 rfl rfl),
          st_run 15 35 true rfl rfl rfl (List.Mem.head _) (op_call _ _ 17 _ _ rfl Try.call17 rfl (ok_wherrykeep_Reply v2.1 ((T_Reply.mk 250 ([(⟨#[111, 107]⟩ : ByteArray)]))) _ hv4) rfl rfl),
          st_plain rfl (op_pick _ _ true _ rfl rfl),
          st_plain rfl (op_move _ _ _ _ (congrArg (fun b => AV.v (Value.bool b)) hg4_20) rfl),
          st_run 20 40 true rfl rfl rfl (List.Mem.head _) (op_buildSlice _ _ 1 (.string ByteArray.empty) (List.map Value.string ([(⟨#[97]⟩ : ByteArray)])) [(0, .string (⟨#[97]⟩ : ByteArray))] Try.underlying22 sz9 zr9 (fun _ V w o a hv hes => by simp only [List.map_toArray, List.map_cons, List.map_nil]; try rfl) (litfill (by simp [Instr.fill, Value.cells]; rfl) (by simp [List.range, List.range.loop])) (by simp [Value.oneCell']) rfl (by decide) (by decide) (by decide)),
          st_run 20 40 true rfl rfl rfl (List.Mem.head _) (op_build _ _ _ _ [1, 1] _ _ Try.underlying24 zr24 (fs24 _ Try.underlying24) (.copy _ (.take _ _ Src.nil)) rfl rfl rfl),
          st_run 20 40 true rfl rfl rfl (List.Mem.head _) (op_call _ _ 14 _ _ rfl Try.call14 rfl (ok_answer_Check ((T_Reply.mk 270 ([(⟨#[97]⟩ : ByteArray)]))) _ hv5) rfl rfl),
          st_run 20 40 true rfl rfl rfl (List.Mem.head _) (op_bin _ _ _ _ _ rfl rfl rfl),
          st_plain rfl (op_pick _ _ true _ rfl rfl),
          st_plain rfl (op_move _ _ _ _ (congrArg (fun b => AV.v (Value.bool b)) hg4_26) rfl),
          st_skip 26 46 _ true rfl rfl rfl rfl (List.Mem.head _),
          st_plain rfl (op_pick _ _ false _ rfl rfl),
          st_plain rfl (op_move _ _ _ _ rfl rfl),
          st_skip 29 49 _ true rfl rfl rfl rfl (List.Mem.head _),
          st_skip 29 49 _ true rfl rfl rfl rfl (List.Mem.head _),
          st_plain rfl (op_pick _ _ false _ rfl rfl),
          st_plain rfl (op_assign _ _ _ _ rfl rfl),
          trivial⟩ ?_
         exact hl10 _ (Option.some.inj h).symm
       ·refine ht_seqR hn (El := (_ :: _ :: _ :: _ :: _ :: _ :: _ :: (20, .v (.int .i64 v1.2)) :: (21, .v (.bool (v1.2 == 0))) :: (22, .v (.bool true)) :: (23, .v (.int .i64 v2.2.2)) :: (24, .v (.bool (v2.2.2 == 0))) :: (25, .v (.bool (v2.2.2 == 0))) :: (26, .v (.bool true)) :: (27, .fl (.own 5) 1 (List.map (Value.int .u8) v1.1)) :: (28, .v (.string v3)) :: (29, .v (.bool ((v3.toList == (⟨#[50, 53, 48, 32, 111, 107, 13, 10]⟩ : ByteArray).toList)))) :: (30, .v (.bool ((v3.toList == (⟨#[50, 53, 48, 32, 111, 107, 13, 10]⟩ : ByteArray).toList)))) :: (31, .v (.bool true)) :: (32, .v (.int .i64 v2.2.1)) :: (33, .v (.bool (v2.2.1 == 8))) :: (34, .v (.bool (v2.2.1 == 8))) :: (35, .v (.bool true)) :: (36, .agg [.v (.int .i64 v2.1.Code), .fl (.own 9) 1 (List.map Value.string v2.1.Lines)]) :: (37, .agg [.v (.int .i64 250), .fl (.own 9) 1 (List.map Value.string ([(⟨#[111, 107]⟩ : ByteArray)]))]) :: (38, .v (.bool v4)) :: (39, .v (.bool v4)) :: (40, .v (.bool false)) :: (41, .v undef) :: (42, .v undef) :: (43, .v undef) :: (44, .v undef) :: (45, .v (.bool false)) :: (46, .v (.bool false)) :: (47, .v undef) :: (48, .v (.bool false)) :: (49, .v (.bool false)) :: (50, .v undef) :: (51, .v undef) :: (52, .v (.bool false)) :: (0, .v (.bool false)) :: [])) (init := [0, 1, 2, 3, 4, 5, 6]) (fin := [0, 40]) (sps := (⟨[3], [], [7], [(.slot 20)]⟩ :: ⟨[7], [], [8], [(.slot 21)]⟩ :: ⟨[8], [], [9], [(.slot 22)]⟩ :: ⟨[9, 6], [], [10], [(.slot 23)]⟩ :: ⟨[9, 10], [], [11], [(.slot 24)]⟩ :: ⟨[9, 11], [], [12], [(.slot 25)]⟩ :: ⟨[12], [], [13], [(.slot 26)]⟩ :: ⟨[13], [2], [14], [(.slot 27)]⟩ :: ⟨[13, 14], [], [15], [(.slot 28)]⟩ :: ⟨[13, 15], [], [16], [(.slot 29)]⟩ :: ⟨[13, 16], [], [17], [(.slot 30)]⟩ :: ⟨[17], [], [18], [(.slot 31)]⟩ :: ⟨[18, 5], [], [19], [(.slot 32)]⟩ :: ⟨[18, 19], [], [20], [(.slot 33)]⟩ :: ⟨[18, 20], [], [21], [(.slot 34)]⟩ :: ⟨[21], [], [22], [(.slot 35)]⟩ :: ⟨[22], [4], [23], [(.slot 36)]⟩ :: ⟨[22], [1], [24], [(.slot 37)]⟩ :: ⟨[22, 23, 24], [], [25], [(.slot 38)]⟩ :: ⟨[22, 25], [], [26], [(.slot 39)]⟩ :: ⟨[26], [], [27], [(.slot 40)]⟩ :: ⟨[27], [], [28], [(.slot 41)]⟩ :: ⟨[27], [], [29], [(.slot 42)]⟩ :: ⟨[27], [], [30], [(.slot 43)]⟩ :: ⟨[27], [], [31], [(.slot 44)]⟩ :: ⟨[27], [], [32], [(.slot 45)]⟩ :: ⟨[32], [], [33], [(.slot 46)]⟩ :: ⟨[33], [], [34], [(.slot 47)]⟩ :: ⟨[33], [], [35], [(.slot 48)]⟩ :: ⟨[35], [], [36], [(.slot 49)]⟩ :: ⟨[36], [], [37], [(.slot 50)]⟩ :: ⟨[36], [], [38], [(.slot 51)]⟩ :: ⟨[36], [], [39], [(.slot 52)]⟩ :: ⟨[39], [], [40], [(.slot 0)]⟩ :: [])) (es' := [(_, _), (0, .v (.bool false))]) (by kernel_rfl) rfl rfl
         ⟨st_plain rfl (op_move _ _ _ _ rfl rfl),
         st_plain rfl (op_bin _ _ _ _ _ rfl rfl rfl),
         st_plain rfl (op_move _ _ _ _ (congrArg (fun b => AV.v (Value.bool b)) hg4_2) rfl),
         st_run 2 22 true rfl rfl rfl (List.Mem.head _) (op_move _ _ _ _ rfl rfl),
         st_run 2 22 true rfl rfl rfl (List.Mem.head _) (op_bin _ _ _ _ _ rfl rfl rfl),
         st_plain rfl (op_pick _ _ true _ rfl rfl),
         st_plain rfl (op_move _ _ _ _ (congrArg (fun b => AV.v (Value.bool b)) hg4_6) rfl),
         st_run 6 26 true rfl rfl rfl (List.Mem.head _) (op_move_take _ _ _ _ rfl),
         st_run 6 26 true rfl rfl rfl (List.Mem.head _) ((Option.some.inj hv3) ▸ op_bytes_str _ _ _ v1.1 Try.underlying25 Try.underlying9 Try.underlying5 rfl),
         st_run 6 26 true rfl rfl rfl (List.Mem.head _) (op_bin _ _ _ _ _ rfl rfl rfl),
         st_plain rfl (op_pick _ _ true _ rfl rfl),
         st_plain rfl (op_move _ _ _ _ (congrArg (fun b => AV.v (Value.bool b)) hg4_11) rfl),
         st_run 11 31 true rfl rfl rfl (List.Mem.head _) (op_move _ _ _ _ rfl rfl),
         st_run 11 31 true rfl rfl rfl (List.Mem.head _) (op_bin _ _ _ _ _ rfl rfl rfl),
         st_plain rfl (op_pick _ _ true _ rfl rfl),
         st_plain rfl (op_move _ _ _ _ (congrArg (fun b => AV.v (Value.bool b)) hg4_15) rfl),
         st_run 15 35 true rfl rfl rfl (List.Mem.head _) (op_loadA_take _ _ _ _ Try.underlying24 rfl sz24 rfl rfl),
         st_run 15 35 true rfl rfl rfl (List.Mem.head _) (op_loadA_take _ _ _ _ Try.underlying24 rfl sz24 rfl rfl),
         st_run 15 35 true rfl rfl rfl (List.Mem.head _) (op_call _ _ 17 _ _ rfl Try.call17 rfl (ok_wherrykeep_Reply v2.1 ((T_Reply.mk 250 ([(⟨#[111, 107]⟩ : ByteArray)]))) _ hv4) rfl rfl),
         st_plain rfl (op_pick _ _ true _ rfl rfl),
         st_plain rfl (op_move _ _ _ _ (congrArg (fun b => AV.v (Value.bool b)) hg4_20) rfl),
         st_skip 20 40 _ true rfl rfl rfl rfl (List.Mem.head _),
         st_skip 20 40 _ true rfl rfl rfl rfl (List.Mem.head _),
         st_skip 20 40 _ true rfl rfl rfl rfl (List.Mem.head _),
         st_skip 20 40 _ true rfl rfl rfl rfl (List.Mem.head _),
         st_plain rfl (op_pick _ _ false _ rfl rfl),
         st_plain rfl (op_move _ _ _ _ rfl rfl),
         st_skip 26 46 _ true rfl rfl rfl rfl (List.Mem.head _),
         st_plain rfl (op_pick _ _ false _ rfl rfl),
         st_plain rfl (op_move _ _ _ _ rfl rfl),
         st_skip 29 49 _ true rfl rfl rfl rfl (List.Mem.head _),
         st_skip 29 49 _ true rfl rfl rfl rfl (List.Mem.head _),
         st_plain rfl (op_pick _ _ false _ rfl rfl),
         st_plain rfl (op_assign _ _ _ _ rfl rfl),
         trivial⟩ ?_
        exact hl10 _ (Option.some.inj h).symm
      ·refine ht_seqR hn (El := (_ :: _ :: _ :: _ :: _ :: _ :: _ :: (20, .v (.int .i64 v1.2)) :: (21, .v (.bool (v1.2 == 0))) :: (22, .v (.bool true)) :: (23, .v (.int .i64 v2.2.2)) :: (24, .v (.bool (v2.2.2 == 0))) :: (25, .v (.bool (v2.2.2 == 0))) :: (26, .v (.bool true)) :: (27, .fl (.own 5) 1 (List.map (Value.int .u8) v1.1)) :: (28, .v (.string v3)) :: (29, .v (.bool ((v3.toList == (⟨#[50, 53, 48, 32, 111, 107, 13, 10]⟩ : ByteArray).toList)))) :: (30, .v (.bool ((v3.toList == (⟨#[50, 53, 48, 32, 111, 107, 13, 10]⟩ : ByteArray).toList)))) :: (31, .v (.bool true)) :: (32, .v (.int .i64 v2.2.1)) :: (33, .v (.bool (v2.2.1 == 8))) :: (34, .v (.bool (v2.2.1 == 8))) :: (35, .v (.bool false)) :: (36, .v undef) :: (37, .v undef) :: (38, .v undef) :: (39, .v (.bool false)) :: (40, .v (.bool false)) :: (41, .v undef) :: (42, .v undef) :: (43, .v undef) :: (44, .v undef) :: (45, .v (.bool false)) :: (46, .v (.bool false)) :: (47, .v undef) :: (48, .v (.bool false)) :: (49, .v (.bool false)) :: (50, .v undef) :: (51, .v undef) :: (52, .v (.bool false)) :: (0, .v (.bool false)) :: [])) (init := [0, 1, 2, 3, 4, 5, 6]) (fin := [0, 40]) (sps := (⟨[3], [], [7], [(.slot 20)]⟩ :: ⟨[7], [], [8], [(.slot 21)]⟩ :: ⟨[8], [], [9], [(.slot 22)]⟩ :: ⟨[9, 6], [], [10], [(.slot 23)]⟩ :: ⟨[9, 10], [], [11], [(.slot 24)]⟩ :: ⟨[9, 11], [], [12], [(.slot 25)]⟩ :: ⟨[12], [], [13], [(.slot 26)]⟩ :: ⟨[13], [2], [14], [(.slot 27)]⟩ :: ⟨[13, 14], [], [15], [(.slot 28)]⟩ :: ⟨[13, 15], [], [16], [(.slot 29)]⟩ :: ⟨[13, 16], [], [17], [(.slot 30)]⟩ :: ⟨[17], [], [18], [(.slot 31)]⟩ :: ⟨[18, 5], [], [19], [(.slot 32)]⟩ :: ⟨[18, 19], [], [20], [(.slot 33)]⟩ :: ⟨[18, 20], [], [21], [(.slot 34)]⟩ :: ⟨[21], [], [22], [(.slot 35)]⟩ :: ⟨[22], [], [23], [(.slot 36)]⟩ :: ⟨[22], [], [24], [(.slot 37)]⟩ :: ⟨[22], [], [25], [(.slot 38)]⟩ :: ⟨[22], [], [26], [(.slot 39)]⟩ :: ⟨[26], [], [27], [(.slot 40)]⟩ :: ⟨[27], [], [28], [(.slot 41)]⟩ :: ⟨[27], [], [29], [(.slot 42)]⟩ :: ⟨[27], [], [30], [(.slot 43)]⟩ :: ⟨[27], [], [31], [(.slot 44)]⟩ :: ⟨[27], [], [32], [(.slot 45)]⟩ :: ⟨[32], [], [33], [(.slot 46)]⟩ :: ⟨[33], [], [34], [(.slot 47)]⟩ :: ⟨[33], [], [35], [(.slot 48)]⟩ :: ⟨[35], [], [36], [(.slot 49)]⟩ :: ⟨[36], [], [37], [(.slot 50)]⟩ :: ⟨[36], [], [38], [(.slot 51)]⟩ :: ⟨[36], [], [39], [(.slot 52)]⟩ :: ⟨[39], [], [40], [(.slot 0)]⟩ :: [])) (es' := [(_, _), (0, .v (.bool false))]) (by kernel_rfl) rfl rfl
        ⟨st_plain rfl (op_move _ _ _ _ rfl rfl),
        st_plain rfl (op_bin _ _ _ _ _ rfl rfl rfl),
        st_plain rfl (op_move _ _ _ _ (congrArg (fun b => AV.v (Value.bool b)) hg4_2) rfl),
        st_run 2 22 true rfl rfl rfl (List.Mem.head _) (op_move _ _ _ _ rfl rfl),
        st_run 2 22 true rfl rfl rfl (List.Mem.head _) (op_bin _ _ _ _ _ rfl rfl rfl),
        st_plain rfl (op_pick _ _ true _ rfl rfl),
        st_plain rfl (op_move _ _ _ _ (congrArg (fun b => AV.v (Value.bool b)) hg4_6) rfl),
        st_run 6 26 true rfl rfl rfl (List.Mem.head _) (op_move_take _ _ _ _ rfl),
        st_run 6 26 true rfl rfl rfl (List.Mem.head _) ((Option.some.inj hv3) ▸ op_bytes_str _ _ _ v1.1 Try.underlying25 Try.underlying9 Try.underlying5 rfl),
        st_run 6 26 true rfl rfl rfl (List.Mem.head _) (op_bin _ _ _ _ _ rfl rfl rfl),
        st_plain rfl (op_pick _ _ true _ rfl rfl),
        st_plain rfl (op_move _ _ _ _ (congrArg (fun b => AV.v (Value.bool b)) hg4_11) rfl),
        st_run 11 31 true rfl rfl rfl (List.Mem.head _) (op_move _ _ _ _ rfl rfl),
        st_run 11 31 true rfl rfl rfl (List.Mem.head _) (op_bin _ _ _ _ _ rfl rfl rfl),
        st_plain rfl (op_pick _ _ true _ rfl rfl),
        st_plain rfl (op_move _ _ _ _ (congrArg (fun b => AV.v (Value.bool b)) hg4_15) rfl),
        st_skip 15 35 _ true rfl rfl rfl rfl (List.Mem.head _),
        st_skip 15 35 _ true rfl rfl rfl rfl (List.Mem.head _),
        st_skip 15 35 _ true rfl rfl rfl rfl (List.Mem.head _),
        st_plain rfl (op_pick _ _ false _ rfl rfl),
        st_plain rfl (op_move _ _ _ _ rfl rfl),
        st_skip 20 40 _ true rfl rfl rfl rfl (List.Mem.head _),
        st_skip 20 40 _ true rfl rfl rfl rfl (List.Mem.head _),
        st_skip 20 40 _ true rfl rfl rfl rfl (List.Mem.head _),
        st_skip 20 40 _ true rfl rfl rfl rfl (List.Mem.head _),
        st_plain rfl (op_pick _ _ false _ rfl rfl),
        st_plain rfl (op_move _ _ _ _ rfl rfl),
        st_skip 26 46 _ true rfl rfl rfl rfl (List.Mem.head _),
        st_plain rfl (op_pick _ _ false _ rfl rfl),
        st_plain rfl (op_move _ _ _ _ rfl rfl),
        st_skip 29 49 _ true rfl rfl rfl rfl (List.Mem.head _),
        st_skip 29 49 _ true rfl rfl rfl rfl (List.Mem.head _),
        st_plain rfl (op_pick _ _ false _ rfl rfl),
        st_plain rfl (op_assign _ _ _ _ rfl rfl),
        trivial⟩ ?_
       exact hl10 _ (Option.some.inj h).symm
     ·refine ht_seqR hn (El := (_ :: _ :: _ :: _ :: _ :: _ :: _ :: (20, .v (.int .i64 v1.2)) :: (21, .v (.bool (v1.2 == 0))) :: (22, .v (.bool true)) :: (23, .v (.int .i64 v2.2.2)) :: (24, .v (.bool (v2.2.2 == 0))) :: (25, .v (.bool (v2.2.2 == 0))) :: (26, .v (.bool true)) :: (27, .fl (.own 5) 1 (List.map (Value.int .u8) v1.1)) :: (28, .v (.string v3)) :: (29, .v (.bool ((v3.toList == (⟨#[50, 53, 48, 32, 111, 107, 13, 10]⟩ : ByteArray).toList)))) :: (30, .v (.bool ((v3.toList == (⟨#[50, 53, 48, 32, 111, 107, 13, 10]⟩ : ByteArray).toList)))) :: (31, .v (.bool false)) :: (32, .v undef) :: (33, .v undef) :: (34, .v (.bool false)) :: (35, .v (.bool false)) :: (36, .v undef) :: (37, .v undef) :: (38, .v undef) :: (39, .v (.bool false)) :: (40, .v (.bool false)) :: (41, .v undef) :: (42, .v undef) :: (43, .v undef) :: (44, .v undef) :: (45, .v (.bool false)) :: (46, .v (.bool false)) :: (47, .v undef) :: (48, .v (.bool false)) :: (49, .v (.bool false)) :: (50, .v undef) :: (51, .v undef) :: (52, .v (.bool false)) :: (0, .v (.bool false)) :: [])) (init := [0, 1, 2, 3, 4, 5, 6]) (fin := [0, 40]) (sps := (⟨[3], [], [7], [(.slot 20)]⟩ :: ⟨[7], [], [8], [(.slot 21)]⟩ :: ⟨[8], [], [9], [(.slot 22)]⟩ :: ⟨[9, 6], [], [10], [(.slot 23)]⟩ :: ⟨[9, 10], [], [11], [(.slot 24)]⟩ :: ⟨[9, 11], [], [12], [(.slot 25)]⟩ :: ⟨[12], [], [13], [(.slot 26)]⟩ :: ⟨[13], [2], [14], [(.slot 27)]⟩ :: ⟨[13, 14], [], [15], [(.slot 28)]⟩ :: ⟨[13, 15], [], [16], [(.slot 29)]⟩ :: ⟨[13, 16], [], [17], [(.slot 30)]⟩ :: ⟨[17], [], [18], [(.slot 31)]⟩ :: ⟨[18], [], [19], [(.slot 32)]⟩ :: ⟨[18], [], [20], [(.slot 33)]⟩ :: ⟨[18], [], [21], [(.slot 34)]⟩ :: ⟨[21], [], [22], [(.slot 35)]⟩ :: ⟨[22], [], [23], [(.slot 36)]⟩ :: ⟨[22], [], [24], [(.slot 37)]⟩ :: ⟨[22], [], [25], [(.slot 38)]⟩ :: ⟨[22], [], [26], [(.slot 39)]⟩ :: ⟨[26], [], [27], [(.slot 40)]⟩ :: ⟨[27], [], [28], [(.slot 41)]⟩ :: ⟨[27], [], [29], [(.slot 42)]⟩ :: ⟨[27], [], [30], [(.slot 43)]⟩ :: ⟨[27], [], [31], [(.slot 44)]⟩ :: ⟨[27], [], [32], [(.slot 45)]⟩ :: ⟨[32], [], [33], [(.slot 46)]⟩ :: ⟨[33], [], [34], [(.slot 47)]⟩ :: ⟨[33], [], [35], [(.slot 48)]⟩ :: ⟨[35], [], [36], [(.slot 49)]⟩ :: ⟨[36], [], [37], [(.slot 50)]⟩ :: ⟨[36], [], [38], [(.slot 51)]⟩ :: ⟨[36], [], [39], [(.slot 52)]⟩ :: ⟨[39], [], [40], [(.slot 0)]⟩ :: [])) (es' := [(_, _), (0, .v (.bool false))]) (by kernel_rfl) rfl rfl
       ⟨st_plain rfl (op_move _ _ _ _ rfl rfl),
       st_plain rfl (op_bin _ _ _ _ _ rfl rfl rfl),
       st_plain rfl (op_move _ _ _ _ (congrArg (fun b => AV.v (Value.bool b)) hg4_2) rfl),
       st_run 2 22 true rfl rfl rfl (List.Mem.head _) (op_move _ _ _ _ rfl rfl),
       st_run 2 22 true rfl rfl rfl (List.Mem.head _) (op_bin _ _ _ _ _ rfl rfl rfl),
       st_plain rfl (op_pick _ _ true _ rfl rfl),
       st_plain rfl (op_move _ _ _ _ (congrArg (fun b => AV.v (Value.bool b)) hg4_6) rfl),
       st_run 6 26 true rfl rfl rfl (List.Mem.head _) (op_move_take _ _ _ _ rfl),
       st_run 6 26 true rfl rfl rfl (List.Mem.head _) ((Option.some.inj hv3) ▸ op_bytes_str _ _ _ v1.1 Try.underlying25 Try.underlying9 Try.underlying5 rfl),
       st_run 6 26 true rfl rfl rfl (List.Mem.head _) (op_bin _ _ _ _ _ rfl rfl rfl),
       st_plain rfl (op_pick _ _ true _ rfl rfl),
       st_plain rfl (op_move _ _ _ _ (congrArg (fun b => AV.v (Value.bool b)) hg4_11) rfl),
       st_skip 11 31 _ true rfl rfl rfl rfl (List.Mem.head _),
       st_skip 11 31 _ true rfl rfl rfl rfl (List.Mem.head _),
       st_plain rfl (op_pick _ _ false _ rfl rfl),
       st_plain rfl (op_move _ _ _ _ rfl rfl),
       st_skip 15 35 _ true rfl rfl rfl rfl (List.Mem.head _),
       st_skip 15 35 _ true rfl rfl rfl rfl (List.Mem.head _),
       st_skip 15 35 _ true rfl rfl rfl rfl (List.Mem.head _),
       st_plain rfl (op_pick _ _ false _ rfl rfl),
       st_plain rfl (op_move _ _ _ _ rfl rfl),
       st_skip 20 40 _ true rfl rfl rfl rfl (List.Mem.head _),
       st_skip 20 40 _ true rfl rfl rfl rfl (List.Mem.head _),
       st_skip 20 40 _ true rfl rfl rfl rfl (List.Mem.head _),
       st_skip 20 40 _ true rfl rfl rfl rfl (List.Mem.head _),
       st_plain rfl (op_pick _ _ false _ rfl rfl),
       st_plain rfl (op_move _ _ _ _ rfl rfl),
       st_skip 26 46 _ true rfl rfl rfl rfl (List.Mem.head _),
       st_plain rfl (op_pick _ _ false _ rfl rfl),
       st_plain rfl (op_move _ _ _ _ rfl rfl),
       st_skip 29 49 _ true rfl rfl rfl rfl (List.Mem.head _),
       st_skip 29 49 _ true rfl rfl rfl rfl (List.Mem.head _),
       st_plain rfl (op_pick _ _ false _ rfl rfl),
       st_plain rfl (op_assign _ _ _ _ rfl rfl),
       trivial⟩ ?_
      exact hl10 _ (Option.some.inj h).symm
    ·refine ht_seqR hn (El := (_ :: _ :: _ :: _ :: _ :: _ :: _ :: (20, .v (.int .i64 v1.2)) :: (21, .v (.bool (v1.2 == 0))) :: (22, .v (.bool true)) :: (23, .v (.int .i64 v2.2.2)) :: (24, .v (.bool (v2.2.2 == 0))) :: (25, .v (.bool (v2.2.2 == 0))) :: (26, .v (.bool false)) :: (27, .v undef) :: (28, .v undef) :: (29, .v undef) :: (30, .v (.bool false)) :: (31, .v (.bool false)) :: (32, .v undef) :: (33, .v undef) :: (34, .v (.bool false)) :: (35, .v (.bool false)) :: (36, .v undef) :: (37, .v undef) :: (38, .v undef) :: (39, .v (.bool false)) :: (40, .v (.bool false)) :: (41, .v undef) :: (42, .v undef) :: (43, .v undef) :: (44, .v undef) :: (45, .v (.bool false)) :: (46, .v (.bool false)) :: (47, .v undef) :: (48, .v (.bool false)) :: (49, .v (.bool false)) :: (50, .v undef) :: (51, .v undef) :: (52, .v (.bool false)) :: (0, .v (.bool false)) :: [])) (init := [0, 1, 2, 3, 4, 5, 6]) (fin := [0, 40]) (sps := (⟨[3], [], [7], [(.slot 20)]⟩ :: ⟨[7], [], [8], [(.slot 21)]⟩ :: ⟨[8], [], [9], [(.slot 22)]⟩ :: ⟨[9, 6], [], [10], [(.slot 23)]⟩ :: ⟨[9, 10], [], [11], [(.slot 24)]⟩ :: ⟨[9, 11], [], [12], [(.slot 25)]⟩ :: ⟨[12], [], [13], [(.slot 26)]⟩ :: ⟨[13], [], [14], [(.slot 27)]⟩ :: ⟨[13], [], [15], [(.slot 28)]⟩ :: ⟨[13], [], [16], [(.slot 29)]⟩ :: ⟨[13], [], [17], [(.slot 30)]⟩ :: ⟨[17], [], [18], [(.slot 31)]⟩ :: ⟨[18], [], [19], [(.slot 32)]⟩ :: ⟨[18], [], [20], [(.slot 33)]⟩ :: ⟨[18], [], [21], [(.slot 34)]⟩ :: ⟨[21], [], [22], [(.slot 35)]⟩ :: ⟨[22], [], [23], [(.slot 36)]⟩ :: ⟨[22], [], [24], [(.slot 37)]⟩ :: ⟨[22], [], [25], [(.slot 38)]⟩ :: ⟨[22], [], [26], [(.slot 39)]⟩ :: ⟨[26], [], [27], [(.slot 40)]⟩ :: ⟨[27], [], [28], [(.slot 41)]⟩ :: ⟨[27], [], [29], [(.slot 42)]⟩ :: ⟨[27], [], [30], [(.slot 43)]⟩ :: ⟨[27], [], [31], [(.slot 44)]⟩ :: ⟨[27], [], [32], [(.slot 45)]⟩ :: ⟨[32], [], [33], [(.slot 46)]⟩ :: ⟨[33], [], [34], [(.slot 47)]⟩ :: ⟨[33], [], [35], [(.slot 48)]⟩ :: ⟨[35], [], [36], [(.slot 49)]⟩ :: ⟨[36], [], [37], [(.slot 50)]⟩ :: ⟨[36], [], [38], [(.slot 51)]⟩ :: ⟨[36], [], [39], [(.slot 52)]⟩ :: ⟨[39], [], [40], [(.slot 0)]⟩ :: [])) (es' := [(_, _), (0, .v (.bool false))]) (by kernel_rfl) rfl rfl
      ⟨st_plain rfl (op_move _ _ _ _ rfl rfl),
      st_plain rfl (op_bin _ _ _ _ _ rfl rfl rfl),
      st_plain rfl (op_move _ _ _ _ (congrArg (fun b => AV.v (Value.bool b)) hg4_2) rfl),
      st_run 2 22 true rfl rfl rfl (List.Mem.head _) (op_move _ _ _ _ rfl rfl),
      st_run 2 22 true rfl rfl rfl (List.Mem.head _) (op_bin _ _ _ _ _ rfl rfl rfl),
      st_plain rfl (op_pick _ _ true _ rfl rfl),
      st_plain rfl (op_move _ _ _ _ (congrArg (fun b => AV.v (Value.bool b)) hg4_6) rfl),
      st_skip 6 26 _ true rfl rfl rfl rfl (List.Mem.head _),
      st_skip 6 26 _ true rfl rfl rfl rfl (List.Mem.head _),
      st_skip 6 26 _ true rfl rfl rfl rfl (List.Mem.head _),
      st_plain rfl (op_pick _ _ false _ rfl rfl),
      st_plain rfl (op_move _ _ _ _ rfl rfl),
      st_skip 11 31 _ true rfl rfl rfl rfl (List.Mem.head _),
      st_skip 11 31 _ true rfl rfl rfl rfl (List.Mem.head _),
      st_plain rfl (op_pick _ _ false _ rfl rfl),
      st_plain rfl (op_move _ _ _ _ rfl rfl),
      st_skip 15 35 _ true rfl rfl rfl rfl (List.Mem.head _),
      st_skip 15 35 _ true rfl rfl rfl rfl (List.Mem.head _),
      st_skip 15 35 _ true rfl rfl rfl rfl (List.Mem.head _),
      st_plain rfl (op_pick _ _ false _ rfl rfl),
      st_plain rfl (op_move _ _ _ _ rfl rfl),
      st_skip 20 40 _ true rfl rfl rfl rfl (List.Mem.head _),
      st_skip 20 40 _ true rfl rfl rfl rfl (List.Mem.head _),
      st_skip 20 40 _ true rfl rfl rfl rfl (List.Mem.head _),
      st_skip 20 40 _ true rfl rfl rfl rfl (List.Mem.head _),
      st_plain rfl (op_pick _ _ false _ rfl rfl),
      st_plain rfl (op_move _ _ _ _ rfl rfl),
      st_skip 26 46 _ true rfl rfl rfl rfl (List.Mem.head _),
      st_plain rfl (op_pick _ _ false _ rfl rfl),
      st_plain rfl (op_move _ _ _ _ rfl rfl),
      st_skip 29 49 _ true rfl rfl rfl rfl (List.Mem.head _),
      st_skip 29 49 _ true rfl rfl rfl rfl (List.Mem.head _),
      st_plain rfl (op_pick _ _ false _ rfl rfl),
      st_plain rfl (op_assign _ _ _ _ rfl rfl),
      trivial⟩ ?_
     exact hl10 _ (Option.some.inj h).symm
   ·refine ht_seqR hn (El := (_ :: _ :: _ :: _ :: _ :: _ :: _ :: (20, .v (.int .i64 v1.2)) :: (21, .v (.bool (v1.2 == 0))) :: (22, .v (.bool false)) :: (23, .v undef) :: (24, .v undef) :: (25, .v (.bool false)) :: (26, .v (.bool false)) :: (27, .v undef) :: (28, .v undef) :: (29, .v undef) :: (30, .v (.bool false)) :: (31, .v (.bool false)) :: (32, .v undef) :: (33, .v undef) :: (34, .v (.bool false)) :: (35, .v (.bool false)) :: (36, .v undef) :: (37, .v undef) :: (38, .v undef) :: (39, .v (.bool false)) :: (40, .v (.bool false)) :: (41, .v undef) :: (42, .v undef) :: (43, .v undef) :: (44, .v undef) :: (45, .v (.bool false)) :: (46, .v (.bool false)) :: (47, .v undef) :: (48, .v (.bool false)) :: (49, .v (.bool false)) :: (50, .v undef) :: (51, .v undef) :: (52, .v (.bool false)) :: (0, .v (.bool false)) :: [])) (init := [0, 1, 2, 3, 4, 5, 6]) (fin := [0, 40]) (sps := (⟨[3], [], [7], [(.slot 20)]⟩ :: ⟨[7], [], [8], [(.slot 21)]⟩ :: ⟨[8], [], [9], [(.slot 22)]⟩ :: ⟨[9], [], [10], [(.slot 23)]⟩ :: ⟨[9], [], [11], [(.slot 24)]⟩ :: ⟨[9], [], [12], [(.slot 25)]⟩ :: ⟨[12], [], [13], [(.slot 26)]⟩ :: ⟨[13], [], [14], [(.slot 27)]⟩ :: ⟨[13], [], [15], [(.slot 28)]⟩ :: ⟨[13], [], [16], [(.slot 29)]⟩ :: ⟨[13], [], [17], [(.slot 30)]⟩ :: ⟨[17], [], [18], [(.slot 31)]⟩ :: ⟨[18], [], [19], [(.slot 32)]⟩ :: ⟨[18], [], [20], [(.slot 33)]⟩ :: ⟨[18], [], [21], [(.slot 34)]⟩ :: ⟨[21], [], [22], [(.slot 35)]⟩ :: ⟨[22], [], [23], [(.slot 36)]⟩ :: ⟨[22], [], [24], [(.slot 37)]⟩ :: ⟨[22], [], [25], [(.slot 38)]⟩ :: ⟨[22], [], [26], [(.slot 39)]⟩ :: ⟨[26], [], [27], [(.slot 40)]⟩ :: ⟨[27], [], [28], [(.slot 41)]⟩ :: ⟨[27], [], [29], [(.slot 42)]⟩ :: ⟨[27], [], [30], [(.slot 43)]⟩ :: ⟨[27], [], [31], [(.slot 44)]⟩ :: ⟨[27], [], [32], [(.slot 45)]⟩ :: ⟨[32], [], [33], [(.slot 46)]⟩ :: ⟨[33], [], [34], [(.slot 47)]⟩ :: ⟨[33], [], [35], [(.slot 48)]⟩ :: ⟨[35], [], [36], [(.slot 49)]⟩ :: ⟨[36], [], [37], [(.slot 50)]⟩ :: ⟨[36], [], [38], [(.slot 51)]⟩ :: ⟨[36], [], [39], [(.slot 52)]⟩ :: ⟨[39], [], [40], [(.slot 0)]⟩ :: [])) (es' := [(_, _), (0, .v (.bool false))]) (by kernel_rfl) rfl rfl
     ⟨st_plain rfl (op_move _ _ _ _ rfl rfl),
     st_plain rfl (op_bin _ _ _ _ _ rfl rfl rfl),
     st_plain rfl (op_move _ _ _ _ (congrArg (fun b => AV.v (Value.bool b)) hg4_2) rfl),
     st_skip 2 22 _ true rfl rfl rfl rfl (List.Mem.head _),
     st_skip 2 22 _ true rfl rfl rfl rfl (List.Mem.head _),
     st_plain rfl (op_pick _ _ false _ rfl rfl),
     st_plain rfl (op_move _ _ _ _ rfl rfl),
     st_skip 6 26 _ true rfl rfl rfl rfl (List.Mem.head _),
     st_skip 6 26 _ true rfl rfl rfl rfl (List.Mem.head _),
     st_skip 6 26 _ true rfl rfl rfl rfl (List.Mem.head _),
     st_plain rfl (op_pick _ _ false _ rfl rfl),
     st_plain rfl (op_move _ _ _ _ rfl rfl),
     st_skip 11 31 _ true rfl rfl rfl rfl (List.Mem.head _),
     st_skip 11 31 _ true rfl rfl rfl rfl (List.Mem.head _),
     st_plain rfl (op_pick _ _ false _ rfl rfl),
     st_plain rfl (op_move _ _ _ _ rfl rfl),
     st_skip 15 35 _ true rfl rfl rfl rfl (List.Mem.head _),
     st_skip 15 35 _ true rfl rfl rfl rfl (List.Mem.head _),
     st_skip 15 35 _ true rfl rfl rfl rfl (List.Mem.head _),
     st_plain rfl (op_pick _ _ false _ rfl rfl),
     st_plain rfl (op_move _ _ _ _ rfl rfl),
     st_skip 20 40 _ true rfl rfl rfl rfl (List.Mem.head _),
     st_skip 20 40 _ true rfl rfl rfl rfl (List.Mem.head _),
     st_skip 20 40 _ true rfl rfl rfl rfl (List.Mem.head _),
     st_skip 20 40 _ true rfl rfl rfl rfl (List.Mem.head _),
     st_plain rfl (op_pick _ _ false _ rfl rfl),
     st_plain rfl (op_move _ _ _ _ rfl rfl),
     st_skip 26 46 _ true rfl rfl rfl rfl (List.Mem.head _),
     st_plain rfl (op_pick _ _ false _ rfl rfl),
     st_plain rfl (op_move _ _ _ _ rfl rfl),
     st_skip 29 49 _ true rfl rfl rfl rfl (List.Mem.head _),
     st_skip 29 49 _ true rfl rfl rfl rfl (List.Mem.head _),
     st_plain rfl (op_pick _ _ false _ rfl rfl),
     st_plain rfl (op_assign _ _ _ _ rfl rfl),
     trivial⟩ ?_
    exact hl10 _ (Option.some.inj h).symm

set_option maxHeartbeats 1000000 in
theorem ok_wherrylaw13_heavy (p_r : T_Reply) (r : Bool) (h : Sh.wherrylaw13_heavy p_r = some r) : FnOK Try.prog 8 [.agg [.v (.int .i64 p_r.Code), .fl .shr 1 (List.map Value.string p_r.Lines)]] (.v (.bool r)) := by
  unfold Sh.wherrylaw13_heavy at h
  refine fn_ok Try.func8 rfl (Nat.le_of_ble_eq_true rfl) rfl rfl fun g0 hn hio => ?_
  refine ht_seq ?_
  refine ht_seqR hn (El := [_, (1, .box 24 [.v (.int .i64 p_r.Code), .fl .shr 1 (List.map Value.string p_r.Lines)]), (2, .v (.bool false))]) (init := [0]) (fin := [1]) (sps := [⟨[0], [], [1], [(.slot 1)]⟩, ⟨[], [], [2], [(.slot 2)]⟩]) (es' := [(1, .box 24 [.v (.int .i64 p_r.Code), .fl .shr 1 (List.map Value.string p_r.Lines)])]) (by kernel_rfl) rfl rfl
   ⟨st_plain rfl (op_box _ _ _ _ rfl rfl rfl),
   st_plain rfl (op_assign _ _ _ _ rfl rfl),
   trivial⟩ ?_
  refine pt_then ?_
  refine ht_seq ?_
  refine ht_seqR hn (El := [_, (3, .v (.int .i64 0))]) (init := [0]) (fin := [0, 1]) (sps := [⟨[], [], [1], [(.slot 3)]⟩]) (es' := [(_, _), (3, .v (.int .i64 0))]) (by kernel_rfl) rfl rfl
   ⟨st_plain rfl (op_assign _ _ _ _ rfl rfl),
   trivial⟩ ?_
  refine pt_then ?_
  refine ht_seq ?_
  refine ht_seq ?_
  refine ht_seqR hn (El := [_, _, (4, .v (.int .i64 0))]) (init := [0, 1]) (fin := [0, 1, 2]) (sps := [⟨[], [], [2], [(.slot 4)]⟩]) (es' := [(_, _), (_, _), (4, .v (.int .i64 0))]) (by kernel_rfl) rfl rfl
   ⟨st_plain rfl (op_assign _ _ _ _ rfl rfl),
   trivial⟩ ?_
  refine pt_then ?_
  refine ht_loopS h (fun ((s9, s10) : Int × Int) => [(1, .box 24 [.v (.int .i64 p_r.Code), .fl .shr 1 (List.map Value.string p_r.Lines)]), (3, .v (.int .i64 s9)), (4, .v (.int .i64 s10))]) (fun (s12 : Int) => [(1, .box 24 [.v (.int .i64 p_r.Code), .fl .shr 1 (List.map Value.string p_r.Lines)]), (3, .v (.int .i64 s12))]) ?_ ?_
  ·rintro s12 h
   refine pt_then ?_
   refine ht_seq ?_
   refine ht_joinS h (fun (s20 : Bool) => [(2, .v (.bool s20))]) ?_ ?_
   ·rintro s20 h
    refine pt_then ?_
    refine ht_ret ?_
    obtain rfl := Option.some.inj h
    exact pt_ret hio rfl (.tmp _ _ .nil) rfl rfl
   ·intro u21 h hl22 hr23
    refine cond_some h (fun hg6_2 h => ?_) (fun hg6_2 h => ?_)
    ·refine ht_seqR hn (El := [_, _, (20, .v (.int .i64 s12)), (21, .v (.bool ((decide (6000 < s12))))), (22, .v (.bool true)), (23, .v undef), (24, .v undef), (25, .v undef), (26, .v undef), (27, .v (.bool true)), (2, .v (.bool true))]) (init := [0, 1]) (fin := [10]) (sps := [⟨[1], [], [2], [(.slot 20)]⟩, ⟨[2], [], [3], [(.slot 21)]⟩, ⟨[3], [], [4], [(.slot 22)]⟩, ⟨[4], [], [5], [(.slot 23)]⟩, ⟨[4], [], [6], [(.slot 24)]⟩, ⟨[4], [], [7], [(.slot 25)]⟩, ⟨[4], [], [8], [(.slot 26)]⟩, ⟨[4], [], [9], [(.slot 27)]⟩, ⟨[9], [], [10], [(.slot 2)]⟩]) (es' := [(2, .v (.bool true))]) (by kernel_rfl) rfl rfl
      ⟨st_plain rfl (op_move _ _ _ _ rfl rfl),
      st_plain rfl (op_bin _ _ _ _ _ rfl rfl rfl),
      st_plain rfl (op_move _ _ _ _ (congrArg (fun b => AV.v (Value.bool b)) hg6_2) rfl),
      st_skip 2 22 _ false rfl rfl rfl rfl (List.Mem.head _),
      st_skip 2 22 _ false rfl rfl rfl rfl (List.Mem.head _),
      st_skip 2 22 _ false rfl rfl rfl rfl (List.Mem.head _),
      st_skip 2 22 _ false rfl rfl rfl rfl (List.Mem.head _),
      st_plain rfl (op_pick _ _ true _ rfl rfl),
      st_plain rfl (op_assign _ _ _ _ rfl rfl),
      trivial⟩ ?_
     exact hl22 _ (Option.some.inj h).symm
    ·refine ht_seqR hn (El := [_, _, (20, .v (.int .i64 s12)), (21, .v (.bool ((decide (6000 < s12))))), (22, .v (.bool false)), (23, .ptr 1 1), (24, .fl .shr 1 (List.map Value.string p_r.Lines)), (25, .v (.int .i64 (p_r.Lines.length : Int))), (26, .v (.bool ((decide (40 < (p_r.Lines.length : Int)))))), (27, .v (.bool ((decide (40 < (p_r.Lines.length : Int)))))), (2, .v (.bool ((decide (40 < (p_r.Lines.length : Int))))))]) (init := [0, 1]) (fin := [10]) (sps := [⟨[1], [], [2], [(.slot 20)]⟩, ⟨[2], [], [3], [(.slot 21)]⟩, ⟨[3], [], [4], [(.slot 22)]⟩, ⟨[4, 0], [], [5], [(.slot 23)]⟩, ⟨[4, 5, 0], [], [6], [(.slot 24)]⟩, ⟨[4, 6], [], [7], [(.slot 25)]⟩, ⟨[4, 7], [], [8], [(.slot 26)]⟩, ⟨[4, 8], [], [9], [(.slot 27)]⟩, ⟨[9], [], [10], [(.slot 2)]⟩]) (es' := [(2, .v (.bool ((decide (40 < (p_r.Lines.length : Int))))))]) (by kernel_rfl) rfl rfl
      ⟨st_plain rfl (op_move _ _ _ _ rfl rfl),
      st_plain rfl (op_bin _ _ _ _ _ rfl rfl rfl),
      st_plain rfl (op_move _ _ _ _ (congrArg (fun b => AV.v (Value.bool b)) hg6_2) rfl),
      st_run 2 22 false rfl rfl rfl (List.Mem.head _) (op_fieldAddr _ _ _ _ 1 0 _ Try.underlying24 rfl sz22 rfl rfl (by decide)),
      st_run 2 22 false rfl rfl rfl (List.Mem.head _) (op_load _ _ _ _ _ _ Try.underlying22 rfl rfl rfl (Nat.le_of_ble_eq_true rfl) rfl rfl rfl),
      st_run 2 22 false rfl rfl rfl (List.Mem.head _) (op_len_fl _ _ _ Try.underlying22 rfl (by decide) (map_len _)),
      st_run 2 22 false rfl rfl rfl (List.Mem.head _) (op_bin _ _ _ _ _ rfl rfl rfl),
      st_plain rfl (op_pick _ _ false _ rfl rfl),
      st_plain rfl (op_assign _ _ _ _ rfl rfl),
      trivial⟩ ?_
     exact hl22 _ (Option.some.inj h).symm
  ·rintro u13 hl14 hr15 ⟨s9, s10⟩ rr18 h ho16
   refine ht_seq ?_
   refine ht_seq ?_
   refine ht_seqR hn (El := [_, _, _, (5, .v (.int .i64 s10)), (6, .ptr 1 1), (7, .fl .shr 1 (List.map Value.string p_r.Lines)), (8, .v (.int .i64 (p_r.Lines.length : Int))), (9, .v (.bool ((decide (s10 < (p_r.Lines.length : Int))))))]) (init := [0, 1, 2]) (fin := [0, 1, 2, 7]) (sps := [⟨[2], [], [3], [(.slot 5)]⟩, ⟨[0], [], [4], [(.slot 6)]⟩, ⟨[4, 0], [], [5], [(.slot 7)]⟩, ⟨[5], [], [6], [(.slot 8)]⟩, ⟨[3, 6], [], [7], [(.slot 9)]⟩]) (es' := [(_, _), (_, _), (_, _), (9, .v (.bool ((decide (s10 < (p_r.Lines.length : Int))))))]) (by kernel_rfl) rfl rfl
    ⟨st_plain rfl (op_move _ _ _ _ rfl rfl),
    st_plain rfl (op_fieldAddr _ _ _ _ 1 0 _ Try.underlying24 rfl sz22 rfl rfl (by decide)),
    st_plain rfl (op_load _ _ _ _ _ _ Try.underlying22 rfl rfl rfl (Nat.le_of_ble_eq_true rfl) rfl rfl rfl),
    st_plain rfl (op_len_fl _ _ _ Try.underlying22 rfl (by decide) (map_len _)),
    st_plain rfl (op_bin _ _ _ _ _ rfl rfl rfl),
    trivial⟩ ?_
   refine pt_then ?_
   refine ht_cond _ rfl (fun hb19 => ?_) (fun hb19 => ?_)
   ·have h := cond_t hb19 h
    refine ht_skip ?_
    refine pt_then ?_
    refine ht_seq ?_
    refine ht_block ?_
    obtain ⟨v2, hv2, h⟩ := bind_some h
    obtain ⟨v3, hv3, h⟩ := bind_some h
    obtain ⟨v4, hv4, h⟩ := bind_some h
    refine ht_seqR hn (El := [_, _, _, _, (12, .v (.int .i64 s9)), (13, .ptr 1 1), (14, .fl .shr 1 (List.map Value.string p_r.Lines)), (15, .v (.int .i64 s10)), (16, .eref (.slot 14) (v2 * 1)), (17, .v (.string v3)), (18, .v (.int .i64 (v3.size : Int))), (19, .v (.int .i64 v4)), (3, .v (.int .i64 v4))]) (init := [0, 1, 2, 3]) (fin := [0, 2, 12]) (sps := [⟨[1], [], [4], [(.slot 12)]⟩, ⟨[0], [], [5], [(.slot 13)]⟩, ⟨[5, 0], [], [6], [(.slot 14)]⟩, ⟨[2], [], [7], [(.slot 15)]⟩, ⟨[6, 7], [], [8], [(.slot 16)]⟩, ⟨[8, 6], [], [9], [(.slot 17)]⟩, ⟨[9], [], [10], [(.slot 18)]⟩, ⟨[4, 10], [], [11], [(.slot 19)]⟩, ⟨[11], [1], [12], [(.slot 3)]⟩]) (es' := [(_, _), (_, _), (3, .v (.int .i64 v4))]) (by kernel_rfl) rfl rfl
     ⟨st_plain rfl (op_move _ _ _ _ rfl rfl),
     st_plain rfl (op_fieldAddr _ _ _ _ 1 0 _ Try.underlying24 rfl sz22 rfl rfl (by decide)),
     st_plain rfl (op_load _ _ _ _ _ _ Try.underlying22 rfl rfl rfl (Nat.le_of_ble_eq_true rfl) rfl rfl rfl),
     st_plain rfl (op_move _ _ _ _ rfl rfl),
     st_plain rfl (op_ix _ _ _ _ _ _ _ _ Try.underlying22 sz9 (by decide) rfl rfl rfl (ix_ok hv2).1 (map_lt (ix_ok hv2).2) rfl),
     st_plain rfl (op_load_e _ _ _ _ _ _ Try.underlying9 rfl rfl rfl (map_get hv3)),
     st_plain rfl (op_len_str _ _ _ Try.underlying9 rfl),
     st_plain rfl (op_bin _ _ _ _ _ rfl rfl (ibind (f := Value.int .i64) (Option.some.inj hv4))),
     st_plain rfl (LOp.drop [_] (op_assign _ _ _ _ rfl rfl)),
     trivial⟩ ?_
    refine pt_inb ?_
    refine pt_then ?_
    obtain ⟨v5, hv5, h⟩ := bind_some h
    refine ht_seqR hn (El := [_, _, _, (10, .v (.int .i64 s10)), (11, .v (.int .i64 v5)), (4, .v (.int .i64 v5))]) (init := [0, 1, 2]) (fin := [0, 2, 5]) (sps := [⟨[1], [], [3], [(.slot 10)]⟩, ⟨[3], [], [4], [(.slot 11)]⟩, ⟨[4], [1], [5], [(.slot 4)]⟩]) (es' := [(_, _), (_, _), (4, .v (.int .i64 v5))]) (by kernel_rfl) rfl rfl
     ⟨st_plain rfl (op_move _ _ _ _ rfl rfl),
     st_plain rfl (op_bin _ _ _ _ _ rfl rfl (ibind (f := Value.int .i64) (Option.some.inj hv5))),
     st_plain rfl (LOp.drop [_] (op_assign _ _ _ _ rfl rfl)),
     trivial⟩ ?_
    exact pt_next _ (Option.some.inj h).symm rfl
   ·have h := cond_f hb19 h
    refine ht_exit ?_
    refine pt_x_then ?_
    refine pt_x_then ?_
    refine pt_x_in ?_
    refine pt_pick [0, 1] (by kernel_rfl) (es' := [(_, _), (_, _)]) rfl ?_
    exact hl14 _ (ho16 _ (Option.some.inj h).symm).symm

set_option maxHeartbeats 1000000 in
theorem ok_wherrykeep_Bytes (a : (List Int)) (b : (List Int)) (r : Bool) (h : Sh.wherrykeep_Bytes a b = some r) : FnOK Try.prog 15 [.fl .shr 1 (List.map (Value.int .u8) a), .fl .shr 1 (List.map (Value.int .u8) b)] (.v (.bool r)) := by
  unfold Sh.wherrykeep_Bytes at h
  refine fn_ok Try.func15 rfl (Nat.le_of_ble_eq_true rfl) rfl rfl fun g0 hn hio => ?_
  refine ht_seq ?_
  refine ht_seqR hn (El := [_, _, (4, .v (.bool false))]) (init := [0, 1]) (fin := [0, 1]) (sps := [⟨[], [], [2], [(.slot 4)]⟩]) (es' := [(_, _), (_, _)]) (by kernel_rfl) rfl rfl
   ⟨st_plain rfl (op_assign _ _ _ _ rfl rfl),
   trivial⟩ ?_
  refine pt_then ?_
  refine ht_seq ?_
  refine ht_seq ?_
  refine ht_seqR hn (El := [_, _, (6, .fl .shr 1 (List.map (Value.int .u8) a)), (7, .v (.int .i64 (a.length : Int))), (8, .fl .shr 1 (List.map (Value.int .u8) b)), (9, .v (.int .i64 (b.length : Int))), (10, .v (.bool (((a.length : Int) != (b.length : Int)))))]) (init := [0, 1]) (fin := [0, 1, 6]) (sps := [⟨[0], [], [2], [(.slot 6)]⟩, ⟨[2], [], [3], [(.slot 7)]⟩, ⟨[1], [], [4], [(.slot 8)]⟩, ⟨[4], [], [5], [(.slot 9)]⟩, ⟨[3, 5], [], [6], [(.slot 10)]⟩]) (es' := [(_, _), (_, _), (10, .v (.bool (((a.length : Int) != (b.length : Int)))))]) (by kernel_rfl) rfl rfl
   ⟨st_plain rfl (op_move _ _ _ _ rfl rfl),
   st_plain rfl (op_len_fl _ _ _ Try.underlying25 rfl (by decide) (map_len _)),
   st_plain rfl (op_move _ _ _ _ rfl rfl),
   st_plain rfl (op_len_fl _ _ _ Try.underlying25 rfl (by decide) (map_len _)),
   st_plain rfl (op_bin _ _ _ _ _ rfl rfl rfl),
   trivial⟩ ?_
  refine pt_then ?_
  refine ht_cond _ rfl (fun hb1 => ?_) (fun hb1 => ?_)
  ·have h := cond_t hb1 h
   refine ht_seq ?_
   refine ht_seqR hn (El := [_, _, _, (4, .v (.bool false))]) (init := [0, 1, 2]) (fin := [3]) (sps := [⟨[], [], [3], [(.slot 4)]⟩]) (es' := [(4, .v (.bool false))]) (by kernel_rfl) rfl rfl
    ⟨st_plain rfl (op_assign _ _ _ _ rfl rfl),
    trivial⟩ ?_
   refine pt_then ?_
   refine ht_ret ?_
   refine pt_r_then ?_
   obtain rfl := Option.some.inj h
   exact pt_ret hio rfl (.tmp _ _ .nil) rfl rfl
  ·have h := cond_f hb1 h
   refine ht_skip ?_
   refine pt_then ?_
   refine ht_seq ?_
   refine ht_seq ?_
   refine ht_seqR hn (El := [_, _, _, (5, .v (.int .i64 0))]) (init := [0, 1, 2]) (fin := [0, 1, 3]) (sps := [⟨[], [], [3], [(.slot 5)]⟩]) (es' := [(_, _), (_, _), (5, .v (.int .i64 0))]) (by kernel_rfl) rfl rfl
    ⟨st_plain rfl (op_assign _ _ _ _ rfl rfl),
    trivial⟩ ?_
   refine pt_then ?_
   refine ht_loopS h (fun (s12 : Int) => [(0, .fl .shr 1 (List.map (Value.int .u8) a)), (1, .fl .shr 1 (List.map (Value.int .u8) b)), (5, .v (.int .i64 s12))]) (fun (() : Unit) => []) ?_ ?_
   ·rintro ⟨⟩ h
    refine pt_then ?_
    refine ht_seq ?_
    refine ht_seqR hn (El := [(4, .v (.bool true))]) (init := []) (fin := [0]) (sps := [⟨[], [], [0], [(.slot 4)]⟩]) (es' := [(4, .v (.bool true))]) (by kernel_rfl) rfl rfl
     ⟨st_plain rfl (op_assign _ _ _ _ rfl rfl),
     trivial⟩ ?_
    refine pt_then ?_
    refine ht_ret ?_
    obtain rfl := Option.some.inj h
    exact pt_ret hio rfl (.tmp _ _ .nil) rfl rfl
   ·rintro u15 hl16 hr17 s12 rr20 h ho18
    refine ht_seq ?_
    refine ht_seq ?_
    refine ht_seqR hn (El := [_, _, _, (11, .v (.int .i64 s12)), (12, .fl .shr 1 (List.map (Value.int .u8) a)), (13, .v (.int .i64 (a.length : Int))), (14, .v (.bool ((decide (s12 < (a.length : Int))))))]) (init := [0, 1, 2]) (fin := [0, 1, 2, 6]) (sps := [⟨[2], [], [3], [(.slot 11)]⟩, ⟨[0], [], [4], [(.slot 12)]⟩, ⟨[4], [], [5], [(.slot 13)]⟩, ⟨[3, 5], [], [6], [(.slot 14)]⟩]) (es' := [(_, _), (_, _), (_, _), (14, .v (.bool ((decide (s12 < (a.length : Int))))))]) (by kernel_rfl) rfl rfl
     ⟨st_plain rfl (op_move _ _ _ _ rfl rfl),
     st_plain rfl (op_move _ _ _ _ rfl rfl),
     st_plain rfl (op_len_fl _ _ _ Try.underlying25 rfl (by decide) (map_len _)),
     st_plain rfl (op_bin _ _ _ _ _ rfl rfl rfl),
     trivial⟩ ?_
    refine pt_then ?_
    refine ht_cond _ rfl (fun hb21 => ?_) (fun hb21 => ?_)
    ·have h := cond_t hb21 h
     refine ht_skip ?_
     refine pt_then ?_
     refine ht_seq ?_
     refine ht_block ?_
     refine ht_seq ?_
     obtain ⟨v3, hv3, h⟩ := bind_some h
     obtain ⟨v4, hv4, h⟩ := bind_some h
     obtain ⟨v5, hv5, h⟩ := bind_some h
     obtain ⟨v6, hv6, h⟩ := bind_some h
     refine ht_anyR (by kernel_rfl) hn (El := [_, _, _, _, (17, .fl .shr 1 (List.map (Value.int .u8) a)), (18, .v (.int .i64 s12)), (19, .eref (.slot 17) (v3 * 1)), (20, .v (.int .u8 v4)), (21, .fl .shr 1 (List.map (Value.int .u8) b)), (22, .v (.int .i64 s12)), (23, .eref (.slot 21) (v5 * 1)), (24, .v (.int .u8 v6)), (25, .v (.bool (v4 != v6)))]) (init := [0, 1, 2, 3]) (fin := [0, 1, 2, 12]) (sps := [⟨[0], [], [4], [(.slot 17)]⟩, ⟨[2], [], [5], [(.slot 18)]⟩, ⟨[4, 5], [], [6], [(.slot 19)]⟩, ⟨[6, 4], [], [7], [(.slot 20)]⟩, ⟨[1], [], [8], [(.slot 21)]⟩, ⟨[2], [], [9], [(.slot 22)]⟩, ⟨[8, 9], [], [10], [(.slot 23)]⟩, ⟨[10, 8], [], [11], [(.slot 24)]⟩, ⟨[7, 11], [], [12], [(.slot 25)]⟩]) (es' := [(_, _), (_, _), (_, _), (25, .v (.bool (v4 != v6)))]) (by kernel_rfl) rfl rfl
      ⟨st_plain rfl (op_move _ _ _ _ rfl rfl),
      st_plain rfl (op_move _ _ _ _ rfl rfl),
      st_plain rfl (op_ix _ _ _ _ _ _ _ _ Try.underlying25 sz5 (by decide) rfl rfl rfl (ix_ok hv3).1 (map_lt (ix_ok hv3).2) rfl),
      st_plain rfl (op_load_e _ _ _ _ _ _ Try.underlying5 rfl rfl rfl (map_get hv4)),
      st_plain rfl (op_move _ _ _ _ rfl rfl),
      st_plain rfl (op_move _ _ _ _ rfl rfl),
      st_plain rfl (op_ix _ _ _ _ _ _ _ _ Try.underlying25 sz5 (by decide) rfl rfl rfl (ix_ok hv5).1 (map_lt (ix_ok hv5).2) rfl),
      st_plain rfl (op_load_e _ _ _ _ _ _ Try.underlying5 rfl rfl rfl (map_get hv6)),
      st_plain rfl (op_bin _ _ _ _ _ rfl rfl rfl),
      trivial⟩ ?_
     refine pt_then ?_
     refine ht_cond _ rfl (fun hb22 => ?_) (fun hb22 => ?_)
     ·have h := cond_t hb22 h
      refine ht_seq ?_
      refine ht_seqR hn (El := [_, _, _, _, (4, .v (.bool false))]) (init := [0, 1, 2, 3]) (fin := [4]) (sps := [⟨[], [], [4], [(.slot 4)]⟩]) (es' := [(4, .v (.bool false))]) (by kernel_rfl) rfl rfl
       ⟨st_plain rfl (op_assign _ _ _ _ rfl rfl),
       trivial⟩ ?_
      refine pt_then ?_
      refine ht_ret ?_
      refine pt_r_in ?_
      refine pt_r_then ?_
      refine pt_r_then ?_
      refine pt_r_in ?_
      refine pt_r_then ?_
      have h := hr17 _ (ho18 _ (Option.some.inj h).symm).symm
      obtain rfl := Option.some.inj h
      exact pt_ret hio rfl (.tmp _ _ .nil) rfl rfl
     ·have h := cond_f hb22 h
      refine ht_skip ?_
      refine pt_inb ?_
      refine pt_then ?_
      obtain ⟨v8, hv8, h⟩ := bind_some h
      refine ht_seqR hn (El := [_, _, _, _, (15, .v (.int .i64 s12)), (16, .v (.int .i64 v8)), (5, .v (.int .i64 v8))]) (init := [0, 1, 2, 3]) (fin := [0, 1, 6]) (sps := [⟨[2], [], [4], [(.slot 15)]⟩, ⟨[4], [], [5], [(.slot 16)]⟩, ⟨[5], [2], [6], [(.slot 5)]⟩]) (es' := [(_, _), (_, _), (5, .v (.int .i64 v8))]) (by kernel_rfl) rfl rfl
       ⟨st_plain rfl (op_move _ _ _ _ rfl rfl),
       st_plain rfl (op_bin _ _ _ _ _ rfl rfl (ibind (f := Value.int .i64) (Option.some.inj hv8))),
       st_plain rfl (LOp.drop [_] (op_assign _ _ _ _ rfl rfl)),
       trivial⟩ ?_
      exact pt_next _ (Option.some.inj h).symm rfl
    ·have h := cond_f hb21 h
     refine ht_exit ?_
     refine pt_x_then ?_
     refine pt_x_then ?_
     refine pt_x_in ?_
     refine pt_pick [] (by kernel_rfl) (es' := []) rfl ?_
     exact hl16 _ (ho18 _ (Option.some.inj h).symm).symm

set_option maxHeartbeats 1000000 in
theorem ok_wherrykeep_Twin (l : (List Int)) (r : (List Int)) (h : Sh.wherrykeep_Twin l = some r) : FnOK Try.prog 9 [.fl .shr 1 (List.map (Value.int .u8) l)] (.fl (.own 5) 1 (List.map (Value.int .u8) r)) := by
  unfold Sh.wherrykeep_Twin at h
  refine fn_ok Try.func9 rfl (Nat.le_of_ble_eq_true rfl) rfl rfl fun g0 hn hio => ?_
  refine ht_seq ?_
  refine ht_seqR hn (El := [_, (2, .v (.slice none 0 0))]) (init := [0]) (fin := [0]) (sps := [⟨[], [], [1], [(.slot 2)]⟩]) (es' := [(_, _)]) (by kernel_rfl) rfl rfl
   ⟨st_plain rfl (op_assign _ _ _ _ rfl rfl),
   trivial⟩ ?_
  refine pt_then ?_
  refine ht_seq ?_
  refine ht_seqR hn (El := [_, (3, .v (.slice none 0 0))]) (init := [0]) (fin := [0, 1]) (sps := [⟨[], [], [1], [(.slot 3)]⟩]) (es' := [(_, _), (3, .v (.slice none 0 0))]) (by kernel_rfl) rfl rfl
   ⟨st_plain rfl (op_assign _ _ _ _ rfl rfl),
   trivial⟩ ?_
  refine pt_then ?_
  refine ht_seq ?_
  obtain ⟨v1, hv1, h⟩ := bind_some h
  refine ht_seqR hn (El := [_, _, (4, .v (.slice none 0 0)), (5, .fl .shr 1 (List.map (Value.int .u8) l)), (6, .fl (.own 5) 1 (List.map (Value.int .u8) v1)), (2, .fl (.own 5) 1 (List.map (Value.int .u8) v1))]) (init := [0, 1]) (fin := [5]) (sps := [⟨[1], [], [2], [(.slot 4)]⟩, ⟨[0], [], [3], [(.slot 5)]⟩, ⟨[2, 3], [], [4], [(.slot 6)]⟩, ⟨[], [4], [5], [(.slot 2)]⟩]) (es' := [(2, .fl (.own 5) 1 (List.map (Value.int .u8) v1))]) (by kernel_rfl) rfl rfl
   ⟨st_plain rfl (op_move _ _ _ _ rfl rfl),
   st_plain rfl (op_move _ _ _ _ rfl rfl),
   st_plain rfl (op_app_nil _ _ _ _ el25 rfl rfl (map_len _) hv1 (congrArg (List.map _) (app_nil_eq hv1))),
   st_plain rfl (op_assign_take _ _ _ _ rfl),
   trivial⟩ ?_
  refine pt_then ?_
  refine ht_ret ?_
  obtain rfl := Option.some.inj h
  exact pt_ret hio rfl (.tmp _ _ .nil) rfl rfl

set_option maxHeartbeats 1000000 in
theorem ok_wherryref11_end (b : (List Int)) (at_ : Int) (r : Int) (h : Sh.wherryref11_end b at_ = some r) : FnOK Try.prog 23 [.fl .shr 1 (List.map (Value.int .u8) b), .v (.int .i64 at_)] (.v (.int .i64 r)) := by
  unfold Sh.wherryref11_end at h
  refine fn_ok Try.func23 rfl (Nat.le_of_ble_eq_true rfl) rfl rfl fun g0 hn hio => ?_
  refine ht_seq ?_
  refine ht_seqR hn (El := [_, _, (4, .v (.int .i64 0))]) (init := [0, 1]) (fin := [0, 1]) (sps := [⟨[], [], [2], [(.slot 4)]⟩]) (es' := [(_, _), (_, _)]) (by kernel_rfl) rfl rfl
   ⟨st_plain rfl (op_assign _ _ _ _ rfl rfl),
   trivial⟩ ?_
  refine pt_then ?_
  refine ht_seq ?_
  refine ht_seq ?_
  refine ht_seqR hn (El := [_, _, (6, .v (.int .i64 at_)), (5, .v (.int .i64 at_))]) (init := [0, 1]) (fin := [0, 3]) (sps := [⟨[1], [], [2], [(.slot 6)]⟩, ⟨[2], [], [3], [(.slot 5)]⟩]) (es' := [(_, _), (5, .v (.int .i64 at_))]) (by kernel_rfl) rfl rfl
   ⟨st_plain rfl (op_move _ _ _ _ rfl rfl),
   st_plain rfl (op_assign _ _ _ _ rfl rfl),
   trivial⟩ ?_
  refine pt_then ?_
  refine ht_loopS h (fun (s21 : Int) => [(0, .fl .shr 1 (List.map (Value.int .u8) b)), (5, .v (.int .i64 s21))]) (fun (() : Unit) => []) ?_ ?_
  ·rintro ⟨⟩ h
   refine pt_then ?_
   refine ht_seq ?_
   refine ht_seqR hn (El := [(4, .v (.int .i64 (-1)))]) (init := []) (fin := [0]) (sps := [⟨[], [], [0], [(.slot 4)]⟩]) (es' := [(4, .v (.int .i64 (-1)))]) (by kernel_rfl) rfl rfl
    ⟨st_plain rfl (op_assign _ _ _ _ rfl rfl),
    trivial⟩ ?_
   refine pt_then ?_
   refine ht_ret ?_
   obtain rfl := Option.some.inj h
   exact pt_ret hio rfl (.tmp _ _ .nil) rfl rfl
  ·rintro u28 hl29 hr30 s21 rr33 h ho31
   refine ht_seq ?_
   refine ht_seq ?_
   obtain ⟨v1, hv1, h⟩ := bind_some h
   refine ht_seqR hn (El := [_, _, (7, .v (.int .i64 s21)), (8, .v (.int .i64 v1)), (9, .fl .shr 1 (List.map (Value.int .u8) b)), (10, .v (.int .i64 (b.length : Int))), (11, .v (.bool ((decide (v1 < (b.length : Int))))))]) (init := [0, 1]) (fin := [0, 1, 6]) (sps := [⟨[1], [], [2], [(.slot 7)]⟩, ⟨[2], [], [3], [(.slot 8)]⟩, ⟨[0], [], [4], [(.slot 9)]⟩, ⟨[4], [], [5], [(.slot 10)]⟩, ⟨[3, 5], [], [6], [(.slot 11)]⟩]) (es' := [(_, _), (_, _), (11, .v (.bool ((decide (v1 < (b.length : Int))))))]) (by kernel_rfl) rfl rfl
    ⟨st_plain rfl (op_move _ _ _ _ rfl rfl),
    st_plain rfl (op_bin _ _ _ _ _ rfl rfl (ibind (f := Value.int .i64) (Option.some.inj hv1))),
    st_plain rfl (op_move _ _ _ _ rfl rfl),
    st_plain rfl (op_len_fl _ _ _ Try.underlying25 rfl (by decide) (map_len _)),
    st_plain rfl (op_bin _ _ _ _ _ rfl rfl rfl),
    trivial⟩ ?_
   refine pt_then ?_
   refine ht_cond _ rfl (fun hb34 => ?_) (fun hb34 => ?_)
   ·have h := cond_t hb34 h
    refine ht_skip ?_
    refine pt_then ?_
    refine ht_seq ?_
    refine ht_block ?_
    refine ht_seq ?_
    refine ht_joinS h (fun (s35 : Bool) => [(0, .fl .shr 1 (List.map (Value.int .u8) b)), (5, .v (.int .i64 s21)), (26, .v (.bool s35))]) ?_ ?_
    ·rintro s35 h
     refine pt_then ?_
     refine ht_cond _ rfl (fun hb39 => ?_) (fun hb39 => ?_)
     ·have h := cond_t hb39 h
      refine ht_seq ?_
      refine ht_seqR hn (El := [_, _, _, (27, .v (.int .i64 s21)), (4, .v (.int .i64 s21))]) (init := [0, 1, 2]) (fin := [4]) (sps := [⟨[1], [], [3], [(.slot 27)]⟩, ⟨[3], [], [4], [(.slot 4)]⟩]) (es' := [(4, .v (.int .i64 s21))]) (by kernel_rfl) rfl rfl
       ⟨st_plain rfl (op_move _ _ _ _ rfl rfl),
       st_plain rfl (op_assign _ _ _ _ rfl rfl),
       trivial⟩ ?_
      refine pt_then ?_
      refine ht_ret ?_
      refine pt_r_in ?_
      refine pt_r_then ?_
      refine pt_r_then ?_
      refine pt_r_in ?_
      refine pt_r_then ?_
      have h := hr30 _ (ho31 _ (Option.some.inj h).symm).symm
      obtain rfl := Option.some.inj h
      exact pt_ret hio rfl (.tmp _ _ .nil) rfl rfl
     ·have h := cond_f hb39 h
      refine ht_skip ?_
      refine pt_inb ?_
      refine pt_then ?_
      obtain ⟨v13, hv13, h⟩ := bind_some h
      refine ht_seqR hn (El := [_, _, _, (12, .v (.int .i64 s21)), (13, .v (.int .i64 v13)), (5, .v (.int .i64 v13))]) (init := [0, 1, 2]) (fin := [0, 5]) (sps := [⟨[1], [], [3], [(.slot 12)]⟩, ⟨[3], [], [4], [(.slot 13)]⟩, ⟨[4], [1], [5], [(.slot 5)]⟩]) (es' := [(_, _), (5, .v (.int .i64 v13))]) (by kernel_rfl) rfl rfl
       ⟨st_plain rfl (op_move _ _ _ _ rfl rfl),
       st_plain rfl (op_bin _ _ _ _ _ rfl rfl (ibind (f := Value.int .i64) (Option.some.inj hv13))),
       st_plain rfl (LOp.drop [_] (op_assign _ _ _ _ rfl rfl)),
       trivial⟩ ?_
      exact pt_next _ (Option.some.inj h).symm rfl
    ·intro u36 h hl37 hr38
     obtain ⟨v3, hv3, h⟩ := bind_some h
     obtain ⟨v4, hv4, h⟩ := bind_some h
     refine cond_some h (fun hg4_5 h => ?_) (fun hg4_5 h => ?_)
     ·obtain ⟨v5, hv5, h⟩ := bind_some h
      obtain ⟨v6, hv6, h⟩ := bind_some h
      obtain ⟨v7, hv7, h⟩ := bind_some h
      refine ht_seqR hn (El := (_ :: _ :: _ :: (14, .fl .shr 1 (List.map (Value.int .u8) b)) :: (15, .v (.int .i64 s21)) :: (16, .eref (.slot 14) (v3 * 1)) :: (17, .v (.int .u8 v4)) :: (18, .v (.bool (v4 == 13))) :: (19, .v (.bool true)) :: (20, .fl .shr 1 (List.map (Value.int .u8) b)) :: (21, .v (.int .i64 s21)) :: (22, .v (.int .i64 v5)) :: (23, .eref (.slot 20) (v6 * 1)) :: (24, .v (.int .u8 v7)) :: (25, .v (.bool (v7 == 10))) :: (26, .v (.bool (v7 == 10))) :: [])) (init := [0, 1, 2]) (fin := [0, 1, 15]) (sps := [⟨[0], [], [3], [(.slot 14)]⟩, ⟨[1], [], [4], [(.slot 15)]⟩, ⟨[3, 4], [], [5], [(.slot 16)]⟩, ⟨[5, 3], [], [6], [(.slot 17)]⟩, ⟨[6], [], [7], [(.slot 18)]⟩, ⟨[7], [], [8], [(.slot 19)]⟩, ⟨[8, 0], [], [9], [(.slot 20)]⟩, ⟨[8, 1], [], [10], [(.slot 21)]⟩, ⟨[8, 10], [], [11], [(.slot 22)]⟩, ⟨[8, 9, 11], [], [12], [(.slot 23)]⟩, ⟨[8, 12, 9], [], [13], [(.slot 24)]⟩, ⟨[8, 13], [], [14], [(.slot 25)]⟩, ⟨[8, 14], [], [15], [(.slot 26)]⟩]) (es' := [(_, _), (_, _), (26, .v (.bool (v7 == 10)))]) (by kernel_rfl) rfl rfl
       ⟨st_plain rfl (op_move _ _ _ _ rfl rfl),
       st_plain rfl (op_move _ _ _ _ rfl rfl),
       st_plain rfl (op_ix _ _ _ _ _ _ _ _ Try.underlying25 sz5 (by decide) rfl rfl rfl (ix_ok hv3).1 (map_lt (ix_ok hv3).2) rfl),
       st_plain rfl (op_load_e _ _ _ _ _ _ Try.underlying5 rfl rfl rfl (map_get hv4)),
       st_plain rfl (op_bin _ _ _ _ _ rfl rfl rfl),
       st_plain rfl (op_move _ _ _ _ (congrArg (fun b => AV.v (Value.bool b)) hg4_5) rfl),
       st_run 5 19 true rfl rfl rfl (List.Mem.head _) (op_move _ _ _ _ rfl rfl),
       st_run 5 19 true rfl rfl rfl (List.Mem.head _) (op_move _ _ _ _ rfl rfl),
       st_run 5 19 true rfl rfl rfl (List.Mem.head _) (op_bin _ _ _ _ _ rfl rfl (ibind (f := Value.int .i64) (Option.some.inj hv5))),
       st_run 5 19 true rfl rfl rfl (List.Mem.head _) (op_ix _ _ _ _ _ _ _ _ Try.underlying25 sz5 (by decide) rfl rfl rfl (ix_ok hv6).1 (map_lt (ix_ok hv6).2) rfl),
       st_run 5 19 true rfl rfl rfl (List.Mem.head _) (op_load_e _ _ _ _ _ _ Try.underlying5 rfl rfl rfl (map_get hv7)),
       st_run 5 19 true rfl rfl rfl (List.Mem.head _) (op_bin _ _ _ _ _ rfl rfl rfl),
       st_plain rfl (op_pick _ _ true _ rfl rfl),
       trivial⟩ ?_
      exact hl37 _ (Option.some.inj h).symm
     ·refine ht_seqR hn (El := (_ :: _ :: _ :: (14, .fl .shr 1 (List.map (Value.int .u8) b)) :: (15, .v (.int .i64 s21)) :: (16, .eref (.slot 14) (v3 * 1)) :: (17, .v (.int .u8 v4)) :: (18, .v (.bool (v4 == 13))) :: (19, .v (.bool false)) :: (20, .v undef) :: (21, .v undef) :: (22, .v undef) :: (23, .v undef) :: (24, .v undef) :: (25, .v undef) :: (26, .v (.bool false)) :: [])) (init := [0, 1, 2]) (fin := [0, 1, 15]) (sps := [⟨[0], [], [3], [(.slot 14)]⟩, ⟨[1], [], [4], [(.slot 15)]⟩, ⟨[3, 4], [], [5], [(.slot 16)]⟩, ⟨[5, 3], [], [6], [(.slot 17)]⟩, ⟨[6], [], [7], [(.slot 18)]⟩, ⟨[7], [], [8], [(.slot 19)]⟩, ⟨[8], [], [9], [(.slot 20)]⟩, ⟨[8], [], [10], [(.slot 21)]⟩, ⟨[8], [], [11], [(.slot 22)]⟩, ⟨[8], [], [12], [(.slot 23)]⟩, ⟨[8], [], [13], [(.slot 24)]⟩, ⟨[8], [], [14], [(.slot 25)]⟩, ⟨[8], [], [15], [(.slot 26)]⟩]) (es' := [(_, _), (_, _), (26, .v (.bool false))]) (by kernel_rfl) rfl rfl
       ⟨st_plain rfl (op_move _ _ _ _ rfl rfl),
       st_plain rfl (op_move _ _ _ _ rfl rfl),
       st_plain rfl (op_ix _ _ _ _ _ _ _ _ Try.underlying25 sz5 (by decide) rfl rfl rfl (ix_ok hv3).1 (map_lt (ix_ok hv3).2) rfl),
       st_plain rfl (op_load_e _ _ _ _ _ _ Try.underlying5 rfl rfl rfl (map_get hv4)),
       st_plain rfl (op_bin _ _ _ _ _ rfl rfl rfl),
       st_plain rfl (op_move _ _ _ _ (congrArg (fun b => AV.v (Value.bool b)) hg4_5) rfl),
       st_skip 5 19 _ true rfl rfl rfl rfl (List.Mem.head _),
       st_skip 5 19 _ true rfl rfl rfl rfl (List.Mem.head _),
       st_skip 5 19 _ true rfl rfl rfl rfl (List.Mem.head _),
       st_skip 5 19 _ true rfl rfl rfl rfl (List.Mem.head _),
       st_skip 5 19 _ true rfl rfl rfl rfl (List.Mem.head _),
       st_skip 5 19 _ true rfl rfl rfl rfl (List.Mem.head _),
       st_plain rfl (op_pick _ _ false _ rfl rfl),
       trivial⟩ ?_
      exact hl37 _ (Option.some.inj h).symm
   ·have h := cond_f hb34 h
    refine ht_exit ?_
    refine pt_x_then ?_
    refine pt_x_then ?_
    refine pt_x_in ?_
    refine pt_pick [] (by kernel_rfl) (es' := []) rfl ?_
    exact hl29 _ (ho31 _ (Option.some.inj h).symm).symm

set_option maxHeartbeats 1000000 in
theorem ok_wherryref11_in (n : Int) (lo : Int) (hi : Int) (r : Bool) (h : Sh.wherryref11_in n lo hi = some r) : FnOK Try.prog 25 [.v (.int .i64 n), .v (.int .i64 lo), .v (.int .i64 hi)] (.v (.bool r)) := by
  unfold Sh.wherryref11_in at h
  refine fn_ok Try.func25 rfl (Nat.le_of_ble_eq_true rfl) rfl rfl fun g0 hn hio => ?_
  refine ht_seq ?_
  refine ht_seqR hn (El := [_, _, _, (6, .v (.bool false))]) (init := [0, 1, 2]) (fin := [0, 1, 2]) (sps := [⟨[], [], [3], [(.slot 6)]⟩]) (es' := [(_, _), (_, _), (_, _)]) (by kernel_rfl) rfl rfl
   ⟨st_plain rfl (op_assign _ _ _ _ rfl rfl),
   trivial⟩ ?_
  refine pt_then ?_
  refine ht_seq ?_
  refine ht_joinS h (fun (s1 : Bool) => [(6, .v (.bool s1))]) ?_ ?_
  ·rintro s1 h
   refine pt_then ?_
   refine ht_ret ?_
   obtain rfl := Option.some.inj h
   exact pt_ret hio rfl (.tmp _ _ .nil) rfl rfl
  ·intro u2 h hl3 hr4
   refine cond_some h (fun hg1_3 h => ?_) (fun hg1_3 h => ?_)
   ·refine ht_seqR hn (El := [_, _, _, (7, .v (.int .i64 n)), (8, .v (.int .i64 lo)), (9, .v (.bool ((decide (lo ≤ n))))), (10, .v (.bool true)), (11, .v (.int .i64 n)), (12, .v (.int .i64 hi)), (13, .v (.bool ((decide (n ≤ hi))))), (14, .v (.bool ((decide (n ≤ hi))))), (6, .v (.bool ((decide (n ≤ hi)))))]) (init := [0, 1, 2]) (fin := [11]) (sps := [⟨[0], [], [3], [(.slot 7)]⟩, ⟨[1], [], [4], [(.slot 8)]⟩, ⟨[3, 4], [], [5], [(.slot 9)]⟩, ⟨[5], [], [6], [(.slot 10)]⟩, ⟨[6, 0], [], [7], [(.slot 11)]⟩, ⟨[6, 2], [], [8], [(.slot 12)]⟩, ⟨[6, 7, 8], [], [9], [(.slot 13)]⟩, ⟨[6, 9], [], [10], [(.slot 14)]⟩, ⟨[10], [], [11], [(.slot 6)]⟩]) (es' := [(6, .v (.bool ((decide (n ≤ hi)))))]) (by kernel_rfl) rfl rfl
     ⟨st_plain rfl (op_move _ _ _ _ rfl rfl),
     st_plain rfl (op_move _ _ _ _ rfl rfl),
     st_plain rfl (op_bin _ _ _ _ _ rfl rfl rfl),
     st_plain rfl (op_move _ _ _ _ (congrArg (fun b => AV.v (Value.bool b)) hg1_3) rfl),
     st_run 3 10 true rfl rfl rfl (List.Mem.head _) (op_move _ _ _ _ rfl rfl),
     st_run 3 10 true rfl rfl rfl (List.Mem.head _) (op_move _ _ _ _ rfl rfl),
     st_run 3 10 true rfl rfl rfl (List.Mem.head _) (op_bin _ _ _ _ _ rfl rfl rfl),
     st_plain rfl (op_pick _ _ true _ rfl rfl),
     st_plain rfl (op_assign _ _ _ _ rfl rfl),
     trivial⟩ ?_
    exact hl3 _ (Option.some.inj h).symm
   ·refine ht_seqR hn (El := [_, _, _, (7, .v (.int .i64 n)), (8, .v (.int .i64 lo)), (9, .v (.bool ((decide (lo ≤ n))))), (10, .v (.bool false)), (11, .v undef), (12, .v undef), (13, .v undef), (14, .v (.bool false)), (6, .v (.bool false))]) (init := [0, 1, 2]) (fin := [11]) (sps := [⟨[0], [], [3], [(.slot 7)]⟩, ⟨[1], [], [4], [(.slot 8)]⟩, ⟨[3, 4], [], [5], [(.slot 9)]⟩, ⟨[5], [], [6], [(.slot 10)]⟩, ⟨[6], [], [7], [(.slot 11)]⟩, ⟨[6], [], [8], [(.slot 12)]⟩, ⟨[6], [], [9], [(.slot 13)]⟩, ⟨[6], [], [10], [(.slot 14)]⟩, ⟨[10], [], [11], [(.slot 6)]⟩]) (es' := [(6, .v (.bool false))]) (by kernel_rfl) rfl rfl
     ⟨st_plain rfl (op_move _ _ _ _ rfl rfl),
     st_plain rfl (op_move _ _ _ _ rfl rfl),
     st_plain rfl (op_bin _ _ _ _ _ rfl rfl rfl),
     st_plain rfl (op_move _ _ _ _ (congrArg (fun b => AV.v (Value.bool b)) hg1_3) rfl),
     st_skip 3 10 _ true rfl rfl rfl rfl (List.Mem.head _),
     st_skip 3 10 _ true rfl rfl rfl rfl (List.Mem.head _),
     st_skip 3 10 _ true rfl rfl rfl rfl (List.Mem.head _),
     st_plain rfl (op_pick _ _ false _ rfl rfl),
     st_plain rfl (op_assign _ _ _ _ rfl rfl),
     trivial⟩ ?_
    exact hl3 _ (Option.some.inj h).symm

set_option maxHeartbeats 1000000 in
theorem ok_wherryref11_digit (c : Int) (r : Bool) (h : Sh.wherryref11_digit c = some r) : FnOK Try.prog 32 [.v (.int .u8 c)] (.v (.bool r)) := by
  unfold Sh.wherryref11_digit at h
  refine fn_ok Try.func32 rfl (Nat.le_of_ble_eq_true rfl) rfl rfl fun g0 hn hio => ?_
  refine ht_seq ?_
  refine ht_seqR hn (El := [_, (2, .v (.bool false))]) (init := [0]) (fin := [0]) (sps := [⟨[], [], [1], [(.slot 2)]⟩]) (es' := [(_, _)]) (by kernel_rfl) rfl rfl
   ⟨st_plain rfl (op_assign _ _ _ _ rfl rfl),
   trivial⟩ ?_
  refine pt_then ?_
  refine ht_seq ?_
  refine ht_joinS h (fun (s1 : Bool) => [(2, .v (.bool s1))]) ?_ ?_
  ·rintro s1 h
   refine pt_then ?_
   refine ht_ret ?_
   obtain rfl := Option.some.inj h
   exact pt_ret hio rfl (.tmp _ _ .nil) rfl rfl
  ·intro u2 h hl3 hr4
   refine cond_some h (fun hg1_2 h => ?_) (fun hg1_2 h => ?_)
   ·refine ht_seqR hn (El := [_, (3, .v (.int .u8 c)), (4, .v (.bool ((decide (48 ≤ c))))), (5, .v (.bool true)), (6, .v (.int .u8 c)), (7, .v (.bool ((decide (c ≤ 57))))), (8, .v (.bool ((decide (c ≤ 57))))), (2, .v (.bool ((decide (c ≤ 57)))))]) (init := [0]) (fin := [7]) (sps := [⟨[0], [], [1], [(.slot 3)]⟩, ⟨[1], [], [2], [(.slot 4)]⟩, ⟨[2], [], [3], [(.slot 5)]⟩, ⟨[3, 0], [], [4], [(.slot 6)]⟩, ⟨[3, 4], [], [5], [(.slot 7)]⟩, ⟨[3, 5], [], [6], [(.slot 8)]⟩, ⟨[6], [], [7], [(.slot 2)]⟩]) (es' := [(2, .v (.bool ((decide (c ≤ 57)))))]) (by kernel_rfl) rfl rfl
     ⟨st_plain rfl (op_move _ _ _ _ rfl rfl),
     st_plain rfl (op_bin _ _ _ _ _ rfl rfl rfl),
     st_plain rfl (op_move _ _ _ _ (congrArg (fun b => AV.v (Value.bool b)) hg1_2) rfl),
     st_run 2 5 true rfl rfl rfl (List.Mem.head _) (op_move _ _ _ _ rfl rfl),
     st_run 2 5 true rfl rfl rfl (List.Mem.head _) (op_bin _ _ _ _ _ rfl rfl rfl),
     st_plain rfl (op_pick _ _ true _ rfl rfl),
     st_plain rfl (op_assign _ _ _ _ rfl rfl),
     trivial⟩ ?_
    exact hl3 _ (Option.some.inj h).symm
   ·refine ht_seqR hn (El := [_, (3, .v (.int .u8 c)), (4, .v (.bool ((decide (48 ≤ c))))), (5, .v (.bool false)), (6, .v undef), (7, .v undef), (8, .v (.bool false)), (2, .v (.bool false))]) (init := [0]) (fin := [7]) (sps := [⟨[0], [], [1], [(.slot 3)]⟩, ⟨[1], [], [2], [(.slot 4)]⟩, ⟨[2], [], [3], [(.slot 5)]⟩, ⟨[3], [], [4], [(.slot 6)]⟩, ⟨[3], [], [5], [(.slot 7)]⟩, ⟨[3], [], [6], [(.slot 8)]⟩, ⟨[6], [], [7], [(.slot 2)]⟩]) (es' := [(2, .v (.bool false))]) (by kernel_rfl) rfl rfl
     ⟨st_plain rfl (op_move _ _ _ _ rfl rfl),
     st_plain rfl (op_bin _ _ _ _ _ rfl rfl rfl),
     st_plain rfl (op_move _ _ _ _ (congrArg (fun b => AV.v (Value.bool b)) hg1_2) rfl),
     st_skip 2 5 _ true rfl rfl rfl rfl (List.Mem.head _),
     st_skip 2 5 _ true rfl rfl rfl rfl (List.Mem.head _),
     st_plain rfl (op_pick _ _ false _ rfl rfl),
     st_plain rfl (op_assign _ _ _ _ rfl rfl),
     trivial⟩ ?_
    exact hl3 _ (Option.some.inj h).symm

end Go.Proofs.Ytegjndibgnnpcaa
