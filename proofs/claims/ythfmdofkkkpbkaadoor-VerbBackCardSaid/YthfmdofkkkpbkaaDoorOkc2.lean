/-
  The model's runs are what is told in Lean.
-/
import Derived.Test.YthfmdofkkkpbkaaDoorProg
import Derived.KernelRfl
import Derived.Test.YthfmdofkkkpbkaaDoorShelf
import Derived.Test.YthfmdofkkkpbkaaDoorOkc1
set_option linter.unusedVariables false
set_option linter.unusedSimpArgs false
namespace Go.Proofs.YthfmdofkkkpbkaaDoor
open Go.Abs Go.Abs.Sh

set_option maxHeartbeats 1000000 in
theorem ok_verb_printable (line : ByteArray) (r : Bool) (h : Sh.verb_printable line = some r) : FnOK Tryd.prog 16 [.v (.string line)] (.v (.bool r)) := by
  unfold Sh.verb_printable at h
  refine fn_ok Tryd.func16 rfl (Nat.le_of_ble_eq_true rfl) rfl rfl fun g0 hn hio => ?_
  refine ht_seq ?_
  refine ht_seqR hn (El := [_, (2, .v (.bool false))]) (init := [0]) (fin := [0]) (sps := [⟨[], [], [1], [(.slot 2)]⟩]) (es' := [(_, _)]) (by kernel_rfl) rfl rfl
   ⟨st_plain rfl (op_assign _ _ _ _ rfl rfl),
   trivial⟩ ?_
  refine pt_then ?_
  refine ht_seq ?_
  refine ht_seq ?_
  refine ht_seqR hn (El := [_, (4, .v (.string line)), (5, .v (.int .i64 (line.size : Int))), (6, .v (.int .i64 0))]) (init := [0]) (fin := [0, 2, 3]) (sps := [⟨[0], [], [1], [(.slot 4)]⟩, ⟨[1], [], [2], [(.slot 5)]⟩, ⟨[], [], [3], [(.slot 6)]⟩]) (es' := [(_, _), (5, .v (.int .i64 (line.size : Int))), (6, .v (.int .i64 0))]) (by kernel_rfl) rfl rfl
   ⟨st_plain rfl (op_move _ _ _ _ rfl rfl),
   st_plain rfl (op_len_str _ _ _ Tryd.underlying9 rfl),
   st_plain rfl (op_move _ _ _ _ rfl rfl),
   trivial⟩ ?_
  refine pt_then ?_
  refine ht_loopS h (fun (s17 : Int) => [(0, .v (.string line)), (5, .v (.int .i64 (line.size : Int))), (6, .v (.int .i64 s17))]) (fun (() : Unit) => []) ?_ ?_
  ·rintro ⟨⟩ h
   refine pt_then ?_
   refine ht_seq ?_
   refine ht_seqR hn (El := [(2, .v (.bool true))]) (init := []) (fin := [0]) (sps := [⟨[], [], [0], [(.slot 2)]⟩]) (es' := [(2, .v (.bool true))]) (by kernel_rfl) rfl rfl
    ⟨st_plain rfl (op_assign _ _ _ _ rfl rfl),
    trivial⟩ ?_
   refine pt_then ?_
   refine ht_ret ?_
   obtain rfl := Option.some.inj h
   exact pt_ret hio rfl (.tmp _ _ .nil) rfl rfl
  ·rintro u24 hl25 hr26 s17 rr29 h ho27
   refine ht_seq ?_
   refine ht_seqR hn (El := [_, _, _, (7, .v (.bool ((decide (s17 < (line.size : Int))))))]) (init := [0, 1, 2]) (fin := [0, 1, 2, 3]) (sps := [⟨[2, 1], [], [3], [(.slot 7)]⟩]) (es' := [(_, _), (_, _), (_, _), (7, .v (.bool ((decide (s17 < (line.size : Int))))))]) (by kernel_rfl) rfl rfl
    ⟨st_plain rfl (op_bin _ _ _ _ _ rfl rfl rfl),
    trivial⟩ ?_
   refine pt_then ?_
   refine ht_seq ?_
   refine ht_cond _ rfl (fun hb30 => ?_) (fun hb30 => ?_)
   ·have h := cond_t hb30 h
    refine ht_skip ?_
    refine pt_then ?_
    refine ht_seq ?_
    refine ht_block ?_
    refine ht_seq ?_
    refine ht_seqR hn (El := [_, _, _, _, (8, .v (.int .i64 s17)), (3, .v (.int .i64 s17))]) (init := [0, 1, 2, 3]) (fin := [0, 1, 2, 5]) (sps := [⟨[2], [], [4], [(.slot 8)]⟩, ⟨[4], [], [5], [(.slot 3)]⟩]) (es' := [(_, _), (_, _), (_, _), (3, .v (.int .i64 s17))]) (by kernel_rfl) rfl rfl
     ⟨st_plain rfl (op_move _ _ _ _ rfl rfl),
     st_plain rfl (op_assign _ _ _ _ rfl rfl),
     trivial⟩ ?_
    refine pt_then ?_
    refine ht_seq ?_
    refine ht_joinS h (fun (s31 : Bool) => [(0, .v (.string line)), (5, .v (.int .i64 (line.size : Int))), (6, .v (.int .i64 s17)), (18, .v (.bool s31))]) ?_ ?_
    ·rintro s31 h
     refine pt_then ?_
     refine ht_cond _ rfl (fun hb35 => ?_) (fun hb35 => ?_)
     ·have h := cond_t hb35 h
      refine ht_seq ?_
      refine ht_seqR hn (El := [_, _, _, _, (2, .v (.bool false))]) (init := [0, 1, 2, 3]) (fin := [4]) (sps := [⟨[], [], [4], [(.slot 2)]⟩]) (es' := [(2, .v (.bool false))]) (by kernel_rfl) rfl rfl
       ⟨st_plain rfl (op_assign _ _ _ _ rfl rfl),
       trivial⟩ ?_
      refine pt_then ?_
      refine ht_ret ?_
      refine pt_r_in ?_
      refine pt_r_then ?_
      refine pt_r_then ?_
      refine pt_r_in ?_
      refine pt_r_then ?_
      have h := hr26 _ (ho27 _ (Option.some.inj h).symm).symm
      obtain rfl := Option.some.inj h
      exact pt_ret hio rfl (.tmp _ _ .nil) rfl rfl
     ·have h := cond_f hb35 h
      refine ht_skip ?_
      refine pt_inb ?_
      refine pt_then ?_
      obtain ⟨v9, hv9, h⟩ := bind_some h
      refine ht_seqR hn (El := [_, _, _, _, (19, .v (.int .i64 v9)), (6, .v (.int .i64 v9))]) (init := [0, 1, 2, 3]) (fin := [0, 1, 5]) (sps := [⟨[2], [], [4], [(.slot 19)]⟩, ⟨[4], [2], [5], [(.slot 6)]⟩]) (es' := [(_, _), (_, _), (6, .v (.int .i64 v9))]) (by kernel_rfl) rfl rfl
       ⟨st_plain rfl (op_bin _ _ _ _ _ rfl rfl (ibind (f := Value.int .i64) (Option.some.inj hv9))),
       st_plain rfl (LOp.drop [_] (op_move _ _ _ _ rfl rfl)),
       trivial⟩ ?_
      exact pt_next _ (Option.some.inj h).symm rfl
    ·intro u32 h hl33 hr34
     obtain ⟨v2, hv2, h⟩ := bind_some h
     refine cond_some h (fun hg4_4 h => ?_) (fun hg4_4 h => ?_)
     ·refine ht_seqR hn (El := [_, _, _, _, (9, .v (.string line)), (10, .v (.int .i64 s17)), (11, .v (.int .u8 v2)), (12, .v (.bool ((decide (v2 < 32))))), (13, .v (.bool true)), (14, .v undef), (15, .v undef), (16, .v undef), (17, .v undef), (18, .v (.bool true))]) (init := [0, 1, 2, 3]) (fin := [0, 1, 2, 13]) (sps := [⟨[0], [], [4], [(.slot 9)]⟩, ⟨[3], [], [5], [(.slot 10)]⟩, ⟨[4, 5], [], [6], [(.slot 11)]⟩, ⟨[6], [], [7], [(.slot 12)]⟩, ⟨[7], [], [8], [(.slot 13)]⟩, ⟨[8], [], [9], [(.slot 14)]⟩, ⟨[8], [], [10], [(.slot 15)]⟩, ⟨[8], [], [11], [(.slot 16)]⟩, ⟨[8], [], [12], [(.slot 17)]⟩, ⟨[8], [], [13], [(.slot 18)]⟩]) (es' := [(_, _), (_, _), (_, _), (18, .v (.bool true))]) (by kernel_rfl) rfl rfl
       ⟨st_plain rfl (op_move _ _ _ _ rfl rfl),
       st_plain rfl (op_move _ _ _ _ rfl rfl),
       st_plain rfl (op_chr _ _ _ s17 _ Tryd.underlying9 rfl rfl hv2),
       st_plain rfl (op_bin _ _ _ _ _ rfl rfl rfl),
       st_plain rfl (op_move _ _ _ _ (congrArg (fun b => AV.v (Value.bool b)) hg4_4) rfl),
       st_skip 4 13 _ false rfl rfl rfl rfl (List.Mem.head _),
       st_skip 4 13 _ false rfl rfl rfl rfl (List.Mem.head _),
       st_skip 4 13 _ false rfl rfl rfl rfl (List.Mem.head _),
       st_skip 4 13 _ false rfl rfl rfl rfl (List.Mem.head _),
       st_plain rfl (op_pick _ _ true _ rfl rfl),
       trivial⟩ ?_
      exact hl33 _ (Option.some.inj h).symm
     ·obtain ⟨v3, hv3, h⟩ := bind_some h
      refine ht_seqR hn (El := [_, _, _, _, (9, .v (.string line)), (10, .v (.int .i64 s17)), (11, .v (.int .u8 v2)), (12, .v (.bool ((decide (v2 < 32))))), (13, .v (.bool false)), (14, .v (.string line)), (15, .v (.int .i64 s17)), (16, .v (.int .u8 v3)), (17, .v (.bool ((decide (126 < v3))))), (18, .v (.bool ((decide (126 < v3)))))]) (init := [0, 1, 2, 3]) (fin := [0, 1, 2, 13]) (sps := [⟨[0], [], [4], [(.slot 9)]⟩, ⟨[3], [], [5], [(.slot 10)]⟩, ⟨[4, 5], [], [6], [(.slot 11)]⟩, ⟨[6], [], [7], [(.slot 12)]⟩, ⟨[7], [], [8], [(.slot 13)]⟩, ⟨[8, 0], [], [9], [(.slot 14)]⟩, ⟨[8, 3], [], [10], [(.slot 15)]⟩, ⟨[8, 9, 10], [], [11], [(.slot 16)]⟩, ⟨[8, 11], [], [12], [(.slot 17)]⟩, ⟨[8, 12], [], [13], [(.slot 18)]⟩]) (es' := [(_, _), (_, _), (_, _), (18, .v (.bool ((decide (126 < v3)))))]) (by kernel_rfl) rfl rfl
       ⟨st_plain rfl (op_move _ _ _ _ rfl rfl),
       st_plain rfl (op_move _ _ _ _ rfl rfl),
       st_plain rfl (op_chr _ _ _ s17 _ Tryd.underlying9 rfl rfl hv2),
       st_plain rfl (op_bin _ _ _ _ _ rfl rfl rfl),
       st_plain rfl (op_move _ _ _ _ (congrArg (fun b => AV.v (Value.bool b)) hg4_4) rfl),
       st_run 4 13 false rfl rfl rfl (List.Mem.head _) (op_move _ _ _ _ rfl rfl),
       st_run 4 13 false rfl rfl rfl (List.Mem.head _) (op_move _ _ _ _ rfl rfl),
       st_run 4 13 false rfl rfl rfl (List.Mem.head _) (op_chr _ _ _ s17 _ Tryd.underlying9 rfl rfl hv3),
       st_run 4 13 false rfl rfl rfl (List.Mem.head _) (op_bin _ _ _ _ _ rfl rfl rfl),
       st_plain rfl (op_pick _ _ false _ rfl rfl),
       trivial⟩ ?_
      exact hl33 _ (Option.some.inj h).symm
   ·have h := cond_f hb30 h
    refine ht_exit ?_
    refine pt_x_then ?_
    refine pt_x_then ?_
    refine pt_x_in ?_
    refine pt_pick [] (by kernel_rfl) (es' := []) rfl ?_
    exact hl25 _ (ho27 _ (Option.some.inj h).symm).symm

theorem ok_internal_stringslite_Index (s sub : ByteArray) (r : Int) (h : Sh.strings_Index s sub = some r) : FnOK Tryd.prog 46 [.v (.string s), .v (.string sub)] (.v (.int .i64 r)) := lib_strings_Index Tryd.stringslite_Index_one s sub r h

set_option maxHeartbeats 1000000 in
theorem ok_internal_stringslite_Cut (s : ByteArray) (sep : ByteArray) (r : (ByteArray × ByteArray × Bool)) (h : Sh.internal_stringslite_Cut s sep = some r) : FnOK Tryd.prog 38 [.v (.string s), .v (.string sep)] (.tup [.v (.string r.1), .v (.string r.2.1), .v (.bool r.2.2)]) := by
  unfold Sh.internal_stringslite_Cut at h
  refine fn_ok Tryd.func38 rfl (Nat.le_of_ble_eq_true rfl) rfl rfl fun g0 hn hio => ?_
  refine ht_seq ?_
  refine ht_seqR hn (El := [_, _, (4, .v (.string (⟨#[]⟩ : ByteArray))), (5, .v (.string (⟨#[]⟩ : ByteArray))), (6, .v (.bool false))]) (init := [0, 1]) (fin := [0, 1]) (sps := [⟨[], [], [2], [(.slot 4)]⟩, ⟨[], [], [3], [(.slot 5)]⟩, ⟨[], [], [4], [(.slot 6)]⟩]) (es' := [(_, _), (_, _)]) (by kernel_rfl) rfl rfl
   ⟨st_plain rfl (op_assign _ _ _ _ rfl rfl),
   st_plain rfl (op_assign _ _ _ _ rfl rfl),
   st_plain rfl (op_assign _ _ _ _ rfl rfl),
   trivial⟩ ?_
  refine pt_then ?_
  refine ht_seq ?_
  refine ht_seq ?_
  obtain ⟨v1, hv1, h⟩ := bind_some h
  refine ht_seqR hn (El := [_, _, (8, .v (.string s)), (9, .v (.string sep)), (10, .v (.int .i64 v1)), (7, .v (.int .i64 v1))]) (init := [0, 1]) (fin := [0, 1, 5]) (sps := [⟨[0], [], [2], [(.slot 8)]⟩, ⟨[1], [], [3], [(.slot 9)]⟩, ⟨[2, 3], [], [4], [(.slot 10)]⟩, ⟨[4], [], [5], [(.slot 7)]⟩]) (es' := [(_, _), (_, _), (7, .v (.int .i64 v1))]) (by kernel_rfl) rfl rfl
   ⟨st_plain rfl (op_move _ _ _ _ rfl rfl),
   st_plain rfl (op_move _ _ _ _ rfl rfl),
   st_plain rfl (op_call _ _ 46 _ _ rfl Tryd.call46 rfl (ok_internal_stringslite_Index s sep _ hv1) rfl rfl),
   st_plain rfl (op_assign _ _ _ _ rfl rfl),
   trivial⟩ ?_
  refine pt_then ?_
  refine ht_seq ?_
  refine ht_seqR hn (El := [_, _, _, (11, .v (.int .i64 v1)), (12, .v (.bool ((decide (0 ≤ v1)))))]) (init := [0, 1, 2]) (fin := [0, 1, 2, 4]) (sps := [⟨[2], [], [3], [(.slot 11)]⟩, ⟨[3], [], [4], [(.slot 12)]⟩]) (es' := [(_, _), (_, _), (_, _), (12, .v (.bool ((decide (0 ≤ v1)))))]) (by kernel_rfl) rfl rfl
   ⟨st_plain rfl (op_move _ _ _ _ rfl rfl),
   st_plain rfl (op_bin _ _ _ _ _ rfl rfl rfl),
   trivial⟩ ?_
  refine pt_then ?_
  refine ht_cond _ rfl (fun hb2 => ?_) (fun hb2 => ?_)
  ·have h := cond_t hb2 h
   refine ht_seq ?_
   obtain ⟨v3, hv3, h⟩ := bind_some h
   obtain ⟨v4, hv4, h⟩ := bind_some h
   obtain ⟨v5, hv5, h⟩ := bind_some h
   refine ht_anyR (by kernel_rfl) hn (El := (_ :: _ :: _ :: _ :: (13, .v (.string s)) :: (14, .v (.int .i64 v1)) :: (15, .v (.string v3)) :: (16, .v (.string s)) :: (17, .v (.int .i64 v1)) :: (18, .v (.string sep)) :: (19, .v (.int .i64 (sep.size : Int))) :: (20, .v (.int .i64 v4)) :: (21, .v (.string v5)) :: (4, .v (.string v3)) :: (5, .v (.string v5)) :: (6, .v (.bool true)) :: [])) (init := [0, 1, 2, 3]) (fin := [13, 14, 15]) (sps := [⟨[0], [], [4], [(.slot 13)]⟩, ⟨[2], [], [5], [(.slot 14)]⟩, ⟨[4, 5], [], [6], [(.slot 15)]⟩, ⟨[0], [], [7], [(.slot 16)]⟩, ⟨[2], [], [8], [(.slot 17)]⟩, ⟨[1], [], [9], [(.slot 18)]⟩, ⟨[9], [], [10], [(.slot 19)]⟩, ⟨[8, 10], [], [11], [(.slot 20)]⟩, ⟨[7, 11], [], [12], [(.slot 21)]⟩, ⟨[6], [], [13], [(.slot 4)]⟩, ⟨[12], [], [14], [(.slot 5)]⟩, ⟨[], [], [15], [(.slot 6)]⟩]) (es' := [(4, .v (.string v3)), (5, .v (.string v5)), (6, .v (.bool true))]) (by kernel_rfl) rfl rfl
    ⟨st_plain rfl (op_move _ _ _ _ rfl rfl),
    st_plain rfl (op_move _ _ _ _ rfl rfl),
    st_plain rfl (op_substr _ _ _ 0 v1 _ Tryd.underlying9 rfl rfl ⟨_, rfl⟩ hv3),
    st_plain rfl (op_move _ _ _ _ rfl rfl),
    st_plain rfl (op_move _ _ _ _ rfl rfl),
    st_plain rfl (op_move _ _ _ _ rfl rfl),
    st_plain rfl (op_len_str _ _ _ Tryd.underlying9 rfl),
    st_plain rfl (op_bin _ _ _ _ _ rfl rfl (ibind (f := Value.int .i64) (Option.some.inj hv4))),
    st_plain rfl (op_substr _ _ _ v4 (s.size : Int) _ Tryd.underlying9 rfl ⟨_, rfl⟩ rfl hv5),
    st_plain rfl (op_assign _ _ _ _ rfl rfl),
    st_plain rfl (op_assign _ _ _ _ rfl rfl),
    st_plain rfl (op_assign _ _ _ _ rfl rfl),
    trivial⟩ ?_
   refine pt_then ?_
   refine ht_ret ?_
   refine pt_r_then ?_
   obtain rfl := Option.some.inj h
   exact pt_ret hio rfl (.tmp _ _ (.tmp _ _ (.tmp _ _ .nil))) rfl rfl
  ·have h := cond_f hb2 h
   refine ht_skip ?_
   refine pt_then ?_
   refine ht_seq ?_
   refine ht_seqR hn (El := [_, _, _, _, (22, .v (.string s)), (4, .v (.string s)), (5, .v (.string (⟨#[]⟩ : ByteArray))), (6, .v (.bool false))]) (init := [0, 1, 2, 3]) (fin := [5, 6, 7]) (sps := [⟨[0], [], [4], [(.slot 22)]⟩, ⟨[4], [], [5], [(.slot 4)]⟩, ⟨[], [], [6], [(.slot 5)]⟩, ⟨[], [], [7], [(.slot 6)]⟩]) (es' := [(4, .v (.string s)), (5, .v (.string (⟨#[]⟩ : ByteArray))), (6, .v (.bool false))]) (by kernel_rfl) rfl rfl
    ⟨st_plain rfl (op_move _ _ _ _ rfl rfl),
    st_plain rfl (op_assign _ _ _ _ rfl rfl),
    st_plain rfl (op_assign _ _ _ _ rfl rfl),
    st_plain rfl (op_assign _ _ _ _ rfl rfl),
    trivial⟩ ?_
   refine pt_then ?_
   refine ht_ret ?_
   obtain rfl := Option.some.inj h
   exact pt_ret hio rfl (.tmp _ _ (.tmp _ _ (.tmp _ _ .nil))) rfl rfl

set_option maxHeartbeats 1000000 in
theorem ok_strings_Cut (s : ByteArray) (sep : ByteArray) (r : (ByteArray × ByteArray × Bool)) (h : Sh.strings_Cut s sep = some r) : FnOK Tryd.prog 30 [.v (.string s), .v (.string sep)] (.tup [.v (.string r.1), .v (.string r.2.1), .v (.bool r.2.2)]) := by
  unfold Sh.strings_Cut at h
  refine fn_ok Tryd.func30 rfl (Nat.le_of_ble_eq_true rfl) rfl rfl fun g0 hn hio => ?_
  refine ht_seq ?_
  refine ht_seqR hn (El := [_, _, (4, .v (.string (⟨#[]⟩ : ByteArray))), (5, .v (.string (⟨#[]⟩ : ByteArray))), (6, .v (.bool false))]) (init := [0, 1]) (fin := [0, 1]) (sps := [⟨[], [], [2], [(.slot 4)]⟩, ⟨[], [], [3], [(.slot 5)]⟩, ⟨[], [], [4], [(.slot 6)]⟩]) (es' := [(_, _), (_, _)]) (by kernel_rfl) rfl rfl
   ⟨st_plain rfl (op_assign _ _ _ _ rfl rfl),
   st_plain rfl (op_assign _ _ _ _ rfl rfl),
   st_plain rfl (op_assign _ _ _ _ rfl rfl),
   trivial⟩ ?_
  refine pt_then ?_
  refine ht_seq ?_
  obtain ⟨v1, hv1, h⟩ := bind_some h
  refine ht_seqR hn (El := [_, _, (7, .v (.string s)), (8, .v (.string sep)), (9, .tup [.v (.string v1.1), .v (.string v1.2.1), .v (.bool v1.2.2)]), (10, .v (.string v1.1)), (11, .v (.string v1.2.1)), (12, .v (.bool v1.2.2)), (4, .v (.string v1.1)), (5, .v (.string v1.2.1)), (6, .v (.bool v1.2.2))]) (init := [0, 1]) (fin := [8, 9, 10]) (sps := [⟨[0], [], [2], [(.slot 7)]⟩, ⟨[1], [], [3], [(.slot 8)]⟩, ⟨[2, 3], [], [4], [(.slot 9)]⟩, ⟨[4], [], [5], [(.slot 10)]⟩, ⟨[4], [], [6], [(.slot 11)]⟩, ⟨[4], [], [7], [(.slot 12)]⟩, ⟨[5], [], [8], [(.slot 4)]⟩, ⟨[6], [], [9], [(.slot 5)]⟩, ⟨[7], [], [10], [(.slot 6)]⟩]) (es' := [(4, .v (.string v1.1)), (5, .v (.string v1.2.1)), (6, .v (.bool v1.2.2))]) (by kernel_rfl) rfl rfl
   ⟨st_plain rfl (op_move _ _ _ _ rfl rfl),
   st_plain rfl (op_move _ _ _ _ rfl rfl),
   st_plain rfl (op_call _ _ 38 _ _ rfl Tryd.call38 rfl (ok_internal_stringslite_Cut s sep _ hv1) rfl rfl),
   st_plain rfl (op_extract _ _ _ _ _ rfl rfl (Nat.le_of_ble_eq_true rfl) rfl rfl),
   st_plain rfl (op_extract _ _ _ _ _ rfl rfl (Nat.le_of_ble_eq_true rfl) rfl rfl),
   st_plain rfl (op_extract _ _ _ _ _ rfl rfl (Nat.le_of_ble_eq_true rfl) rfl rfl),
   st_plain rfl (op_assign _ _ _ _ rfl rfl),
   st_plain rfl (op_assign _ _ _ _ rfl rfl),
   st_plain rfl (op_assign _ _ _ _ rfl rfl),
   trivial⟩ ?_
  refine pt_then ?_
  refine ht_ret ?_
  obtain rfl := Option.some.inj h
  exact pt_ret hio rfl (.tmp _ _ (.tmp _ _ (.tmp _ _ .nil))) rfl rfl

set_option maxHeartbeats 1000000 in
theorem ok_path_Fold (s : ByteArray) (r : ByteArray) (h : Sh.path_Fold s = some r) : FnOK Tryd.prog 31 [.v (.string s)] (.v (.string r)) := by
  unfold Sh.path_Fold at h
  refine fn_ok Tryd.func31 rfl (Nat.le_of_ble_eq_true rfl) rfl rfl fun g0 hn hio => ?_
  refine ht_seq ?_
  refine ht_seqR hn (El := [_, (2, .v (.string (⟨#[]⟩ : ByteArray)))]) (init := [0]) (fin := [0]) (sps := [⟨[], [], [1], [(.slot 2)]⟩]) (es' := [(_, _)]) (by kernel_rfl) rfl rfl
   ⟨st_plain rfl (op_assign _ _ _ _ rfl rfl),
   trivial⟩ ?_
  refine pt_then ?_
  refine ht_seq ?_
  obtain ⟨v1, hv1, h⟩ := bind_some h
  refine ht_seqR hn (El := [_, (6, .v (.string s)), (7, .mkr 5 (List.map (Value.int .u8) v1)), (3, .mkr 5 (List.map (Value.int .u8) v1))]) (init := [0]) (fin := [3]) (sps := [⟨[0], [], [1], [(.slot 6)]⟩, ⟨[1], [], [2], [(.slot 7)]⟩, ⟨[], [2], [3], [(.slot 3)]⟩]) (es' := [(3, .mkr 5 (List.map (Value.int .u8) v1))]) (by kernel_rfl) rfl rfl
   ⟨st_plain rfl (op_move _ _ _ _ rfl rfl),
   st_plain rfl ((Option.some.inj hv1) ▸ op_str_mk _ _ _ s Tryd.underlying9 Tryd.underlying37 Tryd.underlying5 rfl),
   st_plain rfl (op_assign_take _ _ _ _ rfl),
   trivial⟩ ?_
  refine pt_then ?_
  refine ht_seq ?_
  refine ht_seq ?_
  refine ht_seqR hn (El := [_, (8, .same (.slot 3)), (9, .v (.int .i64 (v1.length : Int))), (10, .v (.int .i64 0))]) (init := [0]) (fin := [0, 1, 2, 3]) (sps := [⟨[0], [], [1], [(.slot 8)]⟩, ⟨[1, 0], [], [2], [(.slot 9)]⟩, ⟨[], [], [3], [(.slot 10)]⟩]) (es' := [(_, _), (8, .same (.slot 3)), (9, .v (.int .i64 (v1.length : Int))), (10, .v (.int .i64 0))]) (by kernel_rfl) rfl rfl
   ⟨st_plain rfl (op_move _ _ _ _ rfl rfl),
   st_plain rfl (op_len_mk _ _ _ Tryd.underlying37 rfl (List.length_map _)),
   st_plain rfl (op_move _ _ _ _ rfl rfl),
   trivial⟩ ?_
  refine pt_then ?_
  refine ht_loopS h (fun ((s40, s41) : (List Int) × Int) => [(3, .mkr 5 (List.map (Value.int .u8) s40)), (8, .same (.slot 3)), (9, .v (.int .i64 (v1.length : Int))), (10, .v (.int .i64 s41))]) (fun (s57 : (List Int)) => [(3, .mkr 5 (List.map (Value.int .u8) s57))]) ?_ ?_
  ·rintro s57 h
   refine pt_then ?_
   refine ht_seq ?_
   obtain ⟨v79, hv79, h⟩ := bind_some h
   refine ht_seqR hn (El := [_, (27, .mkr 5 (List.map (Value.int .u8) s57)), (28, .v (.string v79)), (2, .v (.string v79))]) (init := [0]) (fin := [3]) (sps := [⟨[], [0], [1], [(.slot 27)]⟩, ⟨[1], [], [2], [(.slot 28)]⟩, ⟨[2], [], [3], [(.slot 2)]⟩]) (es' := [(2, .v (.string v79))]) (by kernel_rfl) rfl rfl
    ⟨st_plain rfl (op_move_take _ _ _ _ rfl),
    st_plain rfl ((Option.some.inj hv79) ▸ op_mk_str _ _ _ s57 Tryd.underlying37 Tryd.underlying9 Tryd.underlying5 rfl),
    st_plain rfl (op_assign _ _ _ _ rfl rfl),
    trivial⟩ ?_
   refine pt_then ?_
   refine ht_ret ?_
   obtain rfl := Option.some.inj h
   exact pt_ret hio rfl (.tmp _ _ .nil) rfl rfl
  ·rintro u58 hl59 hr60 ⟨s40, s41⟩ rr63 h ho61
   refine ht_seq ?_
   refine ht_seqR hn (El := [_, _, _, _, (11, .v (.bool ((decide (s41 < (v1.length : Int))))))]) (init := [0, 1, 2, 3]) (fin := [0, 1, 2, 3, 4]) (sps := [⟨[3, 2], [], [4], [(.slot 11)]⟩]) (es' := [(_, _), (_, _), (_, _), (_, _), (11, .v (.bool ((decide (s41 < (v1.length : Int))))))]) (by kernel_rfl) rfl rfl
    ⟨st_plain rfl (op_bin _ _ _ _ _ rfl rfl rfl),
    trivial⟩ ?_
   refine pt_then ?_
   refine ht_seq ?_
   refine ht_cond _ rfl (fun hb64 => ?_) (fun hb64 => ?_)
   ·have h := cond_t hb64 h
    refine ht_skip ?_
    refine pt_then ?_
    refine ht_seq ?_
    refine ht_joinS h (fun (s70 : (List Int)) => [(3, .mkr 5 (List.map (Value.int .u8) s70)), (8, .same (.slot 3)), (9, .v (.int .i64 (v1.length : Int))), (10, .v (.int .i64 s41))]) ?_ ?_
    ·rintro s70 h
     refine pt_then ?_
     obtain ⟨v22, hv22, h⟩ := bind_some h
     refine ht_seqR hn (El := [_, _, _, _, (26, .v (.int .i64 v22)), (10, .v (.int .i64 v22))]) (init := [0, 1, 2, 3]) (fin := [0, 1, 2, 5]) (sps := [⟨[3], [], [4], [(.slot 26)]⟩, ⟨[4], [3], [5], [(.slot 10)]⟩]) (es' := [(_, _), (_, _), (_, _), (10, .v (.int .i64 v22))]) (by kernel_rfl) rfl rfl
      ⟨st_plain rfl (op_bin _ _ _ _ _ rfl rfl (ibind (f := Value.int .i64) (Option.some.inj hv22))),
      st_plain rfl (LOp.drop [_] (op_move _ _ _ _ rfl rfl)),
      trivial⟩ ?_
     exact pt_next _ (Option.some.inj h).symm rfl
    ·intro u71 h hl72 hr73
     refine ht_block ?_
     refine ht_seq ?_
     obtain ⟨v3, hv3, h⟩ := bind_some h
     obtain ⟨v4, hv4, h⟩ := bind_some h
     refine ht_seqR hn (El := [_, _, _, _, _, (12, .v (.int .i64 s41)), (13, .eref (.slot 3) (v3 * 1)), (14, .v (.int .u8 v4)), (4, .v (.int .i64 s41)), (5, .v (.int .u8 v4))]) (init := [0, 1, 2, 3, 4]) (fin := [0, 1, 2, 3, 8, 9]) (sps := [⟨[3], [], [5], [(.slot 12)]⟩, ⟨[1, 0, 3], [], [6], [(.slot 13)]⟩, ⟨[6, 0], [], [7], [(.slot 14)]⟩, ⟨[5], [], [8], [(.slot 4)]⟩, ⟨[7], [], [9], [(.slot 5)]⟩]) (es' := [(_, _), (_, _), (_, _), (_, _), (4, .v (.int .i64 s41)), (5, .v (.int .u8 v4))]) (by kernel_rfl) rfl rfl
      ⟨st_plain rfl (op_move _ _ _ _ rfl rfl),
      st_plain rfl (op_ix_mk _ _ _ _ _ _ _ Tryd.underlying37 sz5 rfl rfl rfl (ix_ok hv3).1 (mk_lt' (ix_ok hv3).2) rfl),
      st_plain rfl (op_load_mk _ _ _ _ _ _ Tryd.underlying5 rfl rfl rfl (map_get hv4)),
      st_plain rfl (op_assign _ _ _ _ rfl rfl),
      st_plain rfl (op_assign _ _ _ _ rfl rfl),
      trivial⟩ ?_
     refine pt_then ?_
     refine ht_seq ?_
     refine ht_joinS h (fun (s74 : Bool) => [(3, .mkr 5 (List.map (Value.int .u8) s40)), (8, .same (.slot 3)), (9, .v (.int .i64 (v1.length : Int))), (10, .v (.int .i64 s41)), (4, .v (.int .i64 s41)), (5, .v (.int .u8 v4)), (20, .v (.bool s74))]) ?_ ?_
     ·rintro s74 h
      refine pt_then ?_
      refine ht_cond _ rfl (fun hb78 => ?_) (fun hb78 => ?_)
      ·have h := cond_t hb78 h
       obtain ⟨v10, hv10, h⟩ := bind_some h
       obtain ⟨v11, hv11, h⟩ := bind_some h
       obtain ⟨v12, hv12, h⟩ := bind_some h
       refine ht_seqR hn (El := [_, _, _, _, _, _, _, (21, .same (.slot 3)), (22, .v (.int .i64 s41)), (23, .v (.int .u8 v4)), (24, .v (.int .u8 v10)), (25, .eref (.slot 3) (v11 * 1)), (3, .mkr 5 (List.map (Value.int .u8) v12))]) (init := [0, 1, 2, 3, 4, 5, 6]) (fin := [12, 1, 2, 3]) (sps := [⟨[0], [], [7], [(.slot 21)]⟩, ⟨[4], [], [8], [(.slot 22)]⟩, ⟨[5], [], [9], [(.slot 23)]⟩, ⟨[9], [], [10], [(.slot 24)]⟩, ⟨[7, 0, 8], [], [11], [(.slot 25)]⟩, ⟨[11, 10], [0], [12], []⟩]) (es' := [(3, .mkr 5 (List.map (Value.int .u8) v12)), (_, _), (_, _), (_, _)]) (by kernel_rfl) rfl rfl
        ⟨st_plain rfl (op_move _ _ _ _ rfl rfl),
        st_plain rfl (op_move _ _ _ _ rfl rfl),
        st_plain rfl (op_move _ _ _ _ rfl rfl),
        st_plain rfl (op_bin _ _ _ _ _ rfl rfl (ibind (f := Value.int .u8) (Option.some.inj hv10))),
        st_plain rfl (op_ix_mk _ _ _ _ _ _ _ Tryd.underlying37 sz5 rfl rfl rfl (ix_ok hv11).1 (mk_lt' (ix_ok hv11).2) rfl),
        st_plain rfl (op_store_mk _ _ _ _ _ _ _ sz5 rfl rfl rfl (mk_lt (ix_ok hv11).2) (mk_set (f := Value.int .u8) (Option.some.inj hv12))),
        trivial⟩ ?_
       refine pt_inb ?_
       exact hl72 _ (Option.some.inj h).symm
      ·have h := cond_f hb78 h
       refine ht_skip ?_
       refine pt_inb ?_
       refine pt_pick [0, 1, 2, 3] (by kernel_rfl) (es' := [(_, _), (_, _), (_, _), (_, _)]) rfl ?_
       exact hl72 _ (Option.some.inj h).symm
     ·intro u75 h hl76 hr77
      refine cond_some h (fun hg5_2 h => ?_) (fun hg5_2 h => ?_)
      ·refine ht_seqR hn (El := [_, _, _, _, _, _, (15, .v (.int .u8 v4)), (16, .v (.bool ((decide (65 ≤ v4))))), (17, .v (.bool true)), (18, .v (.int .u8 v4)), (19, .v (.bool ((decide (v4 ≤ 90))))), (20, .v (.bool ((decide (v4 ≤ 90)))))]) (init := [0, 1, 2, 3, 4, 5]) (fin := [0, 1, 2, 3, 4, 5, 11]) (sps := [⟨[5], [], [6], [(.slot 15)]⟩, ⟨[6], [], [7], [(.slot 16)]⟩, ⟨[7], [], [8], [(.slot 17)]⟩, ⟨[8, 5], [], [9], [(.slot 18)]⟩, ⟨[8, 9], [], [10], [(.slot 19)]⟩, ⟨[8, 10], [], [11], [(.slot 20)]⟩]) (es' := [(_, _), (_, _), (_, _), (_, _), (_, _), (_, _), (20, .v (.bool ((decide (v4 ≤ 90)))))]) (by kernel_rfl) rfl rfl
        ⟨st_plain rfl (op_move _ _ _ _ rfl rfl),
        st_plain rfl (op_bin _ _ _ _ _ rfl rfl rfl),
        st_plain rfl (op_move _ _ _ _ (congrArg (fun b => AV.v (Value.bool b)) hg5_2) rfl),
        st_run 2 17 true rfl rfl rfl (List.Mem.head _) (op_move _ _ _ _ rfl rfl),
        st_run 2 17 true rfl rfl rfl (List.Mem.head _) (op_bin _ _ _ _ _ rfl rfl rfl),
        st_plain rfl (op_pick _ _ true _ rfl rfl),
        trivial⟩ ?_
       exact hl76 _ (Option.some.inj h).symm
      ·refine ht_seqR hn (El := [_, _, _, _, _, _, (15, .v (.int .u8 v4)), (16, .v (.bool ((decide (65 ≤ v4))))), (17, .v (.bool false)), (18, .v undef), (19, .v undef), (20, .v (.bool false))]) (init := [0, 1, 2, 3, 4, 5]) (fin := [0, 1, 2, 3, 4, 5, 11]) (sps := [⟨[5], [], [6], [(.slot 15)]⟩, ⟨[6], [], [7], [(.slot 16)]⟩, ⟨[7], [], [8], [(.slot 17)]⟩, ⟨[8], [], [9], [(.slot 18)]⟩, ⟨[8], [], [10], [(.slot 19)]⟩, ⟨[8], [], [11], [(.slot 20)]⟩]) (es' := [(_, _), (_, _), (_, _), (_, _), (_, _), (_, _), (20, .v (.bool false))]) (by kernel_rfl) rfl rfl
        ⟨st_plain rfl (op_move _ _ _ _ rfl rfl),
        st_plain rfl (op_bin _ _ _ _ _ rfl rfl rfl),
        st_plain rfl (op_move _ _ _ _ (congrArg (fun b => AV.v (Value.bool b)) hg5_2) rfl),
        st_skip 2 17 _ true rfl rfl rfl rfl (List.Mem.head _),
        st_skip 2 17 _ true rfl rfl rfl rfl (List.Mem.head _),
        st_plain rfl (op_pick _ _ false _ rfl rfl),
        trivial⟩ ?_
       exact hl76 _ (Option.some.inj h).symm
   ·have h := cond_f hb64 h
    refine ht_exit ?_
    refine pt_x_then ?_
    refine pt_x_then ?_
    refine pt_x_in ?_
    refine pt_pick [0] (by kernel_rfl) (es' := [(_, _)]) rfl ?_
    exact hl59 _ (ho61 _ (Option.some.inj h).symm).symm

set_option maxHeartbeats 1000000 in
theorem ok_verb_kindOf (line : ByteArray) (r : Int) (h : Sh.verb_kindOf line = some r) : FnOK Tryd.prog 17 [.v (.string line)] (.v (.int .i64 r)) := by
  unfold Sh.verb_kindOf at h
  refine fn_ok Tryd.func17 rfl (Nat.le_of_ble_eq_true rfl) rfl rfl fun g0 hn hio => ?_
  refine ht_seq ?_
  refine ht_seqR hn (El := [_, (2, .v (.int .i64 0))]) (init := [0]) (fin := [0]) (sps := [⟨[], [], [1], [(.slot 2)]⟩]) (es' := [(_, _)]) (by kernel_rfl) rfl rfl
   ⟨st_plain rfl (op_assign _ _ _ _ rfl rfl),
   trivial⟩ ?_
  refine pt_then ?_
  refine ht_seq ?_
  obtain ⟨v1, hv1, h⟩ := bind_some h
  refine ht_seqR hn (El := [_, (7, .v (.string line)), (8, .tup [.v (.string v1.1), .v (.string v1.2.1), .v (.bool v1.2.2)]), (6, .tup [.v (.string v1.1), .v (.string v1.2.1), .v (.bool v1.2.2)]), (9, .v (.string v1.1)), (10, .v (.string v1.2.1)), (11, .v (.bool v1.2.2)), (3, .v (.string v1.1)), (4, .v (.string v1.2.1)), (5, .v (.bool v1.2.2))]) (init := [0]) (fin := [7]) (sps := [⟨[0], [], [1], [(.slot 7)]⟩, ⟨[1], [], [2], [(.slot 8)]⟩, ⟨[], [2], [3], [(.slot 6)]⟩, ⟨[3], [], [4], [(.slot 9)]⟩, ⟨[3], [], [5], [(.slot 10)]⟩, ⟨[3], [], [6], [(.slot 11)]⟩, ⟨[4], [], [7], [(.slot 3)]⟩, ⟨[5], [], [8], [(.slot 4)]⟩, ⟨[6], [], [9], [(.slot 5)]⟩]) (es' := [(3, .v (.string v1.1))]) (by kernel_rfl) rfl rfl
   ⟨st_plain rfl (op_move _ _ _ _ rfl rfl),
   st_plain rfl (op_call _ _ 30 _ _ rfl Tryd.call30 rfl (ok_strings_Cut line (⟨#[32]⟩ : ByteArray) _ hv1) rfl rfl),
   st_plain rfl (op_move_take _ _ _ _ rfl),
   st_plain rfl (op_extract _ _ _ _ _ rfl rfl (Nat.le_of_ble_eq_true rfl) rfl rfl),
   st_plain rfl (op_extract _ _ _ _ _ rfl rfl (Nat.le_of_ble_eq_true rfl) rfl rfl),
   st_plain rfl (op_extract _ _ _ _ _ rfl rfl (Nat.le_of_ble_eq_true rfl) rfl rfl),
   st_plain rfl (op_assign _ _ _ _ rfl rfl),
   st_plain rfl (op_assign _ _ _ _ rfl rfl),
   st_plain rfl (op_assign _ _ _ _ rfl rfl),
   trivial⟩ ?_
  refine pt_then ?_
  refine ht_seq ?_
  refine ht_seq ?_
  obtain ⟨v2, hv2, h⟩ := bind_some h
  refine ht_seqR hn (El := [_, (12, .v (.string v1.1)), (13, .v (.string v2))]) (init := [0]) (fin := [2]) (sps := [⟨[0], [], [1], [(.slot 12)]⟩, ⟨[1], [], [2], [(.slot 13)]⟩]) (es' := [(13, .v (.string v2))]) (by kernel_rfl) rfl rfl
   ⟨st_plain rfl (op_move _ _ _ _ rfl rfl),
   st_plain rfl (op_call _ _ 31 _ _ rfl Tryd.call31 rfl (ok_path_Fold v1.1 _ hv2) rfl rfl),
   trivial⟩ ?_
  refine pt_then ?_
  refine ht_block ?_
  refine ht_seq ?_
  refine ht_joinS h (fun (s4 : Bool) => [(13, .v (.string v2)), (14, .v (.bool s4))]) ?_ ?_
  ·rintro s4 h
   refine pt_then ?_
   refine ht_cond _ rfl (fun hb9 => ?_) (fun hb9 => ?_)
   ·have h := cond_t hb9 h
    refine ht_seq ?_
    refine ht_seqR hn (El := [_, _, (2, .v (.int .i64 1))]) (init := [0, 1]) (fin := [2]) (sps := [⟨[], [], [2], [(.slot 2)]⟩]) (es' := [(2, .v (.int .i64 1))]) (by kernel_rfl) rfl rfl
     ⟨st_plain rfl (op_assign _ _ _ _ rfl rfl),
     trivial⟩ ?_
    refine pt_then ?_
    refine ht_ret ?_
    refine pt_r_in ?_
    refine pt_r_then ?_
    obtain rfl := Option.some.inj h
    exact pt_ret hio rfl (.tmp _ _ .nil) rfl rfl
   ·have h := cond_f hb9 h
    refine ht_seq ?_
    refine ht_seqR hn (El := [_, _, (18, .v (.bool ((v2.toList == (⟨#[109, 97, 105, 108]⟩ : ByteArray).toList)))), (17, .v (.bool ((v2.toList == (⟨#[109, 97, 105, 108]⟩ : ByteArray).toList))))]) (init := [0, 1]) (fin := [0, 3]) (sps := [⟨[0], [], [2], [(.slot 18)]⟩, ⟨[2], [], [3], [(.slot 17)]⟩]) (es' := [(_, _), (17, .v (.bool ((v2.toList == (⟨#[109, 97, 105, 108]⟩ : ByteArray).toList))))]) (by kernel_rfl) rfl rfl
     ⟨st_plain rfl (op_bin _ _ _ _ _ rfl rfl rfl),
     st_plain rfl (op_assign _ _ _ _ rfl rfl),
     trivial⟩ ?_
    refine pt_then ?_
    refine ht_cond _ rfl (fun hb10 => ?_) (fun hb10 => ?_)
    ·have h := cond_t hb10 h
     refine ht_seq ?_
     refine ht_seqR hn (El := [_, _, (2, .v (.int .i64 2))]) (init := [0, 1]) (fin := [2]) (sps := [⟨[], [], [2], [(.slot 2)]⟩]) (es' := [(2, .v (.int .i64 2))]) (by kernel_rfl) rfl rfl
      ⟨st_plain rfl (op_assign _ _ _ _ rfl rfl),
      trivial⟩ ?_
     refine pt_then ?_
     refine ht_ret ?_
     refine pt_r_in ?_
     refine pt_r_then ?_
     obtain rfl := Option.some.inj h
     exact pt_ret hio rfl (.tmp _ _ .nil) rfl rfl
    ·have h := cond_f hb10 h
     refine ht_seq ?_
     refine ht_seqR hn (El := [_, _, (20, .v (.bool ((v2.toList == (⟨#[114, 99, 112, 116]⟩ : ByteArray).toList)))), (19, .v (.bool ((v2.toList == (⟨#[114, 99, 112, 116]⟩ : ByteArray).toList))))]) (init := [0, 1]) (fin := [0, 3]) (sps := [⟨[0], [], [2], [(.slot 20)]⟩, ⟨[2], [], [3], [(.slot 19)]⟩]) (es' := [(_, _), (19, .v (.bool ((v2.toList == (⟨#[114, 99, 112, 116]⟩ : ByteArray).toList))))]) (by kernel_rfl) rfl rfl
      ⟨st_plain rfl (op_bin _ _ _ _ _ rfl rfl rfl),
      st_plain rfl (op_assign _ _ _ _ rfl rfl),
      trivial⟩ ?_
     refine pt_then ?_
     refine ht_cond _ rfl (fun hb11 => ?_) (fun hb11 => ?_)
     ·have h := cond_t hb11 h
      refine ht_seq ?_
      refine ht_seqR hn (El := [_, _, (2, .v (.int .i64 3))]) (init := [0, 1]) (fin := [2]) (sps := [⟨[], [], [2], [(.slot 2)]⟩]) (es' := [(2, .v (.int .i64 3))]) (by kernel_rfl) rfl rfl
       ⟨st_plain rfl (op_assign _ _ _ _ rfl rfl),
       trivial⟩ ?_
      refine pt_then ?_
      refine ht_ret ?_
      refine pt_r_in ?_
      refine pt_r_then ?_
      obtain rfl := Option.some.inj h
      exact pt_ret hio rfl (.tmp _ _ .nil) rfl rfl
     ·have h := cond_f hb11 h
      refine ht_seq ?_
      refine ht_seqR hn (El := [_, _, (22, .v (.bool ((v2.toList == (⟨#[100, 97, 116, 97]⟩ : ByteArray).toList)))), (21, .v (.bool ((v2.toList == (⟨#[100, 97, 116, 97]⟩ : ByteArray).toList))))]) (init := [0, 1]) (fin := [0, 3]) (sps := [⟨[0], [], [2], [(.slot 22)]⟩, ⟨[2], [], [3], [(.slot 21)]⟩]) (es' := [(_, _), (21, .v (.bool ((v2.toList == (⟨#[100, 97, 116, 97]⟩ : ByteArray).toList))))]) (by kernel_rfl) rfl rfl
       ⟨st_plain rfl (op_bin _ _ _ _ _ rfl rfl rfl),
       st_plain rfl (op_assign _ _ _ _ rfl rfl),
       trivial⟩ ?_
      refine pt_then ?_
      refine ht_cond _ rfl (fun hb12 => ?_) (fun hb12 => ?_)
      ·have h := cond_t hb12 h
       refine ht_seq ?_
       refine ht_seqR hn (El := [_, _, (2, .v (.int .i64 4))]) (init := [0, 1]) (fin := [2]) (sps := [⟨[], [], [2], [(.slot 2)]⟩]) (es' := [(2, .v (.int .i64 4))]) (by kernel_rfl) rfl rfl
        ⟨st_plain rfl (op_assign _ _ _ _ rfl rfl),
        trivial⟩ ?_
       refine pt_then ?_
       refine ht_ret ?_
       refine pt_r_in ?_
       refine pt_r_then ?_
       obtain rfl := Option.some.inj h
       exact pt_ret hio rfl (.tmp _ _ .nil) rfl rfl
      ·have h := cond_f hb12 h
       refine ht_seq ?_
       refine ht_seqR hn (El := [_, _, (24, .v (.bool ((v2.toList == (⟨#[114, 115, 101, 116]⟩ : ByteArray).toList)))), (23, .v (.bool ((v2.toList == (⟨#[114, 115, 101, 116]⟩ : ByteArray).toList))))]) (init := [0, 1]) (fin := [0, 3]) (sps := [⟨[0], [], [2], [(.slot 24)]⟩, ⟨[2], [], [3], [(.slot 23)]⟩]) (es' := [(_, _), (23, .v (.bool ((v2.toList == (⟨#[114, 115, 101, 116]⟩ : ByteArray).toList))))]) (by kernel_rfl) rfl rfl
        ⟨st_plain rfl (op_bin _ _ _ _ _ rfl rfl rfl),
        st_plain rfl (op_assign _ _ _ _ rfl rfl),
        trivial⟩ ?_
       refine pt_then ?_
       refine ht_cond _ rfl (fun hb13 => ?_) (fun hb13 => ?_)
       ·have h := cond_t hb13 h
        refine ht_seq ?_
        refine ht_seqR hn (El := [_, _, (2, .v (.int .i64 5))]) (init := [0, 1]) (fin := [2]) (sps := [⟨[], [], [2], [(.slot 2)]⟩]) (es' := [(2, .v (.int .i64 5))]) (by kernel_rfl) rfl rfl
         ⟨st_plain rfl (op_assign _ _ _ _ rfl rfl),
         trivial⟩ ?_
        refine pt_then ?_
        refine ht_ret ?_
        refine pt_r_in ?_
        refine pt_r_then ?_
        obtain rfl := Option.some.inj h
        exact pt_ret hio rfl (.tmp _ _ .nil) rfl rfl
       ·have h := cond_f hb13 h
        refine ht_seq ?_
        refine ht_seqR hn (El := [_, _, (26, .v (.bool ((v2.toList == (⟨#[113, 117, 105, 116]⟩ : ByteArray).toList)))), (25, .v (.bool ((v2.toList == (⟨#[113, 117, 105, 116]⟩ : ByteArray).toList))))]) (init := [0, 1]) (fin := [0, 3]) (sps := [⟨[0], [], [2], [(.slot 26)]⟩, ⟨[2], [], [3], [(.slot 25)]⟩]) (es' := [(_, _), (25, .v (.bool ((v2.toList == (⟨#[113, 117, 105, 116]⟩ : ByteArray).toList))))]) (by kernel_rfl) rfl rfl
         ⟨st_plain rfl (op_bin _ _ _ _ _ rfl rfl rfl),
         st_plain rfl (op_assign _ _ _ _ rfl rfl),
         trivial⟩ ?_
        refine pt_then ?_
        refine ht_cond _ rfl (fun hb14 => ?_) (fun hb14 => ?_)
        ·have h := cond_t hb14 h
         refine ht_seq ?_
         refine ht_seqR hn (El := [_, _, (2, .v (.int .i64 8))]) (init := [0, 1]) (fin := [2]) (sps := [⟨[], [], [2], [(.slot 2)]⟩]) (es' := [(2, .v (.int .i64 8))]) (by kernel_rfl) rfl rfl
          ⟨st_plain rfl (op_assign _ _ _ _ rfl rfl),
          trivial⟩ ?_
         refine pt_then ?_
         refine ht_ret ?_
         refine pt_r_in ?_
         refine pt_r_then ?_
         obtain rfl := Option.some.inj h
         exact pt_ret hio rfl (.tmp _ _ .nil) rfl rfl
        ·have h := cond_f hb14 h
         refine ht_seq ?_
         refine ht_seqR hn (El := [_, _, (28, .v (.bool ((v2.toList == (⟨#[110, 111, 111, 112]⟩ : ByteArray).toList)))), (27, .v (.bool ((v2.toList == (⟨#[110, 111, 111, 112]⟩ : ByteArray).toList))))]) (init := [0, 1]) (fin := [0, 3]) (sps := [⟨[0], [], [2], [(.slot 28)]⟩, ⟨[2], [], [3], [(.slot 27)]⟩]) (es' := [(_, _), (27, .v (.bool ((v2.toList == (⟨#[110, 111, 111, 112]⟩ : ByteArray).toList))))]) (by kernel_rfl) rfl rfl
          ⟨st_plain rfl (op_bin _ _ _ _ _ rfl rfl rfl),
          st_plain rfl (op_assign _ _ _ _ rfl rfl),
          trivial⟩ ?_
         refine pt_then ?_
         refine ht_cond _ rfl (fun hb15 => ?_) (fun hb15 => ?_)
         ·have h := cond_t hb15 h
          refine ht_seq ?_
          refine ht_seqR hn (El := [_, _, (2, .v (.int .i64 7))]) (init := [0, 1]) (fin := [2]) (sps := [⟨[], [], [2], [(.slot 2)]⟩]) (es' := [(2, .v (.int .i64 7))]) (by kernel_rfl) rfl rfl
           ⟨st_plain rfl (op_assign _ _ _ _ rfl rfl),
           trivial⟩ ?_
          refine pt_then ?_
          refine ht_ret ?_
          refine pt_r_in ?_
          refine pt_r_then ?_
          obtain rfl := Option.some.inj h
          exact pt_ret hio rfl (.tmp _ _ .nil) rfl rfl
         ·have h := cond_f hb15 h
          refine ht_seq ?_
          refine ht_seqR hn (El := [_, _, (30, .v (.bool ((v2.toList == (⟨#[118, 114, 102, 121]⟩ : ByteArray).toList)))), (29, .v (.bool ((v2.toList == (⟨#[118, 114, 102, 121]⟩ : ByteArray).toList))))]) (init := [0, 1]) (fin := [0, 3]) (sps := [⟨[0], [], [2], [(.slot 30)]⟩, ⟨[2], [], [3], [(.slot 29)]⟩]) (es' := [(_, _), (29, .v (.bool ((v2.toList == (⟨#[118, 114, 102, 121]⟩ : ByteArray).toList))))]) (by kernel_rfl) rfl rfl
           ⟨st_plain rfl (op_bin _ _ _ _ _ rfl rfl rfl),
           st_plain rfl (op_assign _ _ _ _ rfl rfl),
           trivial⟩ ?_
          refine pt_then ?_
          refine ht_cond _ rfl (fun hb16 => ?_) (fun hb16 => ?_)
          ·have h := cond_t hb16 h
           refine ht_seq ?_
           refine ht_seqR hn (El := [_, _, (2, .v (.int .i64 6))]) (init := [0, 1]) (fin := [2]) (sps := [⟨[], [], [2], [(.slot 2)]⟩]) (es' := [(2, .v (.int .i64 6))]) (by kernel_rfl) rfl rfl
            ⟨st_plain rfl (op_assign _ _ _ _ rfl rfl),
            trivial⟩ ?_
           refine pt_then ?_
           refine ht_ret ?_
           refine pt_r_in ?_
           refine pt_r_then ?_
           obtain rfl := Option.some.inj h
           exact pt_ret hio rfl (.tmp _ _ .nil) rfl rfl
          ·have h := cond_f hb16 h
           refine ht_seq ?_
           refine ht_seqR hn (El := [_, _, (32, .v (.bool ((v2.toList == (⟨#[101, 116, 114, 110]⟩ : ByteArray).toList)))), (31, .v (.bool ((v2.toList == (⟨#[101, 116, 114, 110]⟩ : ByteArray).toList))))]) (init := [0, 1]) (fin := [0, 3]) (sps := [⟨[0], [], [2], [(.slot 32)]⟩, ⟨[2], [], [3], [(.slot 31)]⟩]) (es' := [(_, _), (31, .v (.bool ((v2.toList == (⟨#[101, 116, 114, 110]⟩ : ByteArray).toList))))]) (by kernel_rfl) rfl rfl
            ⟨st_plain rfl (op_bin _ _ _ _ _ rfl rfl rfl),
            st_plain rfl (op_assign _ _ _ _ rfl rfl),
            trivial⟩ ?_
           refine pt_then ?_
           refine ht_cond _ rfl (fun hb17 => ?_) (fun hb17 => ?_)
           ·have h := cond_t hb17 h
            refine ht_seq ?_
            refine ht_seqR hn (El := [_, _, (2, .v (.int .i64 9))]) (init := [0, 1]) (fin := [2]) (sps := [⟨[], [], [2], [(.slot 2)]⟩]) (es' := [(2, .v (.int .i64 9))]) (by kernel_rfl) rfl rfl
             ⟨st_plain rfl (op_assign _ _ _ _ rfl rfl),
             trivial⟩ ?_
            refine pt_then ?_
            refine ht_ret ?_
            refine pt_r_in ?_
            refine pt_r_then ?_
            obtain rfl := Option.some.inj h
            exact pt_ret hio rfl (.tmp _ _ .nil) rfl rfl
           ·have h := cond_f hb17 h
            refine ht_seq ?_
            refine ht_seqR hn (El := [_, _, (34, .v (.bool ((v2.toList == (⟨#[97, 117, 116, 104]⟩ : ByteArray).toList)))), (33, .v (.bool ((v2.toList == (⟨#[97, 117, 116, 104]⟩ : ByteArray).toList))))]) (init := [0, 1]) (fin := [0, 3]) (sps := [⟨[0], [], [2], [(.slot 34)]⟩, ⟨[2], [], [3], [(.slot 33)]⟩]) (es' := [(_, _), (33, .v (.bool ((v2.toList == (⟨#[97, 117, 116, 104]⟩ : ByteArray).toList))))]) (by kernel_rfl) rfl rfl
             ⟨st_plain rfl (op_bin _ _ _ _ _ rfl rfl rfl),
             st_plain rfl (op_assign _ _ _ _ rfl rfl),
             trivial⟩ ?_
            refine pt_then ?_
            refine ht_cond _ rfl (fun hb18 => ?_) (fun hb18 => ?_)
            ·have h := cond_t hb18 h
             refine ht_seq ?_
             refine ht_seqR hn (El := [_, _, (2, .v (.int .i64 10))]) (init := [0, 1]) (fin := [2]) (sps := [⟨[], [], [2], [(.slot 2)]⟩]) (es' := [(2, .v (.int .i64 10))]) (by kernel_rfl) rfl rfl
              ⟨st_plain rfl (op_assign _ _ _ _ rfl rfl),
              trivial⟩ ?_
             refine pt_then ?_
             refine ht_ret ?_
             refine pt_r_in ?_
             refine pt_r_then ?_
             obtain rfl := Option.some.inj h
             exact pt_ret hio rfl (.tmp _ _ .nil) rfl rfl
            ·have h := cond_f hb18 h
             refine ht_seq ?_
             refine ht_seqR hn (El := [_, _, (36, .v (.bool ((v2.toList == (⟨#[97, 116, 114, 110]⟩ : ByteArray).toList)))), (35, .v (.bool ((v2.toList == (⟨#[97, 116, 114, 110]⟩ : ByteArray).toList))))]) (init := [0, 1]) (fin := [3]) (sps := [⟨[0], [], [2], [(.slot 36)]⟩, ⟨[2], [], [3], [(.slot 35)]⟩]) (es' := [(35, .v (.bool ((v2.toList == (⟨#[97, 116, 114, 110]⟩ : ByteArray).toList))))]) (by kernel_rfl) rfl rfl
              ⟨st_plain rfl (op_bin _ _ _ _ _ rfl rfl rfl),
              st_plain rfl (op_assign _ _ _ _ rfl rfl),
              trivial⟩ ?_
             refine pt_then ?_
             refine ht_cond _ rfl (fun hb19 => ?_) (fun hb19 => ?_)
             ·have h := cond_t hb19 h
              refine ht_seq ?_
              refine ht_seqR hn (El := [_, (2, .v (.int .i64 11))]) (init := [0]) (fin := [1]) (sps := [⟨[], [], [1], [(.slot 2)]⟩]) (es' := [(2, .v (.int .i64 11))]) (by kernel_rfl) rfl rfl
               ⟨st_plain rfl (op_assign _ _ _ _ rfl rfl),
               trivial⟩ ?_
              refine pt_then ?_
              refine ht_ret ?_
              refine pt_r_in ?_
              refine pt_r_then ?_
              obtain rfl := Option.some.inj h
              exact pt_ret hio rfl (.tmp _ _ .nil) rfl rfl
             ·have h := cond_f hb19 h
              refine ht_skip ?_
              refine pt_inb ?_
              refine pt_then ?_
              refine ht_seq ?_
              refine ht_seqR hn (El := [_, (2, .v (.int .i64 0))]) (init := [0]) (fin := [1]) (sps := [⟨[], [], [1], [(.slot 2)]⟩]) (es' := [(2, .v (.int .i64 0))]) (by kernel_rfl) rfl rfl
               ⟨st_plain rfl (op_assign _ _ _ _ rfl rfl),
               trivial⟩ ?_
              refine pt_then ?_
              refine ht_ret ?_
              obtain rfl := Option.some.inj h
              exact pt_ret hio rfl (.tmp _ _ .nil) rfl rfl
  ·intro u5 h hl6 hr7
   refine ht_seq ?_
   refine ht_seqR hn (El := [_, (15, .v (.bool ((v2.toList == (⟨#[101, 104, 108, 111]⟩ : ByteArray).toList)))), (14, .v (.bool ((v2.toList == (⟨#[101, 104, 108, 111]⟩ : ByteArray).toList))))]) (init := [0]) (fin := [0, 2]) (sps := [⟨[0], [], [1], [(.slot 15)]⟩, ⟨[1], [], [2], [(.slot 14)]⟩]) (es' := [(_, _), (14, .v (.bool ((v2.toList == (⟨#[101, 104, 108, 111]⟩ : ByteArray).toList))))]) (by kernel_rfl) rfl rfl
    ⟨st_plain rfl (op_bin _ _ _ _ _ rfl rfl rfl),
    st_plain rfl (op_assign _ _ _ _ rfl rfl),
    trivial⟩ ?_
   refine pt_then ?_
   refine ht_cond _ rfl (fun hb8 => ?_) (fun hb8 => ?_)
   ·have h := cond_t hb8 h
    refine ht_skip ?_
    exact hl6 _ (Option.some.inj h).symm
   ·have h := cond_f hb8 h
    refine ht_seqR hn (El := [_, _, (16, .v (.bool ((v2.toList == (⟨#[104, 101, 108, 111]⟩ : ByteArray).toList)))), (14, .v (.bool ((v2.toList == (⟨#[104, 101, 108, 111]⟩ : ByteArray).toList))))]) (init := [0, 1]) (fin := [0, 3]) (sps := [⟨[0], [], [2], [(.slot 16)]⟩, ⟨[2], [1], [3], [(.slot 14)]⟩]) (es' := [(_, _), (14, .v (.bool ((v2.toList == (⟨#[104, 101, 108, 111]⟩ : ByteArray).toList))))]) (by kernel_rfl) rfl rfl
     ⟨st_plain rfl (op_bin _ _ _ _ _ rfl rfl rfl),
     st_plain rfl (LOp.drop [_] (op_assign _ _ _ _ rfl rfl)),
     trivial⟩ ?_
    exact hl6 _ (Option.some.inj h).symm

set_option maxHeartbeats 1000000 in
theorem ok_verb_equalFold (a : ByteArray) (b : ByteArray) (r : Bool) (h : Sh.verb_equalFold a b = some r) : FnOK Tryd.prog 33 [.v (.string a), .v (.string b)] (.v (.bool r)) := by
  unfold Sh.verb_equalFold at h
  refine fn_ok Tryd.func33 rfl (Nat.le_of_ble_eq_true rfl) rfl rfl fun g0 hn hio => ?_
  refine ht_seq ?_
  refine ht_seqR hn (El := [_, _, (4, .v (.bool false))]) (init := [0, 1]) (fin := [0, 1]) (sps := [⟨[], [], [2], [(.slot 4)]⟩]) (es' := [(_, _), (_, _)]) (by kernel_rfl) rfl rfl
   ⟨st_plain rfl (op_assign _ _ _ _ rfl rfl),
   trivial⟩ ?_
  refine pt_then ?_
  refine ht_seq ?_
  obtain ⟨v1, hv1, h⟩ := bind_some h
  obtain ⟨v2, hv2, h⟩ := bind_some h
  refine ht_seqR hn (El := [_, _, (5, .v (.string a)), (6, .v (.string v1)), (7, .v (.string b)), (8, .v (.string v2)), (9, .v (.bool (v1.toList == v2.toList))), (4, .v (.bool (v1.toList == v2.toList)))]) (init := [0, 1]) (fin := [7]) (sps := [⟨[0], [], [2], [(.slot 5)]⟩, ⟨[2], [], [3], [(.slot 6)]⟩, ⟨[1], [], [4], [(.slot 7)]⟩, ⟨[4], [], [5], [(.slot 8)]⟩, ⟨[3, 5], [], [6], [(.slot 9)]⟩, ⟨[6], [], [7], [(.slot 4)]⟩]) (es' := [(4, .v (.bool (v1.toList == v2.toList)))]) (by kernel_rfl) rfl rfl
   ⟨st_plain rfl (op_move _ _ _ _ rfl rfl),
   st_plain rfl (op_call _ _ 31 _ _ rfl Tryd.call31 rfl (ok_path_Fold a _ hv1) rfl rfl),
   st_plain rfl (op_move _ _ _ _ rfl rfl),
   st_plain rfl (op_call _ _ 31 _ _ rfl Tryd.call31 rfl (ok_path_Fold b _ hv2) rfl rfl),
   st_plain rfl (op_bin _ _ _ _ _ rfl rfl rfl),
   st_plain rfl (op_assign _ _ _ _ rfl rfl),
   trivial⟩ ?_
  refine pt_then ?_
  refine ht_ret ?_
  obtain rfl := Option.some.inj h
  exact pt_ret hio rfl (.tmp _ _ .nil) rfl rfl

set_option maxHeartbeats 1000000 in
theorem ok_verb_cutFold (s : ByteArray) (prefix_ : ByteArray) (r : (ByteArray × Bool)) (h : Sh.verb_cutFold s prefix_ = some r) : FnOK Tryd.prog 32 [.v (.string s), .v (.string prefix_)] (.tup [.v (.string r.1), .v (.bool r.2)]) := by
  unfold Sh.verb_cutFold at h
  refine fn_ok Tryd.func32 rfl (Nat.le_of_ble_eq_true rfl) rfl rfl fun g0 hn hio => ?_
  refine ht_seq ?_
  refine ht_seqR hn (El := [_, _, (4, .v (.string (⟨#[]⟩ : ByteArray))), (5, .v (.bool false))]) (init := [0, 1]) (fin := [0, 1]) (sps := [⟨[], [], [2], [(.slot 4)]⟩, ⟨[], [], [3], [(.slot 5)]⟩]) (es' := [(_, _), (_, _)]) (by kernel_rfl) rfl rfl
   ⟨st_plain rfl (op_assign _ _ _ _ rfl rfl),
   st_plain rfl (op_assign _ _ _ _ rfl rfl),
   trivial⟩ ?_
  refine pt_then ?_
  refine ht_seq ?_
  refine ht_seq ?_
  refine ht_joinS h (fun (s3 : Bool) => [(0, .v (.string s)), (1, .v (.string prefix_)), (19, .v (.bool s3))]) ?_ ?_
  ·rintro s3 h
   refine pt_then ?_
   refine ht_cond _ rfl (fun hb7 => ?_) (fun hb7 => ?_)
   ·have h := cond_t hb7 h
    refine ht_seq ?_
    refine ht_seqR hn (El := [_, _, _, (4, .v (.string (⟨#[]⟩ : ByteArray))), (5, .v (.bool false))]) (init := [0, 1, 2]) (fin := [3, 4]) (sps := [⟨[], [], [3], [(.slot 4)]⟩, ⟨[], [], [4], [(.slot 5)]⟩]) (es' := [(4, .v (.string (⟨#[]⟩ : ByteArray))), (5, .v (.bool false))]) (by kernel_rfl) rfl rfl
     ⟨st_plain rfl (op_assign _ _ _ _ rfl rfl),
     st_plain rfl (op_assign _ _ _ _ rfl rfl),
     trivial⟩ ?_
    refine pt_then ?_
    refine ht_ret ?_
    refine pt_r_then ?_
    obtain rfl := Option.some.inj h
    exact pt_ret hio rfl (.tmp _ _ (.tmp _ _ .nil)) rfl rfl
   ·have h := cond_f hb7 h
    refine ht_skip ?_
    refine pt_then ?_
    refine ht_seq ?_
    obtain ⟨v8, hv8, h⟩ := bind_some h
    refine ht_seqR hn (El := [_, _, _, (20, .v (.string s)), (21, .v (.string prefix_)), (22, .v (.int .i64 (prefix_.size : Int))), (23, .v (.string v8)), (4, .v (.string v8)), (5, .v (.bool true))]) (init := [0, 1, 2]) (fin := [7, 8]) (sps := [⟨[0], [], [3], [(.slot 20)]⟩, ⟨[1], [], [4], [(.slot 21)]⟩, ⟨[4], [], [5], [(.slot 22)]⟩, ⟨[3, 5], [], [6], [(.slot 23)]⟩, ⟨[6], [], [7], [(.slot 4)]⟩, ⟨[], [], [8], [(.slot 5)]⟩]) (es' := [(4, .v (.string v8)), (5, .v (.bool true))]) (by kernel_rfl) rfl rfl
     ⟨st_plain rfl (op_move _ _ _ _ rfl rfl),
     st_plain rfl (op_move _ _ _ _ rfl rfl),
     st_plain rfl (op_len_str _ _ _ Tryd.underlying9 rfl),
     st_plain rfl (op_substr _ _ _ (prefix_.size : Int) (s.size : Int) _ Tryd.underlying9 rfl ⟨_, rfl⟩ rfl hv8),
     st_plain rfl (op_assign _ _ _ _ rfl rfl),
     st_plain rfl (op_assign _ _ _ _ rfl rfl),
     trivial⟩ ?_
    refine pt_then ?_
    refine ht_ret ?_
    obtain rfl := Option.some.inj h
    exact pt_ret hio rfl (.tmp _ _ (.tmp _ _ .nil)) rfl rfl
  ·intro u4 h hl5 hr6
   refine cond_some h (fun hg1_5 h => ?_) (fun hg1_5 h => ?_)
   ·refine ht_seqR hn (El := (_ :: _ :: (6, .v (.string s)) :: (7, .v (.int .i64 (s.size : Int))) :: (8, .v (.string prefix_)) :: (9, .v (.int .i64 (prefix_.size : Int))) :: (10, .v (.bool ((decide ((s.size : Int) < (prefix_.size : Int)))))) :: (11, .v (.bool true)) :: (12, .v undef) :: (13, .v undef) :: (14, .v undef) :: (15, .v undef) :: (16, .v undef) :: (17, .v undef) :: (18, .v undef) :: (19, .v (.bool true)) :: [])) (init := [0, 1]) (fin := [0, 1, 15]) (sps := [⟨[0], [], [2], [(.slot 6)]⟩, ⟨[2], [], [3], [(.slot 7)]⟩, ⟨[1], [], [4], [(.slot 8)]⟩, ⟨[4], [], [5], [(.slot 9)]⟩, ⟨[3, 5], [], [6], [(.slot 10)]⟩, ⟨[6], [], [7], [(.slot 11)]⟩, ⟨[7], [], [8], [(.slot 12)]⟩, ⟨[7], [], [9], [(.slot 13)]⟩, ⟨[7], [], [10], [(.slot 14)]⟩, ⟨[7], [], [11], [(.slot 15)]⟩, ⟨[7], [], [12], [(.slot 16)]⟩, ⟨[7], [], [13], [(.slot 17)]⟩, ⟨[7], [], [14], [(.slot 18)]⟩, ⟨[7], [], [15], [(.slot 19)]⟩]) (es' := [(_, _), (_, _), (19, .v (.bool true))]) (by kernel_rfl) rfl rfl
     ⟨st_plain rfl (op_move _ _ _ _ rfl rfl),
     st_plain rfl (op_len_str _ _ _ Tryd.underlying9 rfl),
     st_plain rfl (op_move _ _ _ _ rfl rfl),
     st_plain rfl (op_len_str _ _ _ Tryd.underlying9 rfl),
     st_plain rfl (op_bin _ _ _ _ _ rfl rfl rfl),
     st_plain rfl (op_move _ _ _ _ (congrArg (fun b => AV.v (Value.bool b)) hg1_5) rfl),
     st_skip 5 11 _ false rfl rfl rfl rfl (List.Mem.head _),
     st_skip 5 11 _ false rfl rfl rfl rfl (List.Mem.head _),
     st_skip 5 11 _ false rfl rfl rfl rfl (List.Mem.head _),
     st_skip 5 11 _ false rfl rfl rfl rfl (List.Mem.head _),
     st_skip 5 11 _ false rfl rfl rfl rfl (List.Mem.head _),
     st_skip 5 11 _ false rfl rfl rfl rfl (List.Mem.head _),
     st_skip 5 11 _ false rfl rfl rfl rfl (List.Mem.head _),
     st_plain rfl (op_pick _ _ true _ rfl rfl),
     trivial⟩ ?_
    exact hl5 _ (Option.some.inj h).symm
   ·obtain ⟨v1, hv1, h⟩ := bind_some h
    obtain ⟨v2, hv2, h⟩ := bind_some h
    refine ht_seqR hn (El := (_ :: _ :: (6, .v (.string s)) :: (7, .v (.int .i64 (s.size : Int))) :: (8, .v (.string prefix_)) :: (9, .v (.int .i64 (prefix_.size : Int))) :: (10, .v (.bool ((decide ((s.size : Int) < (prefix_.size : Int)))))) :: (11, .v (.bool false)) :: (12, .v (.string s)) :: (13, .v (.string prefix_)) :: (14, .v (.int .i64 (prefix_.size : Int))) :: (15, .v (.string v1)) :: (16, .v (.string prefix_)) :: (17, .v (.bool v2)) :: (18, .v (.bool (!v2))) :: (19, .v (.bool (!v2))) :: [])) (init := [0, 1]) (fin := [0, 1, 15]) (sps := [⟨[0], [], [2], [(.slot 6)]⟩, ⟨[2], [], [3], [(.slot 7)]⟩, ⟨[1], [], [4], [(.slot 8)]⟩, ⟨[4], [], [5], [(.slot 9)]⟩, ⟨[3, 5], [], [6], [(.slot 10)]⟩, ⟨[6], [], [7], [(.slot 11)]⟩, ⟨[7, 0], [], [8], [(.slot 12)]⟩, ⟨[7, 1], [], [9], [(.slot 13)]⟩, ⟨[7, 9], [], [10], [(.slot 14)]⟩, ⟨[7, 8, 10], [], [11], [(.slot 15)]⟩, ⟨[7, 1], [], [12], [(.slot 16)]⟩, ⟨[7, 11, 12], [], [13], [(.slot 17)]⟩, ⟨[7, 13], [], [14], [(.slot 18)]⟩, ⟨[7, 14], [], [15], [(.slot 19)]⟩]) (es' := [(_, _), (_, _), (19, .v (.bool (!v2)))]) (by kernel_rfl) rfl rfl
     ⟨st_plain rfl (op_move _ _ _ _ rfl rfl),
     st_plain rfl (op_len_str _ _ _ Tryd.underlying9 rfl),
     st_plain rfl (op_move _ _ _ _ rfl rfl),
     st_plain rfl (op_len_str _ _ _ Tryd.underlying9 rfl),
     st_plain rfl (op_bin _ _ _ _ _ rfl rfl rfl),
     st_plain rfl (op_move _ _ _ _ (congrArg (fun b => AV.v (Value.bool b)) hg1_5) rfl),
     st_run 5 11 false rfl rfl rfl (List.Mem.head _) (op_move _ _ _ _ rfl rfl),
     st_run 5 11 false rfl rfl rfl (List.Mem.head _) (op_move _ _ _ _ rfl rfl),
     st_run 5 11 false rfl rfl rfl (List.Mem.head _) (op_len_str _ _ _ Tryd.underlying9 rfl),
     st_run 5 11 false rfl rfl rfl (List.Mem.head _) (op_substr _ _ _ 0 (prefix_.size : Int) _ Tryd.underlying9 rfl rfl ⟨_, rfl⟩ hv1),
     st_run 5 11 false rfl rfl rfl (List.Mem.head _) (op_move _ _ _ _ rfl rfl),
     st_run 5 11 false rfl rfl rfl (List.Mem.head _) (op_call _ _ 33 _ _ rfl Tryd.call33 rfl (ok_verb_equalFold v1 prefix_ _ hv2) rfl rfl),
     st_run 5 11 false rfl rfl rfl (List.Mem.head _) (op_un _ _ _ _ rfl rfl),
     st_plain rfl (op_pick _ _ false _ rfl rfl),
     trivial⟩ ?_
    exact hl5 _ (Option.some.inj h).symm

set_option maxHeartbeats 1000000 in
theorem ok_verb_otherMechanism (mx : Int) (line : ByteArray) (r : Bool) (h : Sh.verb_otherMechanism line = some r) : FnG Tryd.prog (GL mx) 18 [.v (.string line)] (.v (.bool r)) := by
  unfold Sh.verb_otherMechanism at h
  refine fn_okG Tryd.func18 rfl (Nat.le_of_ble_eq_true rfl) rfl rfl fun g0 hn hio => ?_
  refine ht_seq ?_
  refine ht_seqR hn (El := [_, _, (2, .v (.bool false))]) (init := [0, 1]) (fin := [0, 1]) (sps := [⟨[], [], [2], [(.slot 2)]⟩]) (es' := [(_, _), (_, _)]) (by kernel_rfl) rfl rfl
   ⟨st_plain rfl (op_assign _ _ _ _ rfl rfl),
   trivial⟩ ?_
  refine pt_then ?_
  refine ht_seq ?_
  obtain ⟨v1, hv1, h⟩ := bind_some h
  refine ht_seqR hn (El := [_, _, (7, .v (.string line)), (8, .tup [.v (.string v1.1), .v (.bool v1.2)]), (6, .tup [.v (.string v1.1), .v (.bool v1.2)]), (9, .v (.string v1.1)), (10, .v (.bool v1.2)), (3, .v (.string v1.1)), (4, .v (.bool v1.2))]) (init := [0, 1]) (fin := [1, 7, 8]) (sps := [⟨[0], [], [2], [(.slot 7)]⟩, ⟨[2], [], [3], [(.slot 8)]⟩, ⟨[], [3], [4], [(.slot 6)]⟩, ⟨[4], [], [5], [(.slot 9)]⟩, ⟨[4], [], [6], [(.slot 10)]⟩, ⟨[5], [], [7], [(.slot 3)]⟩, ⟨[6], [], [8], [(.slot 4)]⟩]) (es' := [(_, _), (3, .v (.string v1.1)), (4, .v (.bool v1.2))]) (by kernel_rfl) rfl rfl
   ⟨st_plain rfl (op_move _ _ _ _ rfl rfl),
   st_plain rfl (op_call _ _ 32 _ _ rfl Tryd.call32 rfl (ok_verb_cutFold line (⟨#[65, 85, 84, 72, 32]⟩ : ByteArray) _ hv1) rfl rfl),
   st_plain rfl (op_move_take _ _ _ _ rfl),
   st_plain rfl (op_extract _ _ _ _ _ rfl rfl (Nat.le_of_ble_eq_true rfl) rfl rfl),
   st_plain rfl (op_extract _ _ _ _ _ rfl rfl (Nat.le_of_ble_eq_true rfl) rfl rfl),
   st_plain rfl (op_assign _ _ _ _ rfl rfl),
   st_plain rfl (op_assign _ _ _ _ rfl rfl),
   trivial⟩ ?_
  refine pt_then ?_
  refine ht_seq ?_
  refine ht_seq ?_
  refine ht_joinS h (fun (s3 : Bool) => [(40, .glob (GL mx)), (3, .v (.string v1.1)), (20, .v (.bool s3))]) ?_ ?_
  ·rintro s3 h
   refine pt_then ?_
   refine ht_cond _ rfl (fun hb7 => ?_) (fun hb7 => ?_)
   ·have h := cond_t hb7 h
    refine ht_seq ?_
    refine ht_seqR hn (El := [_, _, _, (2, .v (.bool false))]) (init := [0, 1, 2]) (fin := [0, 3]) (sps := [⟨[], [], [3], [(.slot 2)]⟩]) (es' := [(_, _), (2, .v (.bool false))]) (by kernel_rfl) rfl rfl
     ⟨st_plain rfl (op_assign _ _ _ _ rfl rfl),
     trivial⟩ ?_
    refine pt_then ?_
    refine ht_ret ?_
    refine pt_pick [1] (by kernel_rfl) (es' := [(_, _)]) rfl ?_
    refine pt_r_then ?_
    obtain rfl := Option.some.inj h
    exact pt_ret hio rfl (.tmp _ _ .nil) rfl rfl
   ·have h := cond_f hb7 h
    refine ht_skip ?_
    refine pt_then ?_
    refine ht_seq ?_
    refine ht_seq ?_
    refine ht_seqR hn (El := [_, _, _, (21, .v (.string v1.1)), (22, .v (.int .i64 (v1.1.size : Int))), (23, .v (.int .i64 0))]) (init := [0, 1, 2]) (fin := [0, 1, 4, 5]) (sps := [⟨[1], [], [3], [(.slot 21)]⟩, ⟨[3], [], [4], [(.slot 22)]⟩, ⟨[], [], [5], [(.slot 23)]⟩]) (es' := [(_, _), (_, _), (22, .v (.int .i64 (v1.1.size : Int))), (23, .v (.int .i64 0))]) (by kernel_rfl) rfl rfl
     ⟨st_plain rfl (op_move _ _ _ _ rfl rfl),
     st_plain rfl (op_len_str _ _ _ Tryd.underlying9 rfl),
     st_plain rfl (op_move _ _ _ _ rfl rfl),
     trivial⟩ ?_
    refine pt_then ?_
    refine ht_loopS h (fun (s26 : Int) => [(40, .glob (GL mx)), (3, .v (.string v1.1)), (22, .v (.int .i64 (v1.1.size : Int))), (23, .v (.int .i64 s26))]) (fun (() : Unit) => [(40, .glob (GL mx))]) ?_ ?_
    ·rintro ⟨⟩ h
     refine pt_then ?_
     refine ht_seq ?_
     refine ht_seqR hn (El := [_, (2, .v (.bool true))]) (init := [0]) (fin := [0, 1]) (sps := [⟨[], [], [1], [(.slot 2)]⟩]) (es' := [(_, _), (2, .v (.bool true))]) (by kernel_rfl) rfl rfl
      ⟨st_plain rfl (op_assign _ _ _ _ rfl rfl),
      trivial⟩ ?_
     refine pt_then ?_
     refine ht_ret ?_
     refine pt_pick [1] (by kernel_rfl) (es' := [(_, _)]) rfl ?_
     obtain rfl := Option.some.inj h
     exact pt_ret hio rfl (.tmp _ _ .nil) rfl rfl
    ·rintro u33 hl34 hr35 s26 rr38 h ho36
     refine ht_seq ?_
     refine ht_seqR hn (El := [_, _, _, _, (24, .v (.bool ((decide (s26 < (v1.1.size : Int))))))]) (init := [0, 1, 2, 3]) (fin := [0, 1, 2, 3, 4]) (sps := [⟨[3, 2], [], [4], [(.slot 24)]⟩]) (es' := [(_, _), (_, _), (_, _), (_, _), (24, .v (.bool ((decide (s26 < (v1.1.size : Int))))))]) (by kernel_rfl) rfl rfl
      ⟨st_plain rfl (op_bin _ _ _ _ _ rfl rfl rfl),
      trivial⟩ ?_
     refine pt_then ?_
     refine ht_seq ?_
     refine ht_cond _ rfl (fun hb39 => ?_) (fun hb39 => ?_)
     ·have h := cond_t hb39 h
      refine ht_skip ?_
      refine pt_then ?_
      refine ht_seq ?_
      refine ht_block ?_
      refine ht_seq ?_
      refine ht_seqR hn (El := [_, _, _, _, _, (25, .v (.int .i64 s26)), (5, .v (.int .i64 s26))]) (init := [0, 1, 2, 3, 4]) (fin := [0, 1, 2, 3, 6]) (sps := [⟨[3], [], [5], [(.slot 25)]⟩, ⟨[5], [], [6], [(.slot 5)]⟩]) (es' := [(_, _), (_, _), (_, _), (_, _), (5, .v (.int .i64 s26))]) (by kernel_rfl) rfl rfl
       ⟨st_plain rfl (op_move _ _ _ _ rfl rfl),
       st_plain rfl (op_assign _ _ _ _ rfl rfl),
       trivial⟩ ?_
      refine pt_then ?_
      refine ht_seq ?_
      refine ht_joinS h (fun (s40 : Bool) => [(40, .glob (GL mx)), (3, .v (.string v1.1)), (22, .v (.int .i64 (v1.1.size : Int))), (23, .v (.int .i64 s26)), (38, .v (.bool s40))]) ?_ ?_
      ·rintro s40 h
       refine pt_then ?_
       refine ht_cond _ rfl (fun hb44 => ?_) (fun hb44 => ?_)
       ·have h := cond_t hb44 h
        refine ht_seq ?_
        refine ht_seqR hn (El := [_, _, _, _, _, (2, .v (.bool false))]) (init := [0, 1, 2, 3, 4]) (fin := [0, 5]) (sps := [⟨[], [], [5], [(.slot 2)]⟩]) (es' := [(_, _), (2, .v (.bool false))]) (by kernel_rfl) rfl rfl
         ⟨st_plain rfl (op_assign _ _ _ _ rfl rfl),
         trivial⟩ ?_
        refine pt_then ?_
        refine ht_ret ?_
        refine pt_pick [1] (by kernel_rfl) (es' := [(_, _)]) rfl ?_
        refine pt_r_in ?_
        refine pt_r_then ?_
        refine pt_r_then ?_
        refine pt_r_in ?_
        refine pt_r_then ?_
        have h := hr35 _ (ho36 _ (Option.some.inj h).symm).symm
        obtain rfl := Option.some.inj h
        exact pt_ret hio rfl (.tmp _ _ .nil) rfl rfl
       ·have h := cond_f hb44 h
        refine ht_skip ?_
        refine pt_inb ?_
        refine pt_then ?_
        obtain ⟨v18, hv18, h⟩ := bind_some h
        refine ht_seqR hn (El := [_, _, _, _, _, (39, .v (.int .i64 v18)), (23, .v (.int .i64 v18))]) (init := [0, 1, 2, 3, 4]) (fin := [0, 1, 2, 6]) (sps := [⟨[3], [], [5], [(.slot 39)]⟩, ⟨[5], [3], [6], [(.slot 23)]⟩]) (es' := [(_, _), (_, _), (_, _), (23, .v (.int .i64 v18))]) (by kernel_rfl) rfl rfl
         ⟨st_plain rfl (op_bin _ _ _ _ _ rfl rfl (ibind (f := Value.int .i64) (Option.some.inj hv18))),
         st_plain rfl (LOp.drop [_] (op_move _ _ _ _ rfl rfl)),
         trivial⟩ ?_
        exact pt_next _ (Option.some.inj h).symm rfl
      ·intro u41 h hl42 hr43
       obtain ⟨v9, hv9, h⟩ := bind_some h
       refine cond_some h (fun hg7_4 h => ?_) (fun hg7_4 h => ?_)
       ·obtain ⟨v10, hv10, h⟩ := bind_some h
        obtain ⟨v11, hv11, h⟩ := bind_some h
        obtain ⟨v12, hv12, h⟩ := bind_some h
        refine ht_seqR hn (El := (_ :: _ :: _ :: _ :: _ :: (26, .v (.string v1.1)) :: (27, .v (.int .i64 s26)) :: (28, .v (.int .u8 v9)) :: (29, .v (.bool (v9 != 45))) :: (30, .v (.bool true)) :: (31, .v (.string v1.1)) :: (32, .v (.int .i64 s26)) :: (33, .v (.int .i64 s26)) :: (34, .v (.int .i64 v10)) :: (35, .v (.string v11)) :: (36, .v (.bool v12)) :: (37, .v (.bool (!v12))) :: (38, .v (.bool (!v12))) :: [])) (init := [0, 1, 2, 3, 4]) (fin := [0, 1, 2, 3, 17]) (sps := [⟨[1], [], [5], [(.slot 26)]⟩, ⟨[4], [], [6], [(.slot 27)]⟩, ⟨[5, 6], [], [7], [(.slot 28)]⟩, ⟨[7], [], [8], [(.slot 29)]⟩, ⟨[8], [], [9], [(.slot 30)]⟩, ⟨[9, 1], [], [10], [(.slot 31)]⟩, ⟨[9, 4], [], [11], [(.slot 32)]⟩, ⟨[9, 4], [], [12], [(.slot 33)]⟩, ⟨[9, 12], [], [13], [(.slot 34)]⟩, ⟨[9, 10, 11, 13], [], [14], [(.slot 35)]⟩, ⟨[9, 14, 0], [], [15], [(.slot 36)]⟩, ⟨[9, 15], [], [16], [(.slot 37)]⟩, ⟨[9, 16], [], [17], [(.slot 38)]⟩]) (es' := [(_, _), (_, _), (_, _), (_, _), (38, .v (.bool (!v12)))]) (by kernel_rfl) rfl rfl
         ⟨st_plain rfl (op_move _ _ _ _ rfl rfl),
         st_plain rfl (op_move _ _ _ _ rfl rfl),
         st_plain rfl (op_chr _ _ _ s26 _ Tryd.underlying9 rfl rfl hv9),
         st_plain rfl (op_bin _ _ _ _ _ rfl rfl rfl),
         st_plain rfl (op_move _ _ _ _ (congrArg (fun b => AV.v (Value.bool b)) hg7_4) rfl),
         st_run 4 30 true rfl rfl rfl (List.Mem.head _) (op_move _ _ _ _ rfl rfl),
         st_run 4 30 true rfl rfl rfl (List.Mem.head _) (op_move _ _ _ _ rfl rfl),
         st_run 4 30 true rfl rfl rfl (List.Mem.head _) (op_move _ _ _ _ rfl rfl),
         st_run 4 30 true rfl rfl rfl (List.Mem.head _) (op_bin _ _ _ _ _ rfl rfl (ibind (f := Value.int .i64) (Option.some.inj hv10))),
         st_run 4 30 true rfl rfl rfl (List.Mem.head _) (op_substr _ _ _ s26 v10 _ Tryd.underlying9 rfl ⟨_, rfl⟩ ⟨_, rfl⟩ hv11),
         st_run 4 30 true rfl rfl rfl (List.Mem.head _) (op_callG _ _ 40 34 _ _ rfl Tryd.call34 rfl rfl (fun _ h => h) (ok_path_Domain mx v11 _ hv12) rfl rfl),
         st_run 4 30 true rfl rfl rfl (List.Mem.head _) (op_un _ _ _ _ rfl rfl),
         st_plain rfl (op_pick _ _ true _ rfl rfl),
         trivial⟩ ?_
        exact hl42 _ (Option.some.inj h).symm
       ·refine ht_seqR hn (El := (_ :: _ :: _ :: _ :: _ :: (26, .v (.string v1.1)) :: (27, .v (.int .i64 s26)) :: (28, .v (.int .u8 v9)) :: (29, .v (.bool (v9 != 45))) :: (30, .v (.bool false)) :: (31, .v undef) :: (32, .v undef) :: (33, .v undef) :: (34, .v undef) :: (35, .v undef) :: (36, .v undef) :: (37, .v undef) :: (38, .v (.bool false)) :: [])) (init := [0, 1, 2, 3, 4]) (fin := [0, 1, 2, 3, 17]) (sps := [⟨[1], [], [5], [(.slot 26)]⟩, ⟨[4], [], [6], [(.slot 27)]⟩, ⟨[5, 6], [], [7], [(.slot 28)]⟩, ⟨[7], [], [8], [(.slot 29)]⟩, ⟨[8], [], [9], [(.slot 30)]⟩, ⟨[9], [], [10], [(.slot 31)]⟩, ⟨[9], [], [11], [(.slot 32)]⟩, ⟨[9], [], [12], [(.slot 33)]⟩, ⟨[9], [], [13], [(.slot 34)]⟩, ⟨[9], [], [14], [(.slot 35)]⟩, ⟨[9], [], [15], [(.slot 36)]⟩, ⟨[9], [], [16], [(.slot 37)]⟩, ⟨[9], [], [17], [(.slot 38)]⟩]) (es' := [(_, _), (_, _), (_, _), (_, _), (38, .v (.bool false))]) (by kernel_rfl) rfl rfl
         ⟨st_plain rfl (op_move _ _ _ _ rfl rfl),
         st_plain rfl (op_move _ _ _ _ rfl rfl),
         st_plain rfl (op_chr _ _ _ s26 _ Tryd.underlying9 rfl rfl hv9),
         st_plain rfl (op_bin _ _ _ _ _ rfl rfl rfl),
         st_plain rfl (op_move _ _ _ _ (congrArg (fun b => AV.v (Value.bool b)) hg7_4) rfl),
         st_skip 4 30 _ true rfl rfl rfl rfl (List.Mem.head _),
         st_skip 4 30 _ true rfl rfl rfl rfl (List.Mem.head _),
         st_skip 4 30 _ true rfl rfl rfl rfl (List.Mem.head _),
         st_skip 4 30 _ true rfl rfl rfl rfl (List.Mem.head _),
         st_skip 4 30 _ true rfl rfl rfl rfl (List.Mem.head _),
         st_skip 4 30 _ true rfl rfl rfl rfl (List.Mem.head _),
         st_skip 4 30 _ true rfl rfl rfl rfl (List.Mem.head _),
         st_plain rfl (op_pick _ _ false _ rfl rfl),
         trivial⟩ ?_
        exact hl42 _ (Option.some.inj h).symm
     ·have h := cond_f hb39 h
      refine ht_exit ?_
      refine pt_x_then ?_
      refine pt_x_then ?_
      refine pt_x_in ?_
      refine pt_pick [0] (by kernel_rfl) (es' := [(_, _)]) rfl ?_
      exact hl34 _ (ho36 _ (Option.some.inj h).symm).symm
  ·intro u4 h hl5 hr6
   refine cond_some h (fun hg2_2 h => ?_) (fun hg2_2 h => ?_)
   ·refine ht_seqR hn (El := [_, _, _, (11, .v (.bool v1.2)), (12, .v (.bool (!v1.2))), (13, .v (.bool true)), (14, .v undef), (15, .v undef), (16, .v (.bool true)), (17, .v (.bool true)), (18, .v undef), (19, .v undef), (20, .v (.bool true))]) (init := [0, 1, 2]) (fin := [0, 1, 12]) (sps := [⟨[2], [], [3], [(.slot 11)]⟩, ⟨[3], [], [4], [(.slot 12)]⟩, ⟨[4], [], [5], [(.slot 13)]⟩, ⟨[5], [], [6], [(.slot 14)]⟩, ⟨[5], [], [7], [(.slot 15)]⟩, ⟨[5], [], [8], [(.slot 16)]⟩, ⟨[8], [], [9], [(.slot 17)]⟩, ⟨[9], [], [10], [(.slot 18)]⟩, ⟨[9], [], [11], [(.slot 19)]⟩, ⟨[9], [], [12], [(.slot 20)]⟩]) (es' := [(_, _), (_, _), (20, .v (.bool true))]) (by kernel_rfl) rfl rfl
     ⟨st_plain rfl (op_move _ _ _ _ rfl rfl),
     st_plain rfl (op_un _ _ _ _ rfl rfl),
     st_plain rfl (op_move _ _ _ _ (congrArg (fun b => AV.v (Value.bool b)) hg2_2) rfl),
     st_skip 2 13 _ false rfl rfl rfl rfl (List.Mem.head _),
     st_skip 2 13 _ false rfl rfl rfl rfl (List.Mem.head _),
     st_plain rfl (op_pick _ _ true _ rfl rfl),
     st_plain rfl (op_move _ _ _ _ rfl rfl),
     st_skip 6 17 _ false rfl rfl rfl rfl (List.Mem.head _),
     st_skip 6 17 _ false rfl rfl rfl rfl (List.Mem.head _),
     st_plain rfl (op_pick _ _ true _ rfl rfl),
     trivial⟩ ?_
    exact hl5 _ (Option.some.inj h).symm
   ·refine cond_some h (fun hg2_6 h => ?_) (fun hg2_6 h => ?_)
    ·refine ht_seqR hn (El := [_, _, _, (11, .v (.bool v1.2)), (12, .v (.bool (!v1.2))), (13, .v (.bool false)), (14, .v (.string v1.1)), (15, .v (.bool ((v1.1.toList == (⟨#[]⟩ : ByteArray).toList)))), (16, .v (.bool ((v1.1.toList == (⟨#[]⟩ : ByteArray).toList)))), (17, .v (.bool true)), (18, .v undef), (19, .v undef), (20, .v (.bool true))]) (init := [0, 1, 2]) (fin := [0, 1, 12]) (sps := [⟨[2], [], [3], [(.slot 11)]⟩, ⟨[3], [], [4], [(.slot 12)]⟩, ⟨[4], [], [5], [(.slot 13)]⟩, ⟨[5, 1], [], [6], [(.slot 14)]⟩, ⟨[5, 6], [], [7], [(.slot 15)]⟩, ⟨[5, 7], [], [8], [(.slot 16)]⟩, ⟨[8], [], [9], [(.slot 17)]⟩, ⟨[9], [], [10], [(.slot 18)]⟩, ⟨[9], [], [11], [(.slot 19)]⟩, ⟨[9], [], [12], [(.slot 20)]⟩]) (es' := [(_, _), (_, _), (20, .v (.bool true))]) (by kernel_rfl) rfl rfl
      ⟨st_plain rfl (op_move _ _ _ _ rfl rfl),
      st_plain rfl (op_un _ _ _ _ rfl rfl),
      st_plain rfl (op_move _ _ _ _ (congrArg (fun b => AV.v (Value.bool b)) hg2_2) rfl),
      st_run 2 13 false rfl rfl rfl (List.Mem.head _) (op_move _ _ _ _ rfl rfl),
      st_run 2 13 false rfl rfl rfl (List.Mem.head _) (op_bin _ _ _ _ _ rfl rfl rfl),
      st_plain rfl (op_pick _ _ false _ rfl rfl),
      st_plain rfl (op_move _ _ _ _ (congrArg (fun b => AV.v (Value.bool b)) hg2_6) rfl),
      st_skip 6 17 _ false rfl rfl rfl rfl (List.Mem.head _),
      st_skip 6 17 _ false rfl rfl rfl rfl (List.Mem.head _),
      st_plain rfl (op_pick _ _ true _ rfl rfl),
      trivial⟩ ?_
     exact hl5 _ (Option.some.inj h).symm
    ·obtain ⟨v2, hv2, h⟩ := bind_some h
     refine ht_seqR hn (El := [_, _, _, (11, .v (.bool v1.2)), (12, .v (.bool (!v1.2))), (13, .v (.bool false)), (14, .v (.string v1.1)), (15, .v (.bool ((v1.1.toList == (⟨#[]⟩ : ByteArray).toList)))), (16, .v (.bool ((v1.1.toList == (⟨#[]⟩ : ByteArray).toList)))), (17, .v (.bool false)), (18, .v (.string v1.1)), (19, .v (.bool v2)), (20, .v (.bool v2))]) (init := [0, 1, 2]) (fin := [0, 1, 12]) (sps := [⟨[2], [], [3], [(.slot 11)]⟩, ⟨[3], [], [4], [(.slot 12)]⟩, ⟨[4], [], [5], [(.slot 13)]⟩, ⟨[5, 1], [], [6], [(.slot 14)]⟩, ⟨[5, 6], [], [7], [(.slot 15)]⟩, ⟨[5, 7], [], [8], [(.slot 16)]⟩, ⟨[8], [], [9], [(.slot 17)]⟩, ⟨[9, 1], [], [10], [(.slot 18)]⟩, ⟨[9, 10], [], [11], [(.slot 19)]⟩, ⟨[9, 11], [], [12], [(.slot 20)]⟩]) (es' := [(_, _), (_, _), (20, .v (.bool v2))]) (by kernel_rfl) rfl rfl
      ⟨st_plain rfl (op_move _ _ _ _ rfl rfl),
      st_plain rfl (op_un _ _ _ _ rfl rfl),
      st_plain rfl (op_move _ _ _ _ (congrArg (fun b => AV.v (Value.bool b)) hg2_2) rfl),
      st_run 2 13 false rfl rfl rfl (List.Mem.head _) (op_move _ _ _ _ rfl rfl),
      st_run 2 13 false rfl rfl rfl (List.Mem.head _) (op_bin _ _ _ _ _ rfl rfl rfl),
      st_plain rfl (op_pick _ _ false _ rfl rfl),
      st_plain rfl (op_move _ _ _ _ (congrArg (fun b => AV.v (Value.bool b)) hg2_6) rfl),
      st_run 6 17 false rfl rfl rfl (List.Mem.head _) (op_move _ _ _ _ rfl rfl),
      st_run 6 17 false rfl rfl rfl (List.Mem.head _) (op_call _ _ 33 _ _ rfl Tryd.call33 rfl (ok_verb_equalFold v1.1 (⟨#[67, 82, 65, 77, 45, 77, 68, 53]⟩ : ByteArray) _ hv2) rfl rfl),
      st_plain rfl (op_pick _ _ false _ rfl rfl),
      trivial⟩ ?_
     exact hl5 _ (Option.some.inj h).symm

set_option maxHeartbeats 1000000 in
theorem ok_internal_stringslite_HasPrefix (s : ByteArray) (prefix_ : ByteArray) (r : Bool) (h : Sh.internal_stringslite_HasPrefix s prefix_ = some r) : FnOK Tryd.prog 73 [.v (.string s), .v (.string prefix_)] (.v (.bool r)) := by
  unfold Sh.internal_stringslite_HasPrefix at h
  refine fn_ok Tryd.func73 rfl (Nat.le_of_ble_eq_true rfl) rfl rfl fun g0 hn hio => ?_
  refine ht_seq ?_
  refine ht_seqR hn (El := [_, _, (4, .v (.bool false))]) (init := [0, 1]) (fin := [0, 1]) (sps := [⟨[], [], [2], [(.slot 4)]⟩]) (es' := [(_, _), (_, _)]) (by kernel_rfl) rfl rfl
   ⟨st_plain rfl (op_assign _ _ _ _ rfl rfl),
   trivial⟩ ?_
  refine pt_then ?_
  refine ht_seq ?_
  refine ht_joinS h (fun (s2 : Bool) => [(4, .v (.bool s2))]) ?_ ?_
  ·rintro s2 h
   refine pt_then ?_
   refine ht_ret ?_
   obtain rfl := Option.some.inj h
   exact pt_ret hio rfl (.tmp _ _ .nil) rfl rfl
  ·intro u3 h hl4 hr5
   refine cond_some h (fun hg1_5 h => ?_) (fun hg1_5 h => ?_)
   ·obtain ⟨v1, hv1, h⟩ := bind_some h
    refine ht_seqR hn (El := (_ :: _ :: (5, .v (.string s)) :: (6, .v (.int .i64 (s.size : Int))) :: (7, .v (.string prefix_)) :: (8, .v (.int .i64 (prefix_.size : Int))) :: (9, .v (.bool ((decide ((prefix_.size : Int) ≤ (s.size : Int)))))) :: (10, .v (.bool true)) :: (11, .v (.string s)) :: (12, .v (.string prefix_)) :: (13, .v (.int .i64 (prefix_.size : Int))) :: (14, .v (.string v1)) :: (15, .v (.string prefix_)) :: (16, .v (.bool (v1.toList == prefix_.toList))) :: (17, .v (.bool (v1.toList == prefix_.toList))) :: (4, .v (.bool (v1.toList == prefix_.toList))) :: [])) (init := [0, 1]) (fin := [15]) (sps := [⟨[0], [], [2], [(.slot 5)]⟩, ⟨[2], [], [3], [(.slot 6)]⟩, ⟨[1], [], [4], [(.slot 7)]⟩, ⟨[4], [], [5], [(.slot 8)]⟩, ⟨[3, 5], [], [6], [(.slot 9)]⟩, ⟨[6], [], [7], [(.slot 10)]⟩, ⟨[7, 0], [], [8], [(.slot 11)]⟩, ⟨[7, 1], [], [9], [(.slot 12)]⟩, ⟨[7, 9], [], [10], [(.slot 13)]⟩, ⟨[7, 8, 10], [], [11], [(.slot 14)]⟩, ⟨[7, 1], [], [12], [(.slot 15)]⟩, ⟨[7, 11, 12], [], [13], [(.slot 16)]⟩, ⟨[7, 13], [], [14], [(.slot 17)]⟩, ⟨[14], [], [15], [(.slot 4)]⟩]) (es' := [(4, .v (.bool (v1.toList == prefix_.toList)))]) (by kernel_rfl) rfl rfl
     ⟨st_plain rfl (op_move _ _ _ _ rfl rfl),
     st_plain rfl (op_len_str _ _ _ Tryd.underlying9 rfl),
     st_plain rfl (op_move _ _ _ _ rfl rfl),
     st_plain rfl (op_len_str _ _ _ Tryd.underlying9 rfl),
     st_plain rfl (op_bin _ _ _ _ _ rfl rfl rfl),
     st_plain rfl (op_move _ _ _ _ (congrArg (fun b => AV.v (Value.bool b)) hg1_5) rfl),
     st_run 5 10 true rfl rfl rfl (List.Mem.head _) (op_move _ _ _ _ rfl rfl),
     st_run 5 10 true rfl rfl rfl (List.Mem.head _) (op_move _ _ _ _ rfl rfl),
     st_run 5 10 true rfl rfl rfl (List.Mem.head _) (op_len_str _ _ _ Tryd.underlying9 rfl),
     st_run 5 10 true rfl rfl rfl (List.Mem.head _) (op_substr _ _ _ 0 (prefix_.size : Int) _ Tryd.underlying9 rfl rfl ⟨_, rfl⟩ hv1),
     st_run 5 10 true rfl rfl rfl (List.Mem.head _) (op_move _ _ _ _ rfl rfl),
     st_run 5 10 true rfl rfl rfl (List.Mem.head _) (op_bin _ _ _ _ _ rfl rfl rfl),
     st_plain rfl (op_pick _ _ true _ rfl rfl),
     st_plain rfl (op_assign _ _ _ _ rfl rfl),
     trivial⟩ ?_
    exact hl4 _ (Option.some.inj h).symm
   ·refine ht_seqR hn (El := (_ :: _ :: (5, .v (.string s)) :: (6, .v (.int .i64 (s.size : Int))) :: (7, .v (.string prefix_)) :: (8, .v (.int .i64 (prefix_.size : Int))) :: (9, .v (.bool ((decide ((prefix_.size : Int) ≤ (s.size : Int)))))) :: (10, .v (.bool false)) :: (11, .v undef) :: (12, .v undef) :: (13, .v undef) :: (14, .v undef) :: (15, .v undef) :: (16, .v undef) :: (17, .v (.bool false)) :: (4, .v (.bool false)) :: [])) (init := [0, 1]) (fin := [15]) (sps := [⟨[0], [], [2], [(.slot 5)]⟩, ⟨[2], [], [3], [(.slot 6)]⟩, ⟨[1], [], [4], [(.slot 7)]⟩, ⟨[4], [], [5], [(.slot 8)]⟩, ⟨[3, 5], [], [6], [(.slot 9)]⟩, ⟨[6], [], [7], [(.slot 10)]⟩, ⟨[7], [], [8], [(.slot 11)]⟩, ⟨[7], [], [9], [(.slot 12)]⟩, ⟨[7], [], [10], [(.slot 13)]⟩, ⟨[7], [], [11], [(.slot 14)]⟩, ⟨[7], [], [12], [(.slot 15)]⟩, ⟨[7], [], [13], [(.slot 16)]⟩, ⟨[7], [], [14], [(.slot 17)]⟩, ⟨[14], [], [15], [(.slot 4)]⟩]) (es' := [(4, .v (.bool false))]) (by kernel_rfl) rfl rfl
     ⟨st_plain rfl (op_move _ _ _ _ rfl rfl),
     st_plain rfl (op_len_str _ _ _ Tryd.underlying9 rfl),
     st_plain rfl (op_move _ _ _ _ rfl rfl),
     st_plain rfl (op_len_str _ _ _ Tryd.underlying9 rfl),
     st_plain rfl (op_bin _ _ _ _ _ rfl rfl rfl),
     st_plain rfl (op_move _ _ _ _ (congrArg (fun b => AV.v (Value.bool b)) hg1_5) rfl),
     st_skip 5 10 _ true rfl rfl rfl rfl (List.Mem.head _),
     st_skip 5 10 _ true rfl rfl rfl rfl (List.Mem.head _),
     st_skip 5 10 _ true rfl rfl rfl rfl (List.Mem.head _),
     st_skip 5 10 _ true rfl rfl rfl rfl (List.Mem.head _),
     st_skip 5 10 _ true rfl rfl rfl rfl (List.Mem.head _),
     st_skip 5 10 _ true rfl rfl rfl rfl (List.Mem.head _),
     st_plain rfl (op_pick _ _ false _ rfl rfl),
     st_plain rfl (op_assign _ _ _ _ rfl rfl),
     trivial⟩ ?_
    exact hl4 _ (Option.some.inj h).symm

set_option maxHeartbeats 1000000 in
theorem ok_internal_stringslite_CutPrefix (s : ByteArray) (prefix_ : ByteArray) (r : (ByteArray × Bool)) (h : Sh.internal_stringslite_CutPrefix s prefix_ = some r) : FnOK Tryd.prog 62 [.v (.string s), .v (.string prefix_)] (.tup [.v (.string r.1), .v (.bool r.2)]) := by
  unfold Sh.internal_stringslite_CutPrefix at h
  refine fn_ok Tryd.func62 rfl (Nat.le_of_ble_eq_true rfl) rfl rfl fun g0 hn hio => ?_
  refine ht_seq ?_
  refine ht_seqR hn (El := [_, _, (4, .v (.string (⟨#[]⟩ : ByteArray))), (5, .v (.bool false))]) (init := [0, 1]) (fin := [0, 1]) (sps := [⟨[], [], [2], [(.slot 4)]⟩, ⟨[], [], [3], [(.slot 5)]⟩]) (es' := [(_, _), (_, _)]) (by kernel_rfl) rfl rfl
   ⟨st_plain rfl (op_assign _ _ _ _ rfl rfl),
   st_plain rfl (op_assign _ _ _ _ rfl rfl),
   trivial⟩ ?_
  refine pt_then ?_
  refine ht_seq ?_
  refine ht_seq ?_
  obtain ⟨v1, hv1, h⟩ := bind_some h
  refine ht_seqR hn (El := [_, _, (6, .v (.string s)), (7, .v (.string prefix_)), (8, .v (.bool v1)), (9, .v (.bool (!v1)))]) (init := [0, 1]) (fin := [0, 1, 5]) (sps := [⟨[0], [], [2], [(.slot 6)]⟩, ⟨[1], [], [3], [(.slot 7)]⟩, ⟨[2, 3], [], [4], [(.slot 8)]⟩, ⟨[4], [], [5], [(.slot 9)]⟩]) (es' := [(_, _), (_, _), (9, .v (.bool (!v1)))]) (by kernel_rfl) rfl rfl
   ⟨st_plain rfl (op_move _ _ _ _ rfl rfl),
   st_plain rfl (op_move _ _ _ _ rfl rfl),
   st_plain rfl (op_call _ _ 73 _ _ rfl Tryd.call73 rfl (ok_internal_stringslite_HasPrefix s prefix_ _ hv1) rfl rfl),
   st_plain rfl (op_un _ _ _ _ rfl rfl),
   trivial⟩ ?_
  refine pt_then ?_
  refine ht_cond _ rfl (fun hb2 => ?_) (fun hb2 => ?_)
  ·have h := cond_t hb2 h
   refine ht_seq ?_
   refine ht_seqR hn (El := [_, _, _, (10, .v (.string s)), (4, .v (.string s)), (5, .v (.bool false))]) (init := [0, 1, 2]) (fin := [4, 5]) (sps := [⟨[0], [], [3], [(.slot 10)]⟩, ⟨[3], [], [4], [(.slot 4)]⟩, ⟨[], [], [5], [(.slot 5)]⟩]) (es' := [(4, .v (.string s)), (5, .v (.bool false))]) (by kernel_rfl) rfl rfl
    ⟨st_plain rfl (op_move _ _ _ _ rfl rfl),
    st_plain rfl (op_assign _ _ _ _ rfl rfl),
    st_plain rfl (op_assign _ _ _ _ rfl rfl),
    trivial⟩ ?_
   refine pt_then ?_
   refine ht_ret ?_
   refine pt_r_then ?_
   obtain rfl := Option.some.inj h
   exact pt_ret hio rfl (.tmp _ _ (.tmp _ _ .nil)) rfl rfl
  ·have h := cond_f hb2 h
   refine ht_skip ?_
   refine pt_then ?_
   refine ht_seq ?_
   obtain ⟨v3, hv3, h⟩ := bind_some h
   refine ht_seqR hn (El := [_, _, _, (11, .v (.string s)), (12, .v (.string prefix_)), (13, .v (.int .i64 (prefix_.size : Int))), (14, .v (.string v3)), (4, .v (.string v3)), (5, .v (.bool true))]) (init := [0, 1, 2]) (fin := [7, 8]) (sps := [⟨[0], [], [3], [(.slot 11)]⟩, ⟨[1], [], [4], [(.slot 12)]⟩, ⟨[4], [], [5], [(.slot 13)]⟩, ⟨[3, 5], [], [6], [(.slot 14)]⟩, ⟨[6], [], [7], [(.slot 4)]⟩, ⟨[], [], [8], [(.slot 5)]⟩]) (es' := [(4, .v (.string v3)), (5, .v (.bool true))]) (by kernel_rfl) rfl rfl
    ⟨st_plain rfl (op_move _ _ _ _ rfl rfl),
    st_plain rfl (op_move _ _ _ _ rfl rfl),
    st_plain rfl (op_len_str _ _ _ Tryd.underlying9 rfl),
    st_plain rfl (op_substr _ _ _ (prefix_.size : Int) (s.size : Int) _ Tryd.underlying9 rfl ⟨_, rfl⟩ rfl hv3),
    st_plain rfl (op_assign _ _ _ _ rfl rfl),
    st_plain rfl (op_assign _ _ _ _ rfl rfl),
    trivial⟩ ?_
   refine pt_then ?_
   refine ht_ret ?_
   obtain rfl := Option.some.inj h
   exact pt_ret hio rfl (.tmp _ _ (.tmp _ _ .nil)) rfl rfl

set_option maxHeartbeats 1000000 in
theorem ok_strings_CutPrefix (s : ByteArray) (prefix_ : ByteArray) (r : (ByteArray × Bool)) (h : Sh.strings_CutPrefix s prefix_ = some r) : FnOK Tryd.prog 51 [.v (.string s), .v (.string prefix_)] (.tup [.v (.string r.1), .v (.bool r.2)]) := by
  unfold Sh.strings_CutPrefix at h
  refine fn_ok Tryd.func51 rfl (Nat.le_of_ble_eq_true rfl) rfl rfl fun g0 hn hio => ?_
  refine ht_seq ?_
  refine ht_seqR hn (El := [_, _, (4, .v (.string (⟨#[]⟩ : ByteArray))), (5, .v (.bool false))]) (init := [0, 1]) (fin := [0, 1]) (sps := [⟨[], [], [2], [(.slot 4)]⟩, ⟨[], [], [3], [(.slot 5)]⟩]) (es' := [(_, _), (_, _)]) (by kernel_rfl) rfl rfl
   ⟨st_plain rfl (op_assign _ _ _ _ rfl rfl),
   st_plain rfl (op_assign _ _ _ _ rfl rfl),
   trivial⟩ ?_
  refine pt_then ?_
  refine ht_seq ?_
  obtain ⟨v1, hv1, h⟩ := bind_some h
  refine ht_seqR hn (El := [_, _, (6, .v (.string s)), (7, .v (.string prefix_)), (8, .tup [.v (.string v1.1), .v (.bool v1.2)]), (9, .v (.string v1.1)), (10, .v (.bool v1.2)), (4, .v (.string v1.1)), (5, .v (.bool v1.2))]) (init := [0, 1]) (fin := [7, 8]) (sps := [⟨[0], [], [2], [(.slot 6)]⟩, ⟨[1], [], [3], [(.slot 7)]⟩, ⟨[2, 3], [], [4], [(.slot 8)]⟩, ⟨[4], [], [5], [(.slot 9)]⟩, ⟨[4], [], [6], [(.slot 10)]⟩, ⟨[5], [], [7], [(.slot 4)]⟩, ⟨[6], [], [8], [(.slot 5)]⟩]) (es' := [(4, .v (.string v1.1)), (5, .v (.bool v1.2))]) (by kernel_rfl) rfl rfl
   ⟨st_plain rfl (op_move _ _ _ _ rfl rfl),
   st_plain rfl (op_move _ _ _ _ rfl rfl),
   st_plain rfl (op_call _ _ 62 _ _ rfl Tryd.call62 rfl (ok_internal_stringslite_CutPrefix s prefix_ _ hv1) rfl rfl),
   st_plain rfl (op_extract _ _ _ _ _ rfl rfl (Nat.le_of_ble_eq_true rfl) rfl rfl),
   st_plain rfl (op_extract _ _ _ _ _ rfl rfl (Nat.le_of_ble_eq_true rfl) rfl rfl),
   st_plain rfl (op_assign _ _ _ _ rfl rfl),
   st_plain rfl (op_assign _ _ _ _ rfl rfl),
   trivial⟩ ?_
  refine pt_then ?_
  refine ht_ret ?_
  obtain rfl := Option.some.inj h
  exact pt_ret hio rfl (.tmp _ _ (.tmp _ _ .nil)) rfl rfl

set_option maxHeartbeats 1000000 in
theorem ok_internal_stringslite_HasSuffix (s : ByteArray) (suffix : ByteArray) (r : Bool) (h : Sh.internal_stringslite_HasSuffix s suffix = some r) : FnOK Tryd.prog 74 [.v (.string s), .v (.string suffix)] (.v (.bool r)) := by
  unfold Sh.internal_stringslite_HasSuffix at h
  refine fn_ok Tryd.func74 rfl (Nat.le_of_ble_eq_true rfl) rfl rfl fun g0 hn hio => ?_
  refine ht_seq ?_
  refine ht_seqR hn (El := [_, _, (4, .v (.bool false))]) (init := [0, 1]) (fin := [0, 1]) (sps := [⟨[], [], [2], [(.slot 4)]⟩]) (es' := [(_, _), (_, _)]) (by kernel_rfl) rfl rfl
   ⟨st_plain rfl (op_assign _ _ _ _ rfl rfl),
   trivial⟩ ?_
  refine pt_then ?_
  refine ht_seq ?_
  refine ht_joinS h (fun (s3 : Bool) => [(4, .v (.bool s3))]) ?_ ?_
  ·rintro s3 h
   refine pt_then ?_
   refine ht_ret ?_
   obtain rfl := Option.some.inj h
   exact pt_ret hio rfl (.tmp _ _ .nil) rfl rfl
  ·intro u4 h hl5 hr6
   refine cond_some h (fun hg1_5 h => ?_) (fun hg1_5 h => ?_)
   ·obtain ⟨v1, hv1, h⟩ := bind_some h
    obtain ⟨v2, hv2, h⟩ := bind_some h
    refine ht_seqR hn (El := (_ :: _ :: (5, .v (.string s)) :: (6, .v (.int .i64 (s.size : Int))) :: (7, .v (.string suffix)) :: (8, .v (.int .i64 (suffix.size : Int))) :: (9, .v (.bool ((decide ((suffix.size : Int) ≤ (s.size : Int)))))) :: (10, .v (.bool true)) :: (11, .v (.string s)) :: (12, .v (.string s)) :: (13, .v (.int .i64 (s.size : Int))) :: (14, .v (.string suffix)) :: (15, .v (.int .i64 (suffix.size : Int))) :: (16, .v (.int .i64 v1)) :: (17, .v (.string v2)) :: (18, .v (.string suffix)) :: (19, .v (.bool (v2.toList == suffix.toList))) :: (20, .v (.bool (v2.toList == suffix.toList))) :: (4, .v (.bool (v2.toList == suffix.toList))) :: [])) (init := [0, 1]) (fin := [18]) (sps := (⟨[0], [], [2], [(.slot 5)]⟩ :: ⟨[2], [], [3], [(.slot 6)]⟩ :: ⟨[1], [], [4], [(.slot 7)]⟩ :: ⟨[4], [], [5], [(.slot 8)]⟩ :: ⟨[3, 5], [], [6], [(.slot 9)]⟩ :: ⟨[6], [], [7], [(.slot 10)]⟩ :: ⟨[7, 0], [], [8], [(.slot 11)]⟩ :: ⟨[7, 0], [], [9], [(.slot 12)]⟩ :: ⟨[7, 9], [], [10], [(.slot 13)]⟩ :: ⟨[7, 1], [], [11], [(.slot 14)]⟩ :: ⟨[7, 11], [], [12], [(.slot 15)]⟩ :: ⟨[7, 10, 12], [], [13], [(.slot 16)]⟩ :: ⟨[7, 8, 13], [], [14], [(.slot 17)]⟩ :: ⟨[7, 1], [], [15], [(.slot 18)]⟩ :: ⟨[7, 14, 15], [], [16], [(.slot 19)]⟩ :: ⟨[7, 16], [], [17], [(.slot 20)]⟩ :: ⟨[17], [], [18], [(.slot 4)]⟩ :: [])) (es' := [(4, .v (.bool (v2.toList == suffix.toList)))]) (by kernel_rfl) rfl rfl
     ⟨st_plain rfl (op_move _ _ _ _ rfl rfl),
     st_plain rfl (op_len_str _ _ _ Tryd.underlying9 rfl),
     st_plain rfl (op_move _ _ _ _ rfl rfl),
     st_plain rfl (op_len_str _ _ _ Tryd.underlying9 rfl),
     st_plain rfl (op_bin _ _ _ _ _ rfl rfl rfl),
     st_plain rfl (op_move _ _ _ _ (congrArg (fun b => AV.v (Value.bool b)) hg1_5) rfl),
     st_run 5 10 true rfl rfl rfl (List.Mem.head _) (op_move _ _ _ _ rfl rfl),
     st_run 5 10 true rfl rfl rfl (List.Mem.head _) (op_move _ _ _ _ rfl rfl),
     st_run 5 10 true rfl rfl rfl (List.Mem.head _) (op_len_str _ _ _ Tryd.underlying9 rfl),
     st_run 5 10 true rfl rfl rfl (List.Mem.head _) (op_move _ _ _ _ rfl rfl),
     st_run 5 10 true rfl rfl rfl (List.Mem.head _) (op_len_str _ _ _ Tryd.underlying9 rfl),
     st_run 5 10 true rfl rfl rfl (List.Mem.head _) (op_bin _ _ _ _ _ rfl rfl (ibind (f := Value.int .i64) (Option.some.inj hv1))),
     st_run 5 10 true rfl rfl rfl (List.Mem.head _) (op_substr _ _ _ v1 (s.size : Int) _ Tryd.underlying9 rfl ⟨_, rfl⟩ rfl hv2),
     st_run 5 10 true rfl rfl rfl (List.Mem.head _) (op_move _ _ _ _ rfl rfl),
     st_run 5 10 true rfl rfl rfl (List.Mem.head _) (op_bin _ _ _ _ _ rfl rfl rfl),
     st_plain rfl (op_pick _ _ true _ rfl rfl),
     st_plain rfl (op_assign _ _ _ _ rfl rfl),
     trivial⟩ ?_
    exact hl5 _ (Option.some.inj h).symm
   ·refine ht_seqR hn (El := (_ :: _ :: (5, .v (.string s)) :: (6, .v (.int .i64 (s.size : Int))) :: (7, .v (.string suffix)) :: (8, .v (.int .i64 (suffix.size : Int))) :: (9, .v (.bool ((decide ((suffix.size : Int) ≤ (s.size : Int)))))) :: (10, .v (.bool false)) :: (11, .v undef) :: (12, .v undef) :: (13, .v undef) :: (14, .v undef) :: (15, .v undef) :: (16, .v undef) :: (17, .v undef) :: (18, .v undef) :: (19, .v undef) :: (20, .v (.bool false)) :: (4, .v (.bool false)) :: [])) (init := [0, 1]) (fin := [18]) (sps := (⟨[0], [], [2], [(.slot 5)]⟩ :: ⟨[2], [], [3], [(.slot 6)]⟩ :: ⟨[1], [], [4], [(.slot 7)]⟩ :: ⟨[4], [], [5], [(.slot 8)]⟩ :: ⟨[3, 5], [], [6], [(.slot 9)]⟩ :: ⟨[6], [], [7], [(.slot 10)]⟩ :: ⟨[7], [], [8], [(.slot 11)]⟩ :: ⟨[7], [], [9], [(.slot 12)]⟩ :: ⟨[7], [], [10], [(.slot 13)]⟩ :: ⟨[7], [], [11], [(.slot 14)]⟩ :: ⟨[7], [], [12], [(.slot 15)]⟩ :: ⟨[7], [], [13], [(.slot 16)]⟩ :: ⟨[7], [], [14], [(.slot 17)]⟩ :: ⟨[7], [], [15], [(.slot 18)]⟩ :: ⟨[7], [], [16], [(.slot 19)]⟩ :: ⟨[7], [], [17], [(.slot 20)]⟩ :: ⟨[17], [], [18], [(.slot 4)]⟩ :: [])) (es' := [(4, .v (.bool false))]) (by kernel_rfl) rfl rfl
     ⟨st_plain rfl (op_move _ _ _ _ rfl rfl),
     st_plain rfl (op_len_str _ _ _ Tryd.underlying9 rfl),
     st_plain rfl (op_move _ _ _ _ rfl rfl),
     st_plain rfl (op_len_str _ _ _ Tryd.underlying9 rfl),
     st_plain rfl (op_bin _ _ _ _ _ rfl rfl rfl),
     st_plain rfl (op_move _ _ _ _ (congrArg (fun b => AV.v (Value.bool b)) hg1_5) rfl),
     st_skip 5 10 _ true rfl rfl rfl rfl (List.Mem.head _),
     st_skip 5 10 _ true rfl rfl rfl rfl (List.Mem.head _),
     st_skip 5 10 _ true rfl rfl rfl rfl (List.Mem.head _),
     st_skip 5 10 _ true rfl rfl rfl rfl (List.Mem.head _),
     st_skip 5 10 _ true rfl rfl rfl rfl (List.Mem.head _),
     st_skip 5 10 _ true rfl rfl rfl rfl (List.Mem.head _),
     st_skip 5 10 _ true rfl rfl rfl rfl (List.Mem.head _),
     st_skip 5 10 _ true rfl rfl rfl rfl (List.Mem.head _),
     st_skip 5 10 _ true rfl rfl rfl rfl (List.Mem.head _),
     st_plain rfl (op_pick _ _ false _ rfl rfl),
     st_plain rfl (op_assign _ _ _ _ rfl rfl),
     trivial⟩ ?_
    exact hl5 _ (Option.some.inj h).symm

set_option maxHeartbeats 1000000 in
theorem ok_internal_stringslite_CutSuffix (s : ByteArray) (suffix : ByteArray) (r : (ByteArray × Bool)) (h : Sh.internal_stringslite_CutSuffix s suffix = some r) : FnOK Tryd.prog 63 [.v (.string s), .v (.string suffix)] (.tup [.v (.string r.1), .v (.bool r.2)]) := by
  unfold Sh.internal_stringslite_CutSuffix at h
  refine fn_ok Tryd.func63 rfl (Nat.le_of_ble_eq_true rfl) rfl rfl fun g0 hn hio => ?_
  refine ht_seq ?_
  refine ht_seqR hn (El := [_, _, (4, .v (.string (⟨#[]⟩ : ByteArray))), (5, .v (.bool false))]) (init := [0, 1]) (fin := [0, 1]) (sps := [⟨[], [], [2], [(.slot 4)]⟩, ⟨[], [], [3], [(.slot 5)]⟩]) (es' := [(_, _), (_, _)]) (by kernel_rfl) rfl rfl
   ⟨st_plain rfl (op_assign _ _ _ _ rfl rfl),
   st_plain rfl (op_assign _ _ _ _ rfl rfl),
   trivial⟩ ?_
  refine pt_then ?_
  refine ht_seq ?_
  refine ht_seq ?_
  obtain ⟨v1, hv1, h⟩ := bind_some h
  refine ht_seqR hn (El := [_, _, (6, .v (.string s)), (7, .v (.string suffix)), (8, .v (.bool v1)), (9, .v (.bool (!v1)))]) (init := [0, 1]) (fin := [0, 1, 5]) (sps := [⟨[0], [], [2], [(.slot 6)]⟩, ⟨[1], [], [3], [(.slot 7)]⟩, ⟨[2, 3], [], [4], [(.slot 8)]⟩, ⟨[4], [], [5], [(.slot 9)]⟩]) (es' := [(_, _), (_, _), (9, .v (.bool (!v1)))]) (by kernel_rfl) rfl rfl
   ⟨st_plain rfl (op_move _ _ _ _ rfl rfl),
   st_plain rfl (op_move _ _ _ _ rfl rfl),
   st_plain rfl (op_call _ _ 74 _ _ rfl Tryd.call74 rfl (ok_internal_stringslite_HasSuffix s suffix _ hv1) rfl rfl),
   st_plain rfl (op_un _ _ _ _ rfl rfl),
   trivial⟩ ?_
  refine pt_then ?_
  refine ht_cond _ rfl (fun hb2 => ?_) (fun hb2 => ?_)
  ·have h := cond_t hb2 h
   refine ht_seq ?_
   refine ht_seqR hn (El := [_, _, _, (10, .v (.string s)), (4, .v (.string s)), (5, .v (.bool false))]) (init := [0, 1, 2]) (fin := [4, 5]) (sps := [⟨[0], [], [3], [(.slot 10)]⟩, ⟨[3], [], [4], [(.slot 4)]⟩, ⟨[], [], [5], [(.slot 5)]⟩]) (es' := [(4, .v (.string s)), (5, .v (.bool false))]) (by kernel_rfl) rfl rfl
    ⟨st_plain rfl (op_move _ _ _ _ rfl rfl),
    st_plain rfl (op_assign _ _ _ _ rfl rfl),
    st_plain rfl (op_assign _ _ _ _ rfl rfl),
    trivial⟩ ?_
   refine pt_then ?_
   refine ht_ret ?_
   refine pt_r_then ?_
   obtain rfl := Option.some.inj h
   exact pt_ret hio rfl (.tmp _ _ (.tmp _ _ .nil)) rfl rfl
  ·have h := cond_f hb2 h
   refine ht_skip ?_
   refine pt_then ?_
   refine ht_seq ?_
   obtain ⟨v3, hv3, h⟩ := bind_some h
   obtain ⟨v4, hv4, h⟩ := bind_some h
   refine ht_seqR hn (El := [_, _, _, (11, .v (.string s)), (12, .v (.string s)), (13, .v (.int .i64 (s.size : Int))), (14, .v (.string suffix)), (15, .v (.int .i64 (suffix.size : Int))), (16, .v (.int .i64 v3)), (17, .v (.string v4)), (4, .v (.string v4)), (5, .v (.bool true))]) (init := [0, 1, 2]) (fin := [10, 11]) (sps := [⟨[0], [], [3], [(.slot 11)]⟩, ⟨[0], [], [4], [(.slot 12)]⟩, ⟨[4], [], [5], [(.slot 13)]⟩, ⟨[1], [], [6], [(.slot 14)]⟩, ⟨[6], [], [7], [(.slot 15)]⟩, ⟨[5, 7], [], [8], [(.slot 16)]⟩, ⟨[3, 8], [], [9], [(.slot 17)]⟩, ⟨[9], [], [10], [(.slot 4)]⟩, ⟨[], [], [11], [(.slot 5)]⟩]) (es' := [(4, .v (.string v4)), (5, .v (.bool true))]) (by kernel_rfl) rfl rfl
    ⟨st_plain rfl (op_move _ _ _ _ rfl rfl),
    st_plain rfl (op_move _ _ _ _ rfl rfl),
    st_plain rfl (op_len_str _ _ _ Tryd.underlying9 rfl),
    st_plain rfl (op_move _ _ _ _ rfl rfl),
    st_plain rfl (op_len_str _ _ _ Tryd.underlying9 rfl),
    st_plain rfl (op_bin _ _ _ _ _ rfl rfl (ibind (f := Value.int .i64) (Option.some.inj hv3))),
    st_plain rfl (op_substr _ _ _ 0 v3 _ Tryd.underlying9 rfl rfl ⟨_, rfl⟩ hv4),
    st_plain rfl (op_assign _ _ _ _ rfl rfl),
    st_plain rfl (op_assign _ _ _ _ rfl rfl),
    trivial⟩ ?_
   refine pt_then ?_
   refine ht_ret ?_
   obtain rfl := Option.some.inj h
   exact pt_ret hio rfl (.tmp _ _ (.tmp _ _ .nil)) rfl rfl

set_option maxHeartbeats 1000000 in
theorem ok_strings_CutSuffix (s : ByteArray) (suffix : ByteArray) (r : (ByteArray × Bool)) (h : Sh.strings_CutSuffix s suffix = some r) : FnOK Tryd.prog 52 [.v (.string s), .v (.string suffix)] (.tup [.v (.string r.1), .v (.bool r.2)]) := by
  unfold Sh.strings_CutSuffix at h
  refine fn_ok Tryd.func52 rfl (Nat.le_of_ble_eq_true rfl) rfl rfl fun g0 hn hio => ?_
  refine ht_seq ?_
  refine ht_seqR hn (El := [_, _, (4, .v (.string (⟨#[]⟩ : ByteArray))), (5, .v (.bool false))]) (init := [0, 1]) (fin := [0, 1]) (sps := [⟨[], [], [2], [(.slot 4)]⟩, ⟨[], [], [3], [(.slot 5)]⟩]) (es' := [(_, _), (_, _)]) (by kernel_rfl) rfl rfl
   ⟨st_plain rfl (op_assign _ _ _ _ rfl rfl),
   st_plain rfl (op_assign _ _ _ _ rfl rfl),
   trivial⟩ ?_
  refine pt_then ?_
  refine ht_seq ?_
  obtain ⟨v1, hv1, h⟩ := bind_some h
  refine ht_seqR hn (El := [_, _, (6, .v (.string s)), (7, .v (.string suffix)), (8, .tup [.v (.string v1.1), .v (.bool v1.2)]), (9, .v (.string v1.1)), (10, .v (.bool v1.2)), (4, .v (.string v1.1)), (5, .v (.bool v1.2))]) (init := [0, 1]) (fin := [7, 8]) (sps := [⟨[0], [], [2], [(.slot 6)]⟩, ⟨[1], [], [3], [(.slot 7)]⟩, ⟨[2, 3], [], [4], [(.slot 8)]⟩, ⟨[4], [], [5], [(.slot 9)]⟩, ⟨[4], [], [6], [(.slot 10)]⟩, ⟨[5], [], [7], [(.slot 4)]⟩, ⟨[6], [], [8], [(.slot 5)]⟩]) (es' := [(4, .v (.string v1.1)), (5, .v (.bool v1.2))]) (by kernel_rfl) rfl rfl
   ⟨st_plain rfl (op_move _ _ _ _ rfl rfl),
   st_plain rfl (op_move _ _ _ _ rfl rfl),
   st_plain rfl (op_call _ _ 63 _ _ rfl Tryd.call63 rfl (ok_internal_stringslite_CutSuffix s suffix _ hv1) rfl rfl),
   st_plain rfl (op_extract _ _ _ _ _ rfl rfl (Nat.le_of_ble_eq_true rfl) rfl rfl),
   st_plain rfl (op_extract _ _ _ _ _ rfl rfl (Nat.le_of_ble_eq_true rfl) rfl rfl),
   st_plain rfl (op_assign _ _ _ _ rfl rfl),
   st_plain rfl (op_assign _ _ _ _ rfl rfl),
   trivial⟩ ?_
  refine pt_then ?_
  refine ht_ret ?_
  obtain rfl := Option.some.inj h
  exact pt_ret hio rfl (.tmp _ _ (.tmp _ _ .nil)) rfl rfl

set_option maxHeartbeats 1000000 in
theorem ok_path_Parse (mx : Int) (s : ByteArray) (r : (T_Path × Int)) (h : Sh.path_Parse s = some r) : FnG Tryd.prog (GL mx) 42 [.v (.string s)] (.tup [.agg [.v (.bool r.1.Null), .v (.string r.1.Local), .v (.string r.1.Domain)], .v (.int .i64 r.2)]) := by
  unfold Sh.path_Parse at h
  refine fn_okG Tryd.func42 rfl (Nat.le_of_ble_eq_true rfl) rfl rfl fun g0 hn hio => ?_
  refine ht_seq ?_
  refine ht_seqR hn (El := [_, _, (2, .box 23 [.v (.bool false), .v (.string (⟨#[]⟩ : ByteArray)), .v (.string (⟨#[]⟩ : ByteArray))]), (3, .v (.int .i64 0))]) (init := [0, 1]) (fin := [0, 1, 2]) (sps := [⟨[], [], [2], [(.slot 2)]⟩, ⟨[], [], [3], [(.slot 3)]⟩]) (es' := [(_, _), (_, _), (2, .box 23 [.v (.bool false), .v (.string (⟨#[]⟩ : ByteArray)), .v (.string (⟨#[]⟩ : ByteArray))])]) (by kernel_rfl) rfl rfl
   ⟨st_plain rfl (op_alloc _ _ zr23),
   st_plain rfl (op_assign _ _ _ _ rfl rfl),
   trivial⟩ ?_
  refine pt_then ?_
  refine ht_seq ?_
  refine ht_seq ?_
  refine ht_seqR hn (El := [_, _, _, (11, .v (.string s)), (12, .v (.bool ((s.toList == (⟨#[60, 62]⟩ : ByteArray).toList))))]) (init := [0, 1, 2]) (fin := [0, 1, 2, 4]) (sps := [⟨[0], [], [3], [(.slot 11)]⟩, ⟨[3], [], [4], [(.slot 12)]⟩]) (es' := [(_, _), (_, _), (_, _), (12, .v (.bool ((s.toList == (⟨#[60, 62]⟩ : ByteArray).toList))))]) (by kernel_rfl) rfl rfl
   ⟨st_plain rfl (op_move _ _ _ _ rfl rfl),
   st_plain rfl (op_bin _ _ _ _ _ rfl rfl rfl),
   trivial⟩ ?_
  refine pt_then ?_
  refine ht_cond _ rfl (fun hb1 => ?_) (fun hb1 => ?_)
  ·have h := cond_t hb1 h
   refine ht_seq ?_
   refine ht_seqR hn (El := [_, _, _, _, (13, .agg [.v (.bool true), .v (.string (⟨#[]⟩ : ByteArray)), .v (.string (⟨#[]⟩ : ByteArray))]), (2, .box 23 [.v (.bool true), .v (.string (⟨#[]⟩ : ByteArray)), .v (.string (⟨#[]⟩ : ByteArray))]), (3, .v (.int .i64 0))]) (init := [0, 1, 2, 3]) (fin := [1, 5, 6]) (sps := [⟨[], [], [4], [(.slot 13)]⟩, ⟨[4], [2], [5], [.cell 2 0, .cell 2 1, .cell 2 2]⟩, ⟨[], [], [6], [(.slot 3)]⟩]) (es' := [(_, _), (2, .box 23 [.v (.bool true), .v (.string (⟨#[]⟩ : ByteArray)), .v (.string (⟨#[]⟩ : ByteArray))]), (3, .v (.int .i64 0))]) (by kernel_rfl) rfl rfl
    ⟨st_plain rfl (op_build _ _ _ _ [1, 1, 1] _ _ Tryd.underlying23 zr23 (fs23 _ Tryd.underlying23) (.copy _ Src.nil) rfl rfl rfl),
    st_plain rfl (op_store _ _ _ _ _ _ _ _ sz23 rfl rfl rfl rfl (Nat.le_of_ble_eq_true rfl) rfl rfl),
    st_plain rfl (op_assign _ _ _ _ rfl rfl),
    trivial⟩ ?_
   refine pt_then ?_
   refine ht_ret ?_
   refine pt_pick [1, 2] (by kernel_rfl) (es' := [(_, _), (_, _)]) rfl ?_
   refine pt_r_then ?_
   obtain rfl := Option.some.inj h
   exact pt_ret hio rfl (.cellA _ _ _ _ Tryd.underlying23 rfl sz23 (.tmp _ _ .nil)) rfl rfl
  ·have h := cond_f hb1 h
   refine ht_skip ?_
   refine pt_then ?_
   refine ht_seq ?_
   obtain ⟨v2, hv2, h⟩ := bind_some h
   refine ht_seqR hn (El := [_, _, _, _, (15, .v (.string s)), (16, .tup [.v (.string v2.1), .v (.bool v2.2)]), (14, .tup [.v (.string v2.1), .v (.bool v2.2)]), (17, .v (.string v2.1)), (18, .v (.bool v2.2)), (4, .v (.string v2.1)), (5, .v (.bool v2.2))]) (init := [0, 1, 2, 3]) (fin := [1, 2, 9, 10]) (sps := [⟨[0], [], [4], [(.slot 15)]⟩, ⟨[4], [], [5], [(.slot 16)]⟩, ⟨[], [5], [6], [(.slot 14)]⟩, ⟨[6], [], [7], [(.slot 17)]⟩, ⟨[6], [], [8], [(.slot 18)]⟩, ⟨[7], [], [9], [(.slot 4)]⟩, ⟨[8], [], [10], [(.slot 5)]⟩]) (es' := [(_, _), (_, _), (4, .v (.string v2.1)), (5, .v (.bool v2.2))]) (by kernel_rfl) rfl rfl
    ⟨st_plain rfl (op_move _ _ _ _ rfl rfl),
    st_plain rfl (op_call _ _ 51 _ _ rfl Tryd.call51 rfl (ok_strings_CutPrefix s (⟨#[60]⟩ : ByteArray) _ hv2) rfl rfl),
    st_plain rfl (op_move_take _ _ _ _ rfl),
    st_plain rfl (op_extract _ _ _ _ _ rfl rfl (Nat.le_of_ble_eq_true rfl) rfl rfl),
    st_plain rfl (op_extract _ _ _ _ _ rfl rfl (Nat.le_of_ble_eq_true rfl) rfl rfl),
    st_plain rfl (op_assign _ _ _ _ rfl rfl),
    st_plain rfl (op_assign _ _ _ _ rfl rfl),
    trivial⟩ ?_
   refine pt_then ?_
   refine ht_seq ?_
   obtain ⟨v3, hv3, h⟩ := bind_some h
   refine ht_seqR hn (El := [_, _, _, _, (20, .v (.string v2.1)), (21, .tup [.v (.string v3.1), .v (.bool v3.2)]), (19, .tup [.v (.string v3.1), .v (.bool v3.2)]), (22, .v (.string v3.1)), (23, .v (.bool v3.2)), (4, .v (.string v3.1)), (6, .v (.bool v3.2))]) (init := [0, 1, 2, 3]) (fin := [0, 1, 3, 9, 10]) (sps := [⟨[2], [], [4], [(.slot 20)]⟩, ⟨[4], [], [5], [(.slot 21)]⟩, ⟨[], [5], [6], [(.slot 19)]⟩, ⟨[6], [], [7], [(.slot 22)]⟩, ⟨[6], [], [8], [(.slot 23)]⟩, ⟨[7], [2], [9], [(.slot 4)]⟩, ⟨[8], [], [10], [(.slot 6)]⟩]) (es' := [(_, _), (_, _), (_, _), (4, .v (.string v3.1)), (6, .v (.bool v3.2))]) (by kernel_rfl) rfl rfl
    ⟨st_plain rfl (op_move _ _ _ _ rfl rfl),
    st_plain rfl (op_call _ _ 52 _ _ rfl Tryd.call52 rfl (ok_strings_CutSuffix v2.1 (⟨#[62]⟩ : ByteArray) _ hv3) rfl rfl),
    st_plain rfl (op_move_take _ _ _ _ rfl),
    st_plain rfl (op_extract _ _ _ _ _ rfl rfl (Nat.le_of_ble_eq_true rfl) rfl rfl),
    st_plain rfl (op_extract _ _ _ _ _ rfl rfl (Nat.le_of_ble_eq_true rfl) rfl rfl),
    st_plain rfl (LOp.drop [_] (op_assign _ _ _ _ rfl rfl)),
    st_plain rfl (op_assign _ _ _ _ rfl rfl),
    trivial⟩ ?_
   refine pt_then ?_
   refine ht_seq ?_
   obtain ⟨v4, hv4, h⟩ := bind_some h
   refine ht_seqR hn (El := [_, _, _, _, _, (25, .v (.string v3.1)), (26, .tup [.v (.string v4.1), .v (.string v4.2.1), .v (.bool v4.2.2)]), (24, .tup [.v (.string v4.1), .v (.string v4.2.1), .v (.bool v4.2.2)]), (27, .v (.string v4.1)), (28, .v (.string v4.2.1)), (29, .v (.bool v4.2.2)), (7, .v (.string v4.1)), (8, .v (.string v4.2.1)), (9, .v (.bool v4.2.2))]) (init := [0, 1, 2, 3, 4]) (fin := [0, 1, 2, 4, 11, 12, 13]) (sps := [⟨[3], [], [5], [(.slot 25)]⟩, ⟨[5], [], [6], [(.slot 26)]⟩, ⟨[], [6], [7], [(.slot 24)]⟩, ⟨[7], [], [8], [(.slot 27)]⟩, ⟨[7], [], [9], [(.slot 28)]⟩, ⟨[7], [], [10], [(.slot 29)]⟩, ⟨[8], [], [11], [(.slot 7)]⟩, ⟨[9], [], [12], [(.slot 8)]⟩, ⟨[10], [], [13], [(.slot 9)]⟩]) (es' := [(_, _), (_, _), (_, _), (_, _), (7, .v (.string v4.1)), (8, .v (.string v4.2.1)), (9, .v (.bool v4.2.2))]) (by kernel_rfl) rfl rfl
    ⟨st_plain rfl (op_move _ _ _ _ rfl rfl),
    st_plain rfl (op_call _ _ 30 _ _ rfl Tryd.call30 rfl (ok_strings_Cut v3.1 (⟨#[64]⟩ : ByteArray) _ hv4) rfl rfl),
    st_plain rfl (op_move_take _ _ _ _ rfl),
    st_plain rfl (op_extract _ _ _ _ _ rfl rfl (Nat.le_of_ble_eq_true rfl) rfl rfl),
    st_plain rfl (op_extract _ _ _ _ _ rfl rfl (Nat.le_of_ble_eq_true rfl) rfl rfl),
    st_plain rfl (op_extract _ _ _ _ _ rfl rfl (Nat.le_of_ble_eq_true rfl) rfl rfl),
    st_plain rfl (op_assign _ _ _ _ rfl rfl),
    st_plain rfl (op_assign _ _ _ _ rfl rfl),
    st_plain rfl (op_assign _ _ _ _ rfl rfl),
    trivial⟩ ?_
   refine pt_then ?_
   refine ht_seq ?_
   refine ht_seqR hn (El := [_, _, _, _, _, _, _, (30, .v (.string v4.1)), (31, .v (.string v4.2.1)), (32, .agg [.v (.bool false), .v (.string v4.1), .v (.string v4.2.1)]), (10, .box 23 [.v (.bool false), .v (.string (⟨#[]⟩ : ByteArray)), .v (.string (⟨#[]⟩ : ByteArray))]), (10, .box 23 [.v (.bool false), .v (.string v4.1), .v (.string v4.2.1)])]) (init := [0, 1, 2, 3, 4, 5, 6]) (fin := [0, 1, 2, 3, 6, 11]) (sps := [⟨[4], [], [7], [(.slot 30)]⟩, ⟨[5], [], [8], [(.slot 31)]⟩, ⟨[7, 8], [], [9], [(.slot 32)]⟩, ⟨[], [], [10], [(.slot 10)]⟩, ⟨[9], [10], [11], [.cell 10 0, .cell 10 1, .cell 10 2]⟩]) (es' := [(_, _), (_, _), (_, _), (_, _), (_, _), (10, .box 23 [.v (.bool false), .v (.string v4.1), .v (.string v4.2.1)])]) (by kernel_rfl) rfl rfl
    ⟨st_plain rfl (op_move _ _ _ _ rfl rfl),
    st_plain rfl (op_move _ _ _ _ rfl rfl),
    st_plain rfl (op_build _ _ _ _ [1, 1, 1] _ _ Tryd.underlying23 zr23 (fs23 _ Tryd.underlying23) (.copy _ (.copy _ Src.nil)) rfl rfl rfl),
    st_plain rfl (op_alloc _ _ zr23),
    st_plain rfl (op_store _ _ _ _ _ _ _ _ sz23 rfl rfl rfl rfl (Nat.le_of_ble_eq_true rfl) rfl rfl),
    trivial⟩ ?_
   refine pt_then ?_
   refine ht_seq ?_
   refine ht_seq ?_
   refine ht_joinS h (fun (s6 : Bool) => [(50, .glob (GL mx)), (2, .box 23 [.v (.bool false), .v (.string (⟨#[]⟩ : ByteArray)), .v (.string (⟨#[]⟩ : ByteArray))]), (10, .box 23 [.v (.bool false), .v (.string v4.1), .v (.string v4.2.1)]), (47, .v (.bool s6))]) ?_ ?_
   ·rintro s6 h
    refine pt_then ?_
    refine ht_cond _ rfl (fun hb10 => ?_) (fun hb10 => ?_)
    ·have h := cond_t hb10 h
     refine ht_seq ?_
     refine ht_seqR hn (El := [_, _, _, _, (48, .agg [.v (.bool false), .v (.string (⟨#[]⟩ : ByteArray)), .v (.string (⟨#[]⟩ : ByteArray))]), (2, .box 23 [.v (.bool false), .v (.string (⟨#[]⟩ : ByteArray)), .v (.string (⟨#[]⟩ : ByteArray))]), (3, .v (.int .i64 5))]) (init := [0, 1, 2, 3]) (fin := [0, 5, 6]) (sps := [⟨[], [], [4], [(.slot 48)]⟩, ⟨[], [4, 1], [5], [.cell 2 0, .cell 2 1, .cell 2 2]⟩, ⟨[], [], [6], [(.slot 3)]⟩]) (es' := [(_, _), (2, .box 23 [.v (.bool false), .v (.string (⟨#[]⟩ : ByteArray)), .v (.string (⟨#[]⟩ : ByteArray))]), (3, .v (.int .i64 5))]) (by kernel_rfl) rfl rfl
      ⟨st_plain rfl (op_build _ _ _ _ [1, 1, 1] _ _ Tryd.underlying23 zr23 (fs23 _ Tryd.underlying23) Src.nil rfl rfl rfl),
      st_plain rfl (op_store_self _ _ _ 48 2 3 sz23 rfl rfl rfl rfl rfl (.eq _ (.eq _ (.eq _ (.nil _)))) rfl),
      st_plain rfl (op_assign _ _ _ _ rfl rfl),
      trivial⟩ ?_
     refine pt_then ?_
     refine ht_ret ?_
     refine pt_pick [1, 2] (by kernel_rfl) (es' := [(_, _), (_, _)]) rfl ?_
     refine pt_r_then ?_
     obtain rfl := Option.some.inj h
     exact pt_ret hio rfl (.cellA _ _ _ _ Tryd.underlying23 rfl sz23 (.tmp _ _ .nil)) rfl rfl
    ·have h := cond_f hb10 h
     refine ht_skip ?_
     refine pt_then ?_
     refine ht_seq ?_
     refine ht_seqR hn (El := [_, _, _, _, (49, .agg [.v (.bool false), .v (.string v4.1), .v (.string v4.2.1)]), (2, .box 23 [.v (.bool false), .v (.string v4.1), .v (.string v4.2.1)]), (3, .v (.int .i64 0))]) (init := [0, 1, 2, 3]) (fin := [0, 5, 6]) (sps := [⟨[2], [], [4], [(.slot 49)]⟩, ⟨[4], [1], [5], [.cell 2 0, .cell 2 1, .cell 2 2]⟩, ⟨[], [], [6], [(.slot 3)]⟩]) (es' := [(_, _), (2, .box 23 [.v (.bool false), .v (.string v4.1), .v (.string v4.2.1)]), (3, .v (.int .i64 0))]) (by kernel_rfl) rfl rfl
      ⟨st_plain rfl (op_loadA _ _ _ _ _ _ _ Tryd.underlying23 rfl sz23 rfl rfl (Nat.le_of_ble_eq_true rfl) rfl rfl),
      st_plain rfl (op_store _ _ _ _ _ _ _ _ sz23 rfl rfl rfl rfl (Nat.le_of_ble_eq_true rfl) rfl rfl),
      st_plain rfl (op_assign _ _ _ _ rfl rfl),
      trivial⟩ ?_
     refine pt_then ?_
     refine ht_ret ?_
     refine pt_pick [1, 2] (by kernel_rfl) (es' := [(_, _), (_, _)]) rfl ?_
     obtain rfl := Option.some.inj h
     exact pt_ret hio rfl (.cellA _ _ _ _ Tryd.underlying23 rfl sz23 (.tmp _ _ .nil)) rfl rfl
   ·intro u7 h hl8 hr9
    refine cond_some h (fun hg7_2 h => ?_) (fun hg7_2 h => ?_)
    ·refine ht_seqR hn (El := (_ :: _ :: _ :: _ :: _ :: _ :: (33, .v (.bool v2.2)) :: (34, .v (.bool (!v2.2))) :: (35, .v (.bool true)) :: (36, .v undef) :: (37, .v undef) :: (38, .v (.bool true)) :: (39, .v (.bool true)) :: (40, .v undef) :: (41, .v undef) :: (42, .v (.bool true)) :: (43, .v (.bool true)) :: (44, .v undef) :: (45, .v undef) :: (46, .v undef) :: (47, .v (.bool true)) :: [])) (init := [0, 1, 2, 3, 4, 5]) (fin := [0, 1, 5, 20]) (sps := (⟨[2], [], [6], [(.slot 33)]⟩ :: ⟨[6], [], [7], [(.slot 34)]⟩ :: ⟨[7], [], [8], [(.slot 35)]⟩ :: ⟨[8], [], [9], [(.slot 36)]⟩ :: ⟨[8], [], [10], [(.slot 37)]⟩ :: ⟨[8], [], [11], [(.slot 38)]⟩ :: ⟨[11], [], [12], [(.slot 39)]⟩ :: ⟨[12], [], [13], [(.slot 40)]⟩ :: ⟨[12], [], [14], [(.slot 41)]⟩ :: ⟨[12], [], [15], [(.slot 42)]⟩ :: ⟨[15], [], [16], [(.slot 43)]⟩ :: ⟨[16], [], [17], [(.slot 44)]⟩ :: ⟨[16], [], [18], [(.slot 45)]⟩ :: ⟨[16], [], [19], [(.slot 46)]⟩ :: ⟨[16], [], [20], [(.slot 47)]⟩ :: [])) (es' := [(_, _), (_, _), (_, _), (47, .v (.bool true))]) (by kernel_rfl) rfl rfl
      ⟨st_plain rfl (op_move _ _ _ _ rfl rfl),
      st_plain rfl (op_un _ _ _ _ rfl rfl),
      st_plain rfl (op_move _ _ _ _ (congrArg (fun b => AV.v (Value.bool b)) hg7_2) rfl),
      st_skip 2 35 _ false rfl rfl rfl rfl (List.Mem.head _),
      st_skip 2 35 _ false rfl rfl rfl rfl (List.Mem.head _),
      st_plain rfl (op_pick _ _ true _ rfl rfl),
      st_plain rfl (op_move _ _ _ _ rfl rfl),
      st_skip 6 39 _ false rfl rfl rfl rfl (List.Mem.head _),
      st_skip 6 39 _ false rfl rfl rfl rfl (List.Mem.head _),
      st_plain rfl (op_pick _ _ true _ rfl rfl),
      st_plain rfl (op_move _ _ _ _ rfl rfl),
      st_skip 10 43 _ false rfl rfl rfl rfl (List.Mem.head _),
      st_skip 10 43 _ false rfl rfl rfl rfl (List.Mem.head _),
      st_skip 10 43 _ false rfl rfl rfl rfl (List.Mem.head _),
      st_plain rfl (op_pick _ _ true _ rfl rfl),
      trivial⟩ ?_
     exact hl8 _ (Option.some.inj h).symm
    ·refine cond_some h (fun hg7_6 h => ?_) (fun hg7_6 h => ?_)
     ·refine ht_seqR hn (El := (_ :: _ :: _ :: _ :: _ :: _ :: (33, .v (.bool v2.2)) :: (34, .v (.bool (!v2.2))) :: (35, .v (.bool false)) :: (36, .v (.bool v3.2)) :: (37, .v (.bool (!v3.2))) :: (38, .v (.bool (!v3.2))) :: (39, .v (.bool true)) :: (40, .v undef) :: (41, .v undef) :: (42, .v (.bool true)) :: (43, .v (.bool true)) :: (44, .v undef) :: (45, .v undef) :: (46, .v undef) :: (47, .v (.bool true)) :: [])) (init := [0, 1, 2, 3, 4, 5]) (fin := [0, 1, 5, 20]) (sps := (⟨[2], [], [6], [(.slot 33)]⟩ :: ⟨[6], [], [7], [(.slot 34)]⟩ :: ⟨[7], [], [8], [(.slot 35)]⟩ :: ⟨[8, 3], [], [9], [(.slot 36)]⟩ :: ⟨[8, 9], [], [10], [(.slot 37)]⟩ :: ⟨[8, 10], [], [11], [(.slot 38)]⟩ :: ⟨[11], [], [12], [(.slot 39)]⟩ :: ⟨[12], [], [13], [(.slot 40)]⟩ :: ⟨[12], [], [14], [(.slot 41)]⟩ :: ⟨[12], [], [15], [(.slot 42)]⟩ :: ⟨[15], [], [16], [(.slot 43)]⟩ :: ⟨[16], [], [17], [(.slot 44)]⟩ :: ⟨[16], [], [18], [(.slot 45)]⟩ :: ⟨[16], [], [19], [(.slot 46)]⟩ :: ⟨[16], [], [20], [(.slot 47)]⟩ :: [])) (es' := [(_, _), (_, _), (_, _), (47, .v (.bool true))]) (by kernel_rfl) rfl rfl
       ⟨st_plain rfl (op_move _ _ _ _ rfl rfl),
       st_plain rfl (op_un _ _ _ _ rfl rfl),
       st_plain rfl (op_move _ _ _ _ (congrArg (fun b => AV.v (Value.bool b)) hg7_2) rfl),
       st_run 2 35 false rfl rfl rfl (List.Mem.head _) (op_move _ _ _ _ rfl rfl),
       st_run 2 35 false rfl rfl rfl (List.Mem.head _) (op_un _ _ _ _ rfl rfl),
       st_plain rfl (op_pick _ _ false _ rfl rfl),
       st_plain rfl (op_move _ _ _ _ (congrArg (fun b => AV.v (Value.bool b)) hg7_6) rfl),
       st_skip 6 39 _ false rfl rfl rfl rfl (List.Mem.head _),
       st_skip 6 39 _ false rfl rfl rfl rfl (List.Mem.head _),
       st_plain rfl (op_pick _ _ true _ rfl rfl),
       st_plain rfl (op_move _ _ _ _ rfl rfl),
       st_skip 10 43 _ false rfl rfl rfl rfl (List.Mem.head _),
       st_skip 10 43 _ false rfl rfl rfl rfl (List.Mem.head _),
       st_skip 10 43 _ false rfl rfl rfl rfl (List.Mem.head _),
       st_plain rfl (op_pick _ _ true _ rfl rfl),
       trivial⟩ ?_
      exact hl8 _ (Option.some.inj h).symm
     ·refine cond_some h (fun hg7_10 h => ?_) (fun hg7_10 h => ?_)
      ·refine ht_seqR hn (El := (_ :: _ :: _ :: _ :: _ :: _ :: (33, .v (.bool v2.2)) :: (34, .v (.bool (!v2.2))) :: (35, .v (.bool false)) :: (36, .v (.bool v3.2)) :: (37, .v (.bool (!v3.2))) :: (38, .v (.bool (!v3.2))) :: (39, .v (.bool false)) :: (40, .v (.bool v4.2.2)) :: (41, .v (.bool (!v4.2.2))) :: (42, .v (.bool (!v4.2.2))) :: (43, .v (.bool true)) :: (44, .v undef) :: (45, .v undef) :: (46, .v undef) :: (47, .v (.bool true)) :: [])) (init := [0, 1, 2, 3, 4, 5]) (fin := [0, 1, 5, 20]) (sps := (⟨[2], [], [6], [(.slot 33)]⟩ :: ⟨[6], [], [7], [(.slot 34)]⟩ :: ⟨[7], [], [8], [(.slot 35)]⟩ :: ⟨[8, 3], [], [9], [(.slot 36)]⟩ :: ⟨[8, 9], [], [10], [(.slot 37)]⟩ :: ⟨[8, 10], [], [11], [(.slot 38)]⟩ :: ⟨[11], [], [12], [(.slot 39)]⟩ :: ⟨[12, 4], [], [13], [(.slot 40)]⟩ :: ⟨[12, 13], [], [14], [(.slot 41)]⟩ :: ⟨[12, 14], [], [15], [(.slot 42)]⟩ :: ⟨[15], [], [16], [(.slot 43)]⟩ :: ⟨[16], [], [17], [(.slot 44)]⟩ :: ⟨[16], [], [18], [(.slot 45)]⟩ :: ⟨[16], [], [19], [(.slot 46)]⟩ :: ⟨[16], [], [20], [(.slot 47)]⟩ :: [])) (es' := [(_, _), (_, _), (_, _), (47, .v (.bool true))]) (by kernel_rfl) rfl rfl
        ⟨st_plain rfl (op_move _ _ _ _ rfl rfl),
        st_plain rfl (op_un _ _ _ _ rfl rfl),
        st_plain rfl (op_move _ _ _ _ (congrArg (fun b => AV.v (Value.bool b)) hg7_2) rfl),
        st_run 2 35 false rfl rfl rfl (List.Mem.head _) (op_move _ _ _ _ rfl rfl),
        st_run 2 35 false rfl rfl rfl (List.Mem.head _) (op_un _ _ _ _ rfl rfl),
        st_plain rfl (op_pick _ _ false _ rfl rfl),
        st_plain rfl (op_move _ _ _ _ (congrArg (fun b => AV.v (Value.bool b)) hg7_6) rfl),
        st_run 6 39 false rfl rfl rfl (List.Mem.head _) (op_move _ _ _ _ rfl rfl),
        st_run 6 39 false rfl rfl rfl (List.Mem.head _) (op_un _ _ _ _ rfl rfl),
        st_plain rfl (op_pick _ _ false _ rfl rfl),
        st_plain rfl (op_move _ _ _ _ (congrArg (fun b => AV.v (Value.bool b)) hg7_10) rfl),
        st_skip 10 43 _ false rfl rfl rfl rfl (List.Mem.head _),
        st_skip 10 43 _ false rfl rfl rfl rfl (List.Mem.head _),
        st_skip 10 43 _ false rfl rfl rfl rfl (List.Mem.head _),
        st_plain rfl (op_pick _ _ true _ rfl rfl),
        trivial⟩ ?_
       exact hl8 _ (Option.some.inj h).symm
      ·obtain ⟨v5, hv5, h⟩ := bind_some h
       refine ht_seqR hn (El := (_ :: _ :: _ :: _ :: _ :: _ :: (33, .v (.bool v2.2)) :: (34, .v (.bool (!v2.2))) :: (35, .v (.bool false)) :: (36, .v (.bool v3.2)) :: (37, .v (.bool (!v3.2))) :: (38, .v (.bool (!v3.2))) :: (39, .v (.bool false)) :: (40, .v (.bool v4.2.2)) :: (41, .v (.bool (!v4.2.2))) :: (42, .v (.bool (!v4.2.2))) :: (43, .v (.bool false)) :: (44, .agg [.v (.bool false), .v (.string v4.1), .v (.string v4.2.1)]) :: (45, .v (.int .i64 v5)) :: (46, .v (.bool (v5 != 0))) :: (47, .v (.bool (v5 != 0))) :: [])) (init := [0, 1, 2, 3, 4, 5]) (fin := [0, 1, 5, 20]) (sps := (⟨[2], [], [6], [(.slot 33)]⟩ :: ⟨[6], [], [7], [(.slot 34)]⟩ :: ⟨[7], [], [8], [(.slot 35)]⟩ :: ⟨[8, 3], [], [9], [(.slot 36)]⟩ :: ⟨[8, 9], [], [10], [(.slot 37)]⟩ :: ⟨[8, 10], [], [11], [(.slot 38)]⟩ :: ⟨[11], [], [12], [(.slot 39)]⟩ :: ⟨[12, 4], [], [13], [(.slot 40)]⟩ :: ⟨[12, 13], [], [14], [(.slot 41)]⟩ :: ⟨[12, 14], [], [15], [(.slot 42)]⟩ :: ⟨[15], [], [16], [(.slot 43)]⟩ :: ⟨[16, 5], [], [17], [(.slot 44)]⟩ :: ⟨[16, 17, 0], [], [18], [(.slot 45)]⟩ :: ⟨[16, 18], [], [19], [(.slot 46)]⟩ :: ⟨[16, 19], [], [20], [(.slot 47)]⟩ :: [])) (es' := [(_, _), (_, _), (_, _), (47, .v (.bool (v5 != 0)))]) (by kernel_rfl) rfl rfl
        ⟨st_plain rfl (op_move _ _ _ _ rfl rfl),
        st_plain rfl (op_un _ _ _ _ rfl rfl),
        st_plain rfl (op_move _ _ _ _ (congrArg (fun b => AV.v (Value.bool b)) hg7_2) rfl),
        st_run 2 35 false rfl rfl rfl (List.Mem.head _) (op_move _ _ _ _ rfl rfl),
        st_run 2 35 false rfl rfl rfl (List.Mem.head _) (op_un _ _ _ _ rfl rfl),
        st_plain rfl (op_pick _ _ false _ rfl rfl),
        st_plain rfl (op_move _ _ _ _ (congrArg (fun b => AV.v (Value.bool b)) hg7_6) rfl),
        st_run 6 39 false rfl rfl rfl (List.Mem.head _) (op_move _ _ _ _ rfl rfl),
        st_run 6 39 false rfl rfl rfl (List.Mem.head _) (op_un _ _ _ _ rfl rfl),
        st_plain rfl (op_pick _ _ false _ rfl rfl),
        st_plain rfl (op_move _ _ _ _ (congrArg (fun b => AV.v (Value.bool b)) hg7_10) rfl),
        st_run 10 43 false rfl rfl rfl (List.Mem.head _) (op_loadA _ _ _ _ _ _ _ Tryd.underlying23 rfl sz23 rfl rfl (Nat.le_of_ble_eq_true rfl) rfl rfl),
        st_run 10 43 false rfl rfl rfl (List.Mem.head _) (op_callG _ _ 50 36 _ _ rfl Tryd.call36 rfl rfl (fun _ h => h) (ok_path_Check mx (T_Path.mk false v4.1 v4.2.1) _ hv5) rfl rfl),
        st_run 10 43 false rfl rfl rfl (List.Mem.head _) (op_bin _ _ _ _ _ rfl rfl rfl),
        st_plain rfl (op_pick _ _ false _ rfl rfl),
        trivial⟩ ?_
       exact hl8 _ (Option.some.inj h).symm

theorem ok_strconv_Atoi (s : ByteArray) (r : Int × Unit) (h : Sh.strconv_Atoi s = some r) : FnOK Tryd.prog 75 [.v (.string s)] (.tup [.v (.int .i64 r.1), .v .nilIface]) := lib_strconv_Atoi (fun s n w h1 h2 => Tryd.strconv_Atoi s n h1 h2 w) s r h

set_option maxHeartbeats 1000000 in
theorem ok_number_Parse (s : ByteArray) (digits : Int) (r : (Int × Bool)) (h : Sh.number_Parse s digits = some r) : FnOK Tryd.prog 64 [.v (.string s), .v (.int .i64 digits)] (.tup [.v (.int .i64 r.1), .v (.bool r.2)]) := by
  unfold Sh.number_Parse at h
  refine fn_ok Tryd.func64 rfl (Nat.le_of_ble_eq_true rfl) rfl rfl fun g0 hn hio => ?_
  refine ht_seq ?_
  refine ht_seqR hn (El := [_, _, (4, .v (.int .i64 0)), (5, .v (.bool false))]) (init := [0, 1]) (fin := [0, 1]) (sps := [⟨[], [], [2], [(.slot 4)]⟩, ⟨[], [], [3], [(.slot 5)]⟩]) (es' := [(_, _), (_, _)]) (by kernel_rfl) rfl rfl
   ⟨st_plain rfl (op_assign _ _ _ _ rfl rfl),
   st_plain rfl (op_assign _ _ _ _ rfl rfl),
   trivial⟩ ?_
  refine pt_then ?_
  refine ht_seq ?_
  refine ht_seq ?_
  refine ht_joinS h (fun (s3 : Bool) => [(0, .v (.string s)), (26, .v (.bool s3))]) ?_ ?_
  ·rintro s3 h
   refine pt_then ?_
   refine ht_cond _ rfl (fun hb7 => ?_) (fun hb7 => ?_)
   ·have h := cond_t hb7 h
    refine ht_seq ?_
    refine ht_seqR hn (El := [_, _, (4, .v (.int .i64 0)), (5, .v (.bool false))]) (init := [0, 1]) (fin := [2, 3]) (sps := [⟨[], [], [2], [(.slot 4)]⟩, ⟨[], [], [3], [(.slot 5)]⟩]) (es' := [(4, .v (.int .i64 0)), (5, .v (.bool false))]) (by kernel_rfl) rfl rfl
     ⟨st_plain rfl (op_assign _ _ _ _ rfl rfl),
     st_plain rfl (op_assign _ _ _ _ rfl rfl),
     trivial⟩ ?_
    refine pt_then ?_
    refine ht_ret ?_
    refine pt_r_then ?_
    obtain rfl := Option.some.inj h
    exact pt_ret hio rfl (.tmp _ _ (.tmp _ _ .nil)) rfl rfl
   ·have h := cond_f hb7 h
    refine ht_skip ?_
    refine pt_then ?_
    refine ht_seq ?_
    refine ht_seq ?_
    refine ht_seqR hn (El := [_, _, (27, .v (.string s)), (28, .v (.int .i64 (s.size : Int))), (29, .v (.int .i64 0))]) (init := [0, 1]) (fin := [0, 3, 4]) (sps := [⟨[0], [], [2], [(.slot 27)]⟩, ⟨[2], [], [3], [(.slot 28)]⟩, ⟨[], [], [4], [(.slot 29)]⟩]) (es' := [(_, _), (28, .v (.int .i64 (s.size : Int))), (29, .v (.int .i64 0))]) (by kernel_rfl) rfl rfl
     ⟨st_plain rfl (op_move _ _ _ _ rfl rfl),
     st_plain rfl (op_len_str _ _ _ Tryd.underlying9 rfl),
     st_plain rfl (op_move _ _ _ _ rfl rfl),
     trivial⟩ ?_
    refine pt_then ?_
    refine ht_loopS h (fun (s24 : Int) => [(0, .v (.string s)), (28, .v (.int .i64 (s.size : Int))), (29, .v (.int .i64 s24))]) (fun (() : Unit) => [(0, .v (.string s))]) ?_ ?_
    ·rintro ⟨⟩ h
     refine pt_then ?_
     refine ht_seq ?_
     obtain ⟨v43, hv43, h⟩ := bind_some h
     refine ht_seqR hn (El := [_, (44, .v (.string s)), (45, .tup [.v (.int .i64 v43.1), .v (.nilIface)]), (43, .tup [.v (.int .i64 v43.1), .v (.nilIface)]), (46, .v (.int .i64 v43.1)), (47, .v (.nilIface)), (7, .v (.int .i64 v43.1)), (8, .v (.nilIface))]) (init := [0]) (fin := [6, 7]) (sps := [⟨[0], [], [1], [(.slot 44)]⟩, ⟨[1], [], [2], [(.slot 45)]⟩, ⟨[], [2], [3], [(.slot 43)]⟩, ⟨[3], [], [4], [(.slot 46)]⟩, ⟨[3], [], [5], [(.slot 47)]⟩, ⟨[4], [], [6], [(.slot 7)]⟩, ⟨[5], [], [7], [(.slot 8)]⟩]) (es' := [(7, .v (.int .i64 v43.1)), (8, .v (.nilIface))]) (by kernel_rfl) rfl rfl
      ⟨st_plain rfl (op_move _ _ _ _ rfl rfl),
      st_plain rfl (op_call _ _ 75 _ _ rfl Tryd.call75 rfl (ok_strconv_Atoi s _ hv43) rfl rfl),
      st_plain rfl (op_move_take _ _ _ _ rfl),
      st_plain rfl (op_extract _ _ _ _ _ rfl rfl (Nat.le_of_ble_eq_true rfl) rfl rfl),
      st_plain rfl (op_extract _ _ _ _ _ rfl rfl (Nat.le_of_ble_eq_true rfl) rfl rfl),
      st_plain rfl (op_assign _ _ _ _ rfl rfl),
      st_plain rfl (op_assign _ _ _ _ rfl rfl),
      trivial⟩ ?_
     refine pt_then ?_
     refine ht_seq ?_
     refine ht_anyR (by kernel_rfl) hn (El := [_, _, (48, .v (.int .i64 v43.1)), (49, .v (.nilIface)), (50, .v (.bool true)), (4, .v (.int .i64 v43.1)), (5, .v (.bool true))]) (init := [0, 1]) (fin := [5, 6]) (sps := [⟨[0], [], [2], [(.slot 48)]⟩, ⟨[1], [], [3], [(.slot 49)]⟩, ⟨[3], [], [4], [(.slot 50)]⟩, ⟨[2], [], [5], [(.slot 4)]⟩, ⟨[4], [], [6], [(.slot 5)]⟩]) (es' := [(4, .v (.int .i64 v43.1)), (5, .v (.bool true))]) (by kernel_rfl) rfl rfl
      ⟨st_plain rfl (op_move _ _ _ _ rfl rfl),
      st_plain rfl (op_move _ _ _ _ rfl rfl),
      st_plain rfl (op_ifnil _ _ false Tryd.underlying61 rfl),
      st_plain rfl (op_assign _ _ _ _ rfl rfl),
      st_plain rfl (op_assign _ _ _ _ rfl rfl),
      trivial⟩ ?_
     refine pt_then ?_
     refine ht_ret ?_
     obtain rfl := Option.some.inj h
     exact pt_ret hio rfl (.tmp _ _ (.tmp _ _ .nil)) rfl rfl
    ·rintro u31 hl32 hr33 s24 rr36 h ho34
     refine ht_seq ?_
     refine ht_seqR hn (El := [_, _, _, (30, .v (.bool ((decide (s24 < (s.size : Int))))))]) (init := [0, 1, 2]) (fin := [0, 1, 2, 3]) (sps := [⟨[2, 1], [], [3], [(.slot 30)]⟩]) (es' := [(_, _), (_, _), (_, _), (30, .v (.bool ((decide (s24 < (s.size : Int))))))]) (by kernel_rfl) rfl rfl
      ⟨st_plain rfl (op_bin _ _ _ _ _ rfl rfl rfl),
      trivial⟩ ?_
     refine pt_then ?_
     refine ht_seq ?_
     refine ht_cond _ rfl (fun hb37 => ?_) (fun hb37 => ?_)
     ·have h := cond_t hb37 h
      refine ht_skip ?_
      refine pt_then ?_
      refine ht_seq ?_
      refine ht_block ?_
      refine ht_seq ?_
      refine ht_seqR hn (El := [_, _, _, _, (31, .v (.int .i64 s24)), (6, .v (.int .i64 s24))]) (init := [0, 1, 2, 3]) (fin := [0, 1, 2, 5]) (sps := [⟨[2], [], [4], [(.slot 31)]⟩, ⟨[4], [], [5], [(.slot 6)]⟩]) (es' := [(_, _), (_, _), (_, _), (6, .v (.int .i64 s24))]) (by kernel_rfl) rfl rfl
       ⟨st_plain rfl (op_move _ _ _ _ rfl rfl),
       st_plain rfl (op_assign _ _ _ _ rfl rfl),
       trivial⟩ ?_
      refine pt_then ?_
      refine ht_seq ?_
      refine ht_joinS h (fun (s38 : Bool) => [(0, .v (.string s)), (28, .v (.int .i64 (s.size : Int))), (29, .v (.int .i64 s24)), (41, .v (.bool s38))]) ?_ ?_
      ·rintro s38 h
       refine pt_then ?_
       refine ht_cond _ rfl (fun hb42 => ?_) (fun hb42 => ?_)
       ·have h := cond_t hb42 h
        refine ht_seq ?_
        refine ht_seqR hn (El := [_, _, _, _, (4, .v (.int .i64 0)), (5, .v (.bool false))]) (init := [0, 1, 2, 3]) (fin := [4, 5]) (sps := [⟨[], [], [4], [(.slot 4)]⟩, ⟨[], [], [5], [(.slot 5)]⟩]) (es' := [(4, .v (.int .i64 0)), (5, .v (.bool false))]) (by kernel_rfl) rfl rfl
         ⟨st_plain rfl (op_assign _ _ _ _ rfl rfl),
         st_plain rfl (op_assign _ _ _ _ rfl rfl),
         trivial⟩ ?_
        refine pt_then ?_
        refine ht_ret ?_
        refine pt_r_in ?_
        refine pt_r_then ?_
        refine pt_r_then ?_
        refine pt_r_in ?_
        refine pt_r_then ?_
        have h := hr33 _ (ho34 _ (Option.some.inj h).symm).symm
        obtain rfl := Option.some.inj h
        exact pt_ret hio rfl (.tmp _ _ (.tmp _ _ .nil)) rfl rfl
       ·have h := cond_f hb42 h
        refine ht_skip ?_
        refine pt_inb ?_
        refine pt_then ?_
        obtain ⟨v16, hv16, h⟩ := bind_some h
        refine ht_seqR hn (El := [_, _, _, _, (42, .v (.int .i64 v16)), (29, .v (.int .i64 v16))]) (init := [0, 1, 2, 3]) (fin := [0, 1, 5]) (sps := [⟨[2], [], [4], [(.slot 42)]⟩, ⟨[4], [2], [5], [(.slot 29)]⟩]) (es' := [(_, _), (_, _), (29, .v (.int .i64 v16))]) (by kernel_rfl) rfl rfl
         ⟨st_plain rfl (op_bin _ _ _ _ _ rfl rfl (ibind (f := Value.int .i64) (Option.some.inj hv16))),
         st_plain rfl (LOp.drop [_] (op_move _ _ _ _ rfl rfl)),
         trivial⟩ ?_
        exact pt_next _ (Option.some.inj h).symm rfl
      ·intro u39 h hl40 hr41
       obtain ⟨v9, hv9, h⟩ := bind_some h
       refine cond_some h (fun hg6_4 h => ?_) (fun hg6_4 h => ?_)
       ·refine ht_seqR hn (El := [_, _, _, _, (32, .v (.string s)), (33, .v (.int .i64 s24)), (34, .v (.int .u8 v9)), (35, .v (.bool ((decide (v9 < 48))))), (36, .v (.bool true)), (37, .v undef), (38, .v undef), (39, .v undef), (40, .v undef), (41, .v (.bool true))]) (init := [0, 1, 2, 3]) (fin := [0, 1, 2, 13]) (sps := [⟨[0], [], [4], [(.slot 32)]⟩, ⟨[3], [], [5], [(.slot 33)]⟩, ⟨[4, 5], [], [6], [(.slot 34)]⟩, ⟨[6], [], [7], [(.slot 35)]⟩, ⟨[7], [], [8], [(.slot 36)]⟩, ⟨[8], [], [9], [(.slot 37)]⟩, ⟨[8], [], [10], [(.slot 38)]⟩, ⟨[8], [], [11], [(.slot 39)]⟩, ⟨[8], [], [12], [(.slot 40)]⟩, ⟨[8], [], [13], [(.slot 41)]⟩]) (es' := [(_, _), (_, _), (_, _), (41, .v (.bool true))]) (by kernel_rfl) rfl rfl
         ⟨st_plain rfl (op_move _ _ _ _ rfl rfl),
         st_plain rfl (op_move _ _ _ _ rfl rfl),
         st_plain rfl (op_chr _ _ _ s24 _ Tryd.underlying9 rfl rfl hv9),
         st_plain rfl (op_bin _ _ _ _ _ rfl rfl rfl),
         st_plain rfl (op_move _ _ _ _ (congrArg (fun b => AV.v (Value.bool b)) hg6_4) rfl),
         st_skip 4 36 _ false rfl rfl rfl rfl (List.Mem.head _),
         st_skip 4 36 _ false rfl rfl rfl rfl (List.Mem.head _),
         st_skip 4 36 _ false rfl rfl rfl rfl (List.Mem.head _),
         st_skip 4 36 _ false rfl rfl rfl rfl (List.Mem.head _),
         st_plain rfl (op_pick _ _ true _ rfl rfl),
         trivial⟩ ?_
        exact hl40 _ (Option.some.inj h).symm
       ·obtain ⟨v10, hv10, h⟩ := bind_some h
        refine ht_seqR hn (El := [_, _, _, _, (32, .v (.string s)), (33, .v (.int .i64 s24)), (34, .v (.int .u8 v9)), (35, .v (.bool ((decide (v9 < 48))))), (36, .v (.bool false)), (37, .v (.string s)), (38, .v (.int .i64 s24)), (39, .v (.int .u8 v10)), (40, .v (.bool ((decide (57 < v10))))), (41, .v (.bool ((decide (57 < v10)))))]) (init := [0, 1, 2, 3]) (fin := [0, 1, 2, 13]) (sps := [⟨[0], [], [4], [(.slot 32)]⟩, ⟨[3], [], [5], [(.slot 33)]⟩, ⟨[4, 5], [], [6], [(.slot 34)]⟩, ⟨[6], [], [7], [(.slot 35)]⟩, ⟨[7], [], [8], [(.slot 36)]⟩, ⟨[8, 0], [], [9], [(.slot 37)]⟩, ⟨[8, 3], [], [10], [(.slot 38)]⟩, ⟨[8, 9, 10], [], [11], [(.slot 39)]⟩, ⟨[8, 11], [], [12], [(.slot 40)]⟩, ⟨[8, 12], [], [13], [(.slot 41)]⟩]) (es' := [(_, _), (_, _), (_, _), (41, .v (.bool ((decide (57 < v10)))))]) (by kernel_rfl) rfl rfl
         ⟨st_plain rfl (op_move _ _ _ _ rfl rfl),
         st_plain rfl (op_move _ _ _ _ rfl rfl),
         st_plain rfl (op_chr _ _ _ s24 _ Tryd.underlying9 rfl rfl hv9),
         st_plain rfl (op_bin _ _ _ _ _ rfl rfl rfl),
         st_plain rfl (op_move _ _ _ _ (congrArg (fun b => AV.v (Value.bool b)) hg6_4) rfl),
         st_run 4 36 false rfl rfl rfl (List.Mem.head _) (op_move _ _ _ _ rfl rfl),
         st_run 4 36 false rfl rfl rfl (List.Mem.head _) (op_move _ _ _ _ rfl rfl),
         st_run 4 36 false rfl rfl rfl (List.Mem.head _) (op_chr _ _ _ s24 _ Tryd.underlying9 rfl rfl hv10),
         st_run 4 36 false rfl rfl rfl (List.Mem.head _) (op_bin _ _ _ _ _ rfl rfl rfl),
         st_plain rfl (op_pick _ _ false _ rfl rfl),
         trivial⟩ ?_
        exact hl40 _ (Option.some.inj h).symm
     ·have h := cond_f hb37 h
      refine ht_exit ?_
      refine pt_x_then ?_
      refine pt_x_then ?_
      refine pt_x_in ?_
      refine pt_pick [0] (by kernel_rfl) (es' := [(_, _)]) rfl ?_
      exact hl32 _ (ho34 _ (Option.some.inj h).symm).symm
  ·intro u4 h hl5 hr6
   refine cond_some h (fun hg1_2 h => ?_) (fun hg1_2 h => ?_)
   ·refine ht_seqR hn (El := (_ :: _ :: (9, .v (.string s)) :: (10, .v (.bool ((s.toList == (⟨#[]⟩ : ByteArray).toList)))) :: (11, .v (.bool true)) :: (12, .v undef) :: (13, .v undef) :: (14, .v undef) :: (15, .v undef) :: (16, .v undef) :: (17, .v (.bool true)) :: (18, .v (.bool true)) :: (19, .v undef) :: (20, .v undef) :: (21, .v undef) :: (22, .v undef) :: (23, .v undef) :: (24, .v undef) :: (25, .v undef) :: (26, .v (.bool true)) :: [])) (init := [0, 1]) (fin := [0, 19]) (sps := (⟨[0], [], [2], [(.slot 9)]⟩ :: ⟨[2], [], [3], [(.slot 10)]⟩ :: ⟨[3], [], [4], [(.slot 11)]⟩ :: ⟨[4], [], [5], [(.slot 12)]⟩ :: ⟨[4], [], [6], [(.slot 13)]⟩ :: ⟨[4], [], [7], [(.slot 14)]⟩ :: ⟨[4], [], [8], [(.slot 15)]⟩ :: ⟨[4], [], [9], [(.slot 16)]⟩ :: ⟨[4], [], [10], [(.slot 17)]⟩ :: ⟨[10], [], [11], [(.slot 18)]⟩ :: ⟨[11], [], [12], [(.slot 19)]⟩ :: ⟨[11], [], [13], [(.slot 20)]⟩ :: ⟨[11], [], [14], [(.slot 21)]⟩ :: ⟨[11], [], [15], [(.slot 22)]⟩ :: ⟨[15], [], [16], [(.slot 23)]⟩ :: ⟨[15], [], [17], [(.slot 24)]⟩ :: ⟨[11], [], [18], [(.slot 25)]⟩ :: ⟨[11], [], [19], [(.slot 26)]⟩ :: [])) (es' := [(_, _), (26, .v (.bool true))]) (by kernel_rfl) rfl rfl
     ⟨st_plain rfl (op_move _ _ _ _ rfl rfl),
     st_plain rfl (op_bin _ _ _ _ _ rfl rfl rfl),
     st_plain rfl (op_move _ _ _ _ (congrArg (fun b => AV.v (Value.bool b)) hg1_2) rfl),
     st_skip 2 11 _ false rfl rfl rfl rfl (List.Mem.head _),
     st_skip 2 11 _ false rfl rfl rfl rfl (List.Mem.head _),
     st_skip 2 11 _ false rfl rfl rfl rfl (List.Mem.head _),
     st_skip 2 11 _ false rfl rfl rfl rfl (List.Mem.head _),
     st_skip 2 11 _ false rfl rfl rfl rfl (List.Mem.head _),
     st_plain rfl (op_pick _ _ true _ rfl rfl),
     st_plain rfl (op_move _ _ _ _ rfl rfl),
     st_skip 9 18 _ false rfl rfl rfl rfl (List.Mem.head _),
     st_skip 9 18 _ false rfl rfl rfl rfl (List.Mem.head _),
     st_skip 9 18 _ false rfl rfl rfl rfl (List.Mem.head _),
     st_skip 9 18 _ false rfl rfl rfl rfl (List.Mem.head _),
     st_skipU 13 22 _ true rfl rfl rfl rfl (List.Mem.head _),
     st_skipU 13 22 _ true rfl rfl rfl rfl (List.Mem.head _),
     st_skip 9 18 _ false rfl rfl rfl rfl (List.Mem.head _),
     st_plain rfl (op_pick _ _ true _ rfl rfl),
     trivial⟩ ?_
    exact hl5 _ (Option.some.inj h).symm
   ·obtain ⟨v1, hv1, h⟩ := bind_some h
    refine cond_some h (fun hg1_9 h => ?_) (fun hg1_9 h => ?_)
    ·refine ht_seqR hn (El := (_ :: _ :: (9, .v (.string s)) :: (10, .v (.bool ((s.toList == (⟨#[]⟩ : ByteArray).toList)))) :: (11, .v (.bool false)) :: (12, .v (.string s)) :: (13, .v (.int .i64 (s.size : Int))) :: (14, .v (.int .i64 digits)) :: (15, .v (.int .i64 v1)) :: (16, .v (.bool ((decide (v1 < (s.size : Int)))))) :: (17, .v (.bool ((decide (v1 < (s.size : Int)))))) :: (18, .v (.bool true)) :: (19, .v undef) :: (20, .v undef) :: (21, .v undef) :: (22, .v undef) :: (23, .v undef) :: (24, .v undef) :: (25, .v undef) :: (26, .v (.bool true)) :: [])) (init := [0, 1]) (fin := [0, 19]) (sps := (⟨[0], [], [2], [(.slot 9)]⟩ :: ⟨[2], [], [3], [(.slot 10)]⟩ :: ⟨[3], [], [4], [(.slot 11)]⟩ :: ⟨[4, 0], [], [5], [(.slot 12)]⟩ :: ⟨[4, 5], [], [6], [(.slot 13)]⟩ :: ⟨[4, 1], [], [7], [(.slot 14)]⟩ :: ⟨[4, 7], [], [8], [(.slot 15)]⟩ :: ⟨[4, 6, 8], [], [9], [(.slot 16)]⟩ :: ⟨[4, 9], [], [10], [(.slot 17)]⟩ :: ⟨[10], [], [11], [(.slot 18)]⟩ :: ⟨[11], [], [12], [(.slot 19)]⟩ :: ⟨[11], [], [13], [(.slot 20)]⟩ :: ⟨[11], [], [14], [(.slot 21)]⟩ :: ⟨[11], [], [15], [(.slot 22)]⟩ :: ⟨[15], [], [16], [(.slot 23)]⟩ :: ⟨[15], [], [17], [(.slot 24)]⟩ :: ⟨[11], [], [18], [(.slot 25)]⟩ :: ⟨[11], [], [19], [(.slot 26)]⟩ :: [])) (es' := [(_, _), (26, .v (.bool true))]) (by kernel_rfl) rfl rfl
      ⟨st_plain rfl (op_move _ _ _ _ rfl rfl),
      st_plain rfl (op_bin _ _ _ _ _ rfl rfl rfl),
      st_plain rfl (op_move _ _ _ _ (congrArg (fun b => AV.v (Value.bool b)) hg1_2) rfl),
      st_run 2 11 false rfl rfl rfl (List.Mem.head _) (op_move _ _ _ _ rfl rfl),
      st_run 2 11 false rfl rfl rfl (List.Mem.head _) (op_len_str _ _ _ Tryd.underlying9 rfl),
      st_run 2 11 false rfl rfl rfl (List.Mem.head _) (op_move _ _ _ _ rfl rfl),
      st_run 2 11 false rfl rfl rfl (List.Mem.head _) ((Option.some.inj hv1) ▸ op_min _ _ _ _ rfl rfl),
      st_run 2 11 false rfl rfl rfl (List.Mem.head _) (op_bin _ _ _ _ _ rfl rfl rfl),
      st_plain rfl (op_pick _ _ false _ rfl rfl),
      st_plain rfl (op_move _ _ _ _ (congrArg (fun b => AV.v (Value.bool b)) hg1_9) rfl),
      st_skip 9 18 _ false rfl rfl rfl rfl (List.Mem.head _),
      st_skip 9 18 _ false rfl rfl rfl rfl (List.Mem.head _),
      st_skip 9 18 _ false rfl rfl rfl rfl (List.Mem.head _),
      st_skip 9 18 _ false rfl rfl rfl rfl (List.Mem.head _),
      st_skipU 13 22 _ true rfl rfl rfl rfl (List.Mem.head _),
      st_skipU 13 22 _ true rfl rfl rfl rfl (List.Mem.head _),
      st_skip 9 18 _ false rfl rfl rfl rfl (List.Mem.head _),
      st_plain rfl (op_pick _ _ true _ rfl rfl),
      trivial⟩ ?_
     exact hl5 _ (Option.some.inj h).symm
    ·obtain ⟨v2, hv2, h⟩ := bind_some h
     refine cond_some h (fun hg1_13 h => ?_) (fun hg1_13 h => ?_)
     ·refine ht_seqR hn (El := (_ :: _ :: (9, .v (.string s)) :: (10, .v (.bool ((s.toList == (⟨#[]⟩ : ByteArray).toList)))) :: (11, .v (.bool false)) :: (12, .v (.string s)) :: (13, .v (.int .i64 (s.size : Int))) :: (14, .v (.int .i64 digits)) :: (15, .v (.int .i64 v1)) :: (16, .v (.bool ((decide (v1 < (s.size : Int)))))) :: (17, .v (.bool ((decide (v1 < (s.size : Int)))))) :: (18, .v (.bool false)) :: (19, .v (.string s)) :: (20, .v (.int .u8 v2)) :: (21, .v (.bool (v2 == 48))) :: (22, .v (.bool true)) :: (23, .v (.string s)) :: (24, .v (.bool ((!(s.toList == (⟨#[48]⟩ : ByteArray).toList))))) :: (25, .v (.bool ((!(s.toList == (⟨#[48]⟩ : ByteArray).toList))))) :: (26, .v (.bool ((!(s.toList == (⟨#[48]⟩ : ByteArray).toList))))) :: [])) (init := [0, 1]) (fin := [0, 19]) (sps := (⟨[0], [], [2], [(.slot 9)]⟩ :: ⟨[2], [], [3], [(.slot 10)]⟩ :: ⟨[3], [], [4], [(.slot 11)]⟩ :: ⟨[4, 0], [], [5], [(.slot 12)]⟩ :: ⟨[4, 5], [], [6], [(.slot 13)]⟩ :: ⟨[4, 1], [], [7], [(.slot 14)]⟩ :: ⟨[4, 7], [], [8], [(.slot 15)]⟩ :: ⟨[4, 6, 8], [], [9], [(.slot 16)]⟩ :: ⟨[4, 9], [], [10], [(.slot 17)]⟩ :: ⟨[10], [], [11], [(.slot 18)]⟩ :: ⟨[11, 0], [], [12], [(.slot 19)]⟩ :: ⟨[11, 12], [], [13], [(.slot 20)]⟩ :: ⟨[11, 13], [], [14], [(.slot 21)]⟩ :: ⟨[11, 14], [], [15], [(.slot 22)]⟩ :: ⟨[15, 0], [], [16], [(.slot 23)]⟩ :: ⟨[15, 16], [], [17], [(.slot 24)]⟩ :: ⟨[11, 15, 17], [], [18], [(.slot 25)]⟩ :: ⟨[11, 18], [], [19], [(.slot 26)]⟩ :: [])) (es' := [(_, _), (26, .v (.bool ((!(s.toList == (⟨#[48]⟩ : ByteArray).toList)))))]) (by kernel_rfl) rfl rfl
       ⟨st_plain rfl (op_move _ _ _ _ rfl rfl),
       st_plain rfl (op_bin _ _ _ _ _ rfl rfl rfl),
       st_plain rfl (op_move _ _ _ _ (congrArg (fun b => AV.v (Value.bool b)) hg1_2) rfl),
       st_run 2 11 false rfl rfl rfl (List.Mem.head _) (op_move _ _ _ _ rfl rfl),
       st_run 2 11 false rfl rfl rfl (List.Mem.head _) (op_len_str _ _ _ Tryd.underlying9 rfl),
       st_run 2 11 false rfl rfl rfl (List.Mem.head _) (op_move _ _ _ _ rfl rfl),
       st_run 2 11 false rfl rfl rfl (List.Mem.head _) ((Option.some.inj hv1) ▸ op_min _ _ _ _ rfl rfl),
       st_run 2 11 false rfl rfl rfl (List.Mem.head _) (op_bin _ _ _ _ _ rfl rfl rfl),
       st_plain rfl (op_pick _ _ false _ rfl rfl),
       st_plain rfl (op_move _ _ _ _ (congrArg (fun b => AV.v (Value.bool b)) hg1_9) rfl),
       st_run 9 18 false rfl rfl rfl (List.Mem.head _) (op_move _ _ _ _ rfl rfl),
       st_run 9 18 false rfl rfl rfl (List.Mem.head _) (op_chr _ _ _ 0 _ Tryd.underlying9 rfl rfl hv2),
       st_run 9 18 false rfl rfl rfl (List.Mem.head _) (op_bin _ _ _ _ _ rfl rfl rfl),
       st_run 9 18 false rfl rfl rfl (List.Mem.head _) (op_move _ _ _ _ (congrArg (fun b => AV.v (Value.bool b)) hg1_13) rfl),
       st_run 13 22 true rfl rfl rfl (List.Mem.head _) (op_move _ _ _ _ rfl rfl),
       st_run 13 22 true rfl rfl rfl (List.Mem.head _) (op_bin _ _ _ _ _ rfl rfl rfl),
       st_run 9 18 false rfl rfl rfl (List.Mem.head _) (op_pick _ _ true _ rfl rfl),
       st_plain rfl (op_pick _ _ false _ rfl rfl),
       trivial⟩ ?_
      exact hl5 _ (Option.some.inj h).symm
     ·refine ht_seqR hn (El := (_ :: _ :: (9, .v (.string s)) :: (10, .v (.bool ((s.toList == (⟨#[]⟩ : ByteArray).toList)))) :: (11, .v (.bool false)) :: (12, .v (.string s)) :: (13, .v (.int .i64 (s.size : Int))) :: (14, .v (.int .i64 digits)) :: (15, .v (.int .i64 v1)) :: (16, .v (.bool ((decide (v1 < (s.size : Int)))))) :: (17, .v (.bool ((decide (v1 < (s.size : Int)))))) :: (18, .v (.bool false)) :: (19, .v (.string s)) :: (20, .v (.int .u8 v2)) :: (21, .v (.bool (v2 == 48))) :: (22, .v (.bool false)) :: (23, .v undef) :: (24, .v undef) :: (25, .v (.bool false)) :: (26, .v (.bool false)) :: [])) (init := [0, 1]) (fin := [0, 19]) (sps := (⟨[0], [], [2], [(.slot 9)]⟩ :: ⟨[2], [], [3], [(.slot 10)]⟩ :: ⟨[3], [], [4], [(.slot 11)]⟩ :: ⟨[4, 0], [], [5], [(.slot 12)]⟩ :: ⟨[4, 5], [], [6], [(.slot 13)]⟩ :: ⟨[4, 1], [], [7], [(.slot 14)]⟩ :: ⟨[4, 7], [], [8], [(.slot 15)]⟩ :: ⟨[4, 6, 8], [], [9], [(.slot 16)]⟩ :: ⟨[4, 9], [], [10], [(.slot 17)]⟩ :: ⟨[10], [], [11], [(.slot 18)]⟩ :: ⟨[11, 0], [], [12], [(.slot 19)]⟩ :: ⟨[11, 12], [], [13], [(.slot 20)]⟩ :: ⟨[11, 13], [], [14], [(.slot 21)]⟩ :: ⟨[11, 14], [], [15], [(.slot 22)]⟩ :: ⟨[15], [], [16], [(.slot 23)]⟩ :: ⟨[15], [], [17], [(.slot 24)]⟩ :: ⟨[11, 15], [], [18], [(.slot 25)]⟩ :: ⟨[11, 18], [], [19], [(.slot 26)]⟩ :: [])) (es' := [(_, _), (26, .v (.bool false))]) (by kernel_rfl) rfl rfl
       ⟨st_plain rfl (op_move _ _ _ _ rfl rfl),
       st_plain rfl (op_bin _ _ _ _ _ rfl rfl rfl),
       st_plain rfl (op_move _ _ _ _ (congrArg (fun b => AV.v (Value.bool b)) hg1_2) rfl),
       st_run 2 11 false rfl rfl rfl (List.Mem.head _) (op_move _ _ _ _ rfl rfl),
       st_run 2 11 false rfl rfl rfl (List.Mem.head _) (op_len_str _ _ _ Tryd.underlying9 rfl),
       st_run 2 11 false rfl rfl rfl (List.Mem.head _) (op_move _ _ _ _ rfl rfl),
       st_run 2 11 false rfl rfl rfl (List.Mem.head _) ((Option.some.inj hv1) ▸ op_min _ _ _ _ rfl rfl),
       st_run 2 11 false rfl rfl rfl (List.Mem.head _) (op_bin _ _ _ _ _ rfl rfl rfl),
       st_plain rfl (op_pick _ _ false _ rfl rfl),
       st_plain rfl (op_move _ _ _ _ (congrArg (fun b => AV.v (Value.bool b)) hg1_9) rfl),
       st_run 9 18 false rfl rfl rfl (List.Mem.head _) (op_move _ _ _ _ rfl rfl),
       st_run 9 18 false rfl rfl rfl (List.Mem.head _) (op_chr _ _ _ 0 _ Tryd.underlying9 rfl rfl hv2),
       st_run 9 18 false rfl rfl rfl (List.Mem.head _) (op_bin _ _ _ _ _ rfl rfl rfl),
       st_run 9 18 false rfl rfl rfl (List.Mem.head _) (op_move _ _ _ _ (congrArg (fun b => AV.v (Value.bool b)) hg1_13) rfl),
       st_skip 13 22 _ true rfl rfl rfl rfl (List.Mem.head _),
       st_skip 13 22 _ true rfl rfl rfl rfl (List.Mem.head _),
       st_run 9 18 false rfl rfl rfl (List.Mem.head _) (op_pick _ _ false _ rfl rfl),
       st_plain rfl (op_pick _ _ false _ rfl rfl),
       trivial⟩ ?_
      exact hl5 _ (Option.some.inj h).symm

set_option maxHeartbeats 1000000 in
theorem ok_verb_oneOf (s : ByteArray) (words : (List ByteArray)) (r : (ByteArray × Bool)) (h : Sh.verb_oneOf s words = some r) : FnOK Tryd.prog 65 [.v (.string s), .fl .shr 1 (List.map Value.string words)] (.tup [.v (.string r.1), .v (.bool r.2)]) := by
  unfold Sh.verb_oneOf at h
  refine fn_ok Tryd.func65 rfl (Nat.le_of_ble_eq_true rfl) rfl rfl fun g0 hn hio => ?_
  refine ht_seq ?_
  refine ht_seqR hn (El := [_, _, (4, .v (.string (⟨#[]⟩ : ByteArray))), (5, .v (.bool false))]) (init := [0, 1]) (fin := [0, 1]) (sps := [⟨[], [], [2], [(.slot 4)]⟩, ⟨[], [], [3], [(.slot 5)]⟩]) (es' := [(_, _), (_, _)]) (by kernel_rfl) rfl rfl
   ⟨st_plain rfl (op_assign _ _ _ _ rfl rfl),
   st_plain rfl (op_assign _ _ _ _ rfl rfl),
   trivial⟩ ?_
  refine pt_then ?_
  refine ht_seq ?_
  refine ht_seq ?_
  refine ht_seqR hn (El := [_, _, (8, .fl .shr 1 (List.map Value.string words)), (9, .v (.int .i64 (words.length : Int))), (10, .v (.int .i64 0))]) (init := [0, 1]) (fin := [0, 2, 3, 4]) (sps := [⟨[1], [], [2], [(.slot 8)]⟩, ⟨[2], [], [3], [(.slot 9)]⟩, ⟨[], [], [4], [(.slot 10)]⟩]) (es' := [(_, _), (8, .fl .shr 1 (List.map Value.string words)), (9, .v (.int .i64 (words.length : Int))), (10, .v (.int .i64 0))]) (by kernel_rfl) rfl rfl
   ⟨st_plain rfl (op_move _ _ _ _ rfl rfl),
   st_plain rfl (op_len_fl _ _ _ Tryd.underlying40 rfl (by decide) (map_len _)),
   st_plain rfl (op_move _ _ _ _ rfl rfl),
   trivial⟩ ?_
  refine pt_then ?_
  refine ht_loopS h (fun (s10 : Int) => [(0, .v (.string s)), (8, .fl .shr 1 (List.map Value.string words)), (9, .v (.int .i64 (words.length : Int))), (10, .v (.int .i64 s10))]) (fun (() : Unit) => []) ?_ ?_
  ·rintro ⟨⟩ h
   refine pt_then ?_
   refine ht_seq ?_
   refine ht_seqR hn (El := [(4, .v (.string (⟨#[]⟩ : ByteArray))), (5, .v (.bool false))]) (init := []) (fin := [0, 1]) (sps := [⟨[], [], [0], [(.slot 4)]⟩, ⟨[], [], [1], [(.slot 5)]⟩]) (es' := [(4, .v (.string (⟨#[]⟩ : ByteArray))), (5, .v (.bool false))]) (by kernel_rfl) rfl rfl
    ⟨st_plain rfl (op_assign _ _ _ _ rfl rfl),
    st_plain rfl (op_assign _ _ _ _ rfl rfl),
    trivial⟩ ?_
   refine pt_then ?_
   refine ht_ret ?_
   obtain rfl := Option.some.inj h
   exact pt_ret hio rfl (.tmp _ _ (.tmp _ _ .nil)) rfl rfl
  ·rintro u13 hl14 hr15 s10 rr18 h ho16
   refine ht_seq ?_
   refine ht_seqR hn (El := [_, _, _, _, (11, .v (.bool ((decide (s10 < (words.length : Int))))))]) (init := [0, 1, 2, 3]) (fin := [0, 1, 2, 3, 4]) (sps := [⟨[3, 2], [], [4], [(.slot 11)]⟩]) (es' := [(_, _), (_, _), (_, _), (_, _), (11, .v (.bool ((decide (s10 < (words.length : Int))))))]) (by kernel_rfl) rfl rfl
    ⟨st_plain rfl (op_bin _ _ _ _ _ rfl rfl rfl),
    trivial⟩ ?_
   refine pt_then ?_
   refine ht_seq ?_
   refine ht_cond _ rfl (fun hb19 => ?_) (fun hb19 => ?_)
   ·have h := cond_t hb19 h
    refine ht_skip ?_
    refine pt_then ?_
    refine ht_seq ?_
    refine ht_block ?_
    refine ht_seq ?_
    obtain ⟨v2, hv2, h⟩ := bind_some h
    obtain ⟨v3, hv3, h⟩ := bind_some h
    refine ht_seqR hn (El := [_, _, _, _, _, (12, .eref (.slot 8) (v2 * 1)), (13, .v (.string v3)), (7, .v (.string v3))]) (init := [0, 1, 2, 3, 4]) (fin := [0, 1, 2, 3, 7]) (sps := [⟨[1, 3], [], [5], [(.slot 12)]⟩, ⟨[5, 1], [], [6], [(.slot 13)]⟩, ⟨[6], [], [7], [(.slot 7)]⟩]) (es' := [(_, _), (_, _), (_, _), (_, _), (7, .v (.string v3))]) (by kernel_rfl) rfl rfl
     ⟨st_plain rfl (op_ix _ _ _ _ _ _ _ _ Tryd.underlying40 sz9 (by decide) rfl rfl rfl (ix_ok hv2).1 (map_lt (ix_ok hv2).2) rfl),
     st_plain rfl (op_load_e _ _ _ _ _ _ Tryd.underlying9 rfl rfl rfl (map_get hv3)),
     st_plain rfl (op_assign _ _ _ _ rfl rfl),
     trivial⟩ ?_
    refine pt_then ?_
    refine ht_seq ?_
    obtain ⟨v4, hv4, h⟩ := bind_some h
    refine ht_seqR hn (El := [_, _, _, _, _, (14, .v (.string s)), (15, .v (.string v3)), (16, .v (.bool v4))]) (init := [0, 1, 2, 3, 4]) (fin := [0, 1, 2, 3, 4, 7]) (sps := [⟨[0], [], [5], [(.slot 14)]⟩, ⟨[4], [], [6], [(.slot 15)]⟩, ⟨[5, 6], [], [7], [(.slot 16)]⟩]) (es' := [(_, _), (_, _), (_, _), (_, _), (_, _), (16, .v (.bool v4))]) (by kernel_rfl) rfl rfl
     ⟨st_plain rfl (op_move _ _ _ _ rfl rfl),
     st_plain rfl (op_move _ _ _ _ rfl rfl),
     st_plain rfl (op_call _ _ 33 _ _ rfl Tryd.call33 rfl (ok_verb_equalFold s v3 _ hv4) rfl rfl),
     trivial⟩ ?_
    refine pt_then ?_
    refine ht_cond _ rfl (fun hb20 => ?_) (fun hb20 => ?_)
    ·have h := cond_t hb20 h
     refine ht_seq ?_
     refine ht_seqR hn (El := [_, _, _, _, _, _, (17, .v (.string v3)), (4, .v (.string v3)), (5, .v (.bool true))]) (init := [0, 1, 2, 3, 4, 5]) (fin := [7, 8]) (sps := [⟨[4], [], [6], [(.slot 17)]⟩, ⟨[6], [], [7], [(.slot 4)]⟩, ⟨[], [], [8], [(.slot 5)]⟩]) (es' := [(4, .v (.string v3)), (5, .v (.bool true))]) (by kernel_rfl) rfl rfl
      ⟨st_plain rfl (op_move _ _ _ _ rfl rfl),
      st_plain rfl (op_assign _ _ _ _ rfl rfl),
      st_plain rfl (op_assign _ _ _ _ rfl rfl),
      trivial⟩ ?_
     refine pt_then ?_
     refine ht_ret ?_
     refine pt_r_in ?_
     refine pt_r_then ?_
     refine pt_r_then ?_
     refine pt_r_in ?_
     refine pt_r_then ?_
     have h := hr15 _ (ho16 _ (Option.some.inj h).symm).symm
     obtain rfl := Option.some.inj h
     exact pt_ret hio rfl (.tmp _ _ (.tmp _ _ .nil)) rfl rfl
    ·have h := cond_f hb20 h
     refine ht_skip ?_
     refine pt_inb ?_
     refine pt_then ?_
     obtain ⟨v6, hv6, h⟩ := bind_some h
     refine ht_seqR hn (El := [_, _, _, _, _, _, (18, .v (.int .i64 v6)), (10, .v (.int .i64 v6))]) (init := [0, 1, 2, 3, 4, 5]) (fin := [0, 1, 2, 7]) (sps := [⟨[3], [], [6], [(.slot 18)]⟩, ⟨[6], [3], [7], [(.slot 10)]⟩]) (es' := [(_, _), (_, _), (_, _), (10, .v (.int .i64 v6))]) (by kernel_rfl) rfl rfl
      ⟨st_plain rfl (op_bin _ _ _ _ _ rfl rfl (ibind (f := Value.int .i64) (Option.some.inj hv6))),
      st_plain rfl (LOp.drop [_] (op_move _ _ _ _ rfl rfl)),
      trivial⟩ ?_
     exact pt_next _ (Option.some.inj h).symm rfl
   ·have h := cond_f hb19 h
    refine ht_exit ?_
    refine pt_x_then ?_
    refine pt_x_then ?_
    refine pt_x_in ?_
    refine pt_pick [] (by kernel_rfl) (es' := []) rfl ?_
    exact hl14 _ (ho16 _ (Option.some.inj h).symm).symm

set_option maxHeartbeats 1000000 in
theorem ok_verb_parameter (kind : Int) (key : ByteArray) (val : ByteArray) (r : (T_Param × Bool)) (h : Sh.verb_parameter kind key val = some r) : FnOK Tryd.prog 53 [.v (.int .i64 kind), .v (.string key), .v (.string val)] (.tup [.agg [.v (.string r.1.Key), .v (.string r.1.Val)], .v (.bool r.2)]) := by
  unfold Sh.verb_parameter at h
  refine fn_ok Tryd.func53 rfl (Nat.le_of_ble_eq_true rfl) rfl rfl fun g0 hn hio => ?_
  refine ht_seq ?_
  refine ht_seqR hn (El := [_, _, _, (6, .box 46 [.v (.string (⟨#[]⟩ : ByteArray)), .v (.string (⟨#[]⟩ : ByteArray))]), (7, .v (.bool false))]) (init := [0, 1, 2]) (fin := [0, 1, 2, 3]) (sps := [⟨[], [], [3], [(.slot 6)]⟩, ⟨[], [], [4], [(.slot 7)]⟩]) (es' := [(_, _), (_, _), (_, _), (6, .box 46 [.v (.string (⟨#[]⟩ : ByteArray)), .v (.string (⟨#[]⟩ : ByteArray))])]) (by kernel_rfl) rfl rfl
   ⟨st_plain rfl (op_alloc _ _ zr46),
   st_plain rfl (op_assign _ _ _ _ rfl rfl),
   trivial⟩ ?_
  refine pt_then ?_
  refine ht_seq ?_
  refine ht_block ?_
  refine ht_seq ?_
  refine ht_joinS h (fun (s1 : Bool) => [(0, .v (.int .i64 kind)), (1, .v (.string key)), (2, .v (.string val)), (6, .box 46 [.v (.string (⟨#[]⟩ : ByteArray)), .v (.string (⟨#[]⟩ : ByteArray))]), (14, .v (.bool s1))]) ?_ ?_
  ·rintro s1 h
   refine pt_then ?_
   refine ht_cond _ rfl (fun hb5 => ?_) (fun hb5 => ?_)
   ·have h := cond_t hb5 h
    refine ht_seq ?_
    obtain ⟨v6, hv6, h⟩ := bind_some h
    refine ht_seqR hn (El := [_, _, _, _, _, (22, .v (.string val)), (23, .tup [.v (.int .i64 v6.1), .v (.bool v6.2)]), (21, .tup [.v (.int .i64 v6.1), .v (.bool v6.2)]), (24, .v (.int .i64 v6.1)), (25, .v (.bool v6.2)), (8, .v (.int .i64 v6.1)), (9, .v (.bool v6.2))]) (init := [0, 1, 2, 3, 4]) (fin := [2, 3, 11]) (sps := [⟨[2], [], [5], [(.slot 22)]⟩, ⟨[5], [], [6], [(.slot 23)]⟩, ⟨[], [6], [7], [(.slot 21)]⟩, ⟨[7], [], [8], [(.slot 24)]⟩, ⟨[7], [], [9], [(.slot 25)]⟩, ⟨[8], [], [10], [(.slot 8)]⟩, ⟨[9], [], [11], [(.slot 9)]⟩]) (es' := [(_, _), (_, _), (9, .v (.bool v6.2))]) (by kernel_rfl) rfl rfl
     ⟨st_plain rfl (op_move _ _ _ _ rfl rfl),
     st_plain rfl (op_call _ _ 64 _ _ rfl Tryd.call64 rfl (ok_number_Parse val 9 _ hv6) rfl rfl),
     st_plain rfl (op_move_take _ _ _ _ rfl),
     st_plain rfl (op_extract _ _ _ _ _ rfl rfl (Nat.le_of_ble_eq_true rfl) rfl rfl),
     st_plain rfl (op_extract _ _ _ _ _ rfl rfl (Nat.le_of_ble_eq_true rfl) rfl rfl),
     st_plain rfl (op_assign _ _ _ _ rfl rfl),
     st_plain rfl (op_assign _ _ _ _ rfl rfl),
     trivial⟩ ?_
    refine pt_then ?_
    refine ht_seq ?_
    refine ht_seqR hn (El := [_, _, _, (26, .v (.string val)), (27, .agg [.v (.string (⟨#[83, 73, 90, 69]⟩ : ByteArray)), .v (.string val)]), (28, .v (.bool v6.2)), (6, .box 46 [.v (.string (⟨#[83, 73, 90, 69]⟩ : ByteArray)), .v (.string val)]), (7, .v (.bool v6.2))]) (init := [0, 1, 2]) (fin := [6, 7]) (sps := [⟨[0], [], [3], [(.slot 26)]⟩, ⟨[3], [], [4], [(.slot 27)]⟩, ⟨[2], [], [5], [(.slot 28)]⟩, ⟨[4], [1], [6], [.cell 6 0, .cell 6 1]⟩, ⟨[5], [], [7], [(.slot 7)]⟩]) (es' := [(6, .box 46 [.v (.string (⟨#[83, 73, 90, 69]⟩ : ByteArray)), .v (.string val)]), (7, .v (.bool v6.2))]) (by kernel_rfl) rfl rfl
     ⟨st_plain rfl (op_move _ _ _ _ rfl rfl),
     st_plain rfl (op_build _ _ _ _ [1, 1] _ _ Tryd.underlying46 zr46 (fs46 _ Tryd.underlying46) (.copy _ (.copy _ Src.nil)) rfl rfl rfl),
     st_plain rfl (op_move _ _ _ _ rfl rfl),
     st_plain rfl (op_store _ _ _ _ _ _ _ _ sz46 rfl rfl rfl rfl (Nat.le_of_ble_eq_true rfl) rfl rfl),
     st_plain rfl (op_assign _ _ _ _ rfl rfl),
     trivial⟩ ?_
    refine pt_then ?_
    refine ht_ret ?_
    refine pt_r_in ?_
    refine pt_r_then ?_
    obtain rfl := Option.some.inj h
    exact pt_ret hio rfl (.cellA _ _ _ _ Tryd.underlying46 rfl sz46 (.tmp _ _ .nil)) rfl rfl
   ·have h := cond_f hb5 h
    refine ht_seq ?_
    refine ht_joinS h (fun (s7 : Bool) => [(0, .v (.int .i64 kind)), (1, .v (.string key)), (2, .v (.string val)), (6, .box 46 [.v (.string (⟨#[]⟩ : ByteArray)), .v (.string (⟨#[]⟩ : ByteArray))]), (29, .v (.bool s7))]) ?_ ?_
    ·rintro s7 h
     refine pt_then ?_
     refine ht_cond _ rfl (fun hb11 => ?_) (fun hb11 => ?_)
     ·have h := cond_t hb11 h
      refine ht_seq ?_
      obtain ⟨v12, hv12, h⟩ := bind_some h
      refine ht_seqR hn (El := [_, _, _, _, _, (37, .v (.string val)), (38, .fl (.own 9) 1 (List.map Value.string ([(⟨#[70, 85, 76, 76]⟩ : ByteArray), (⟨#[72, 68, 82, 83]⟩ : ByteArray)]))), (39, .tup [.v (.string v12.1), .v (.bool v12.2)]), (36, .tup [.v (.string v12.1), .v (.bool v12.2)]), (40, .v (.string v12.1)), (41, .v (.bool v12.2)), (10, .v (.string v12.1)), (11, .v (.bool v12.2))]) (init := [0, 1, 2, 3, 4]) (fin := [3, 11, 12]) (sps := [⟨[2], [], [5], [(.slot 37)]⟩, ⟨[], [], [6], [(.slot 38)]⟩, ⟨[5, 6], [], [7], [(.slot 39)]⟩, ⟨[], [7], [8], [(.slot 36)]⟩, ⟨[8], [], [9], [(.slot 40)]⟩, ⟨[8], [], [10], [(.slot 41)]⟩, ⟨[9], [], [11], [(.slot 10)]⟩, ⟨[10], [], [12], [(.slot 11)]⟩]) (es' := [(_, _), (10, .v (.string v12.1)), (11, .v (.bool v12.2))]) (by kernel_rfl) rfl rfl
       ⟨st_plain rfl (op_move _ _ _ _ rfl rfl),
       st_plain rfl (op_buildSlice _ _ 1 (.string ByteArray.empty) (List.map Value.string ([(⟨#[70, 85, 76, 76]⟩ : ByteArray), (⟨#[72, 68, 82, 83]⟩ : ByteArray)])) [(0, .string (⟨#[70, 85, 76, 76]⟩ : ByteArray)), (1, .string (⟨#[72, 68, 82, 83]⟩ : ByteArray))] Tryd.underlying40 sz9 zr9 (fun _ V w o a hv hes => by simp only [List.map_toArray, List.map_cons, List.map_nil]; try rfl) (litfill (by simp [Instr.fill, Value.cells]; rfl) (by simp [List.range, List.range.loop] <;> rfl)) (by simp [Value.oneCell']) rfl (by decide) (by decide) (by decide)),
       st_plain rfl (op_call _ _ 65 _ _ rfl Tryd.call65 rfl (ok_verb_oneOf val ([(⟨#[70, 85, 76, 76]⟩ : ByteArray), (⟨#[72, 68, 82, 83]⟩ : ByteArray)]) _ hv12) rfl rfl),
       st_plain rfl (op_move_take _ _ _ _ rfl),
       st_plain rfl (op_extract _ _ _ _ _ rfl rfl (Nat.le_of_ble_eq_true rfl) rfl rfl),
       st_plain rfl (op_extract _ _ _ _ _ rfl rfl (Nat.le_of_ble_eq_true rfl) rfl rfl),
       st_plain rfl (op_assign _ _ _ _ rfl rfl),
       st_plain rfl (op_assign _ _ _ _ rfl rfl),
       trivial⟩ ?_
      refine pt_then ?_
      refine ht_seq ?_
      refine ht_seqR hn (El := [_, _, _, (42, .v (.string v12.1)), (43, .agg [.v (.string (⟨#[82, 69, 84]⟩ : ByteArray)), .v (.string v12.1)]), (44, .v (.bool v12.2)), (6, .box 46 [.v (.string (⟨#[82, 69, 84]⟩ : ByteArray)), .v (.string v12.1)]), (7, .v (.bool v12.2))]) (init := [0, 1, 2]) (fin := [6, 7]) (sps := [⟨[1], [], [3], [(.slot 42)]⟩, ⟨[3], [], [4], [(.slot 43)]⟩, ⟨[2], [], [5], [(.slot 44)]⟩, ⟨[4], [0], [6], [.cell 6 0, .cell 6 1]⟩, ⟨[5], [], [7], [(.slot 7)]⟩]) (es' := [(6, .box 46 [.v (.string (⟨#[82, 69, 84]⟩ : ByteArray)), .v (.string v12.1)]), (7, .v (.bool v12.2))]) (by kernel_rfl) rfl rfl
       ⟨st_plain rfl (op_move _ _ _ _ rfl rfl),
       st_plain rfl (op_build _ _ _ _ [1, 1] _ _ Tryd.underlying46 zr46 (fs46 _ Tryd.underlying46) (.copy _ (.copy _ Src.nil)) rfl rfl rfl),
       st_plain rfl (op_move _ _ _ _ rfl rfl),
       st_plain rfl (op_store _ _ _ _ _ _ _ _ sz46 rfl rfl rfl rfl (Nat.le_of_ble_eq_true rfl) rfl rfl),
       st_plain rfl (op_assign _ _ _ _ rfl rfl),
       trivial⟩ ?_
      refine pt_then ?_
      refine ht_ret ?_
      refine pt_r_in ?_
      refine pt_r_then ?_
      obtain rfl := Option.some.inj h
      exact pt_ret hio rfl (.cellA _ _ _ _ Tryd.underlying46 rfl sz46 (.tmp _ _ .nil)) rfl rfl
     ·have h := cond_f hb11 h
      refine ht_seq ?_
      refine ht_joinS h (fun (s13 : Bool) => [(2, .v (.string val)), (6, .box 46 [.v (.string (⟨#[]⟩ : ByteArray)), .v (.string (⟨#[]⟩ : ByteArray))]), (45, .v (.bool s13))]) ?_ ?_
      ·rintro s13 h
       refine pt_then ?_
       refine ht_cond _ rfl (fun hb17 => ?_) (fun hb17 => ?_)
       ·have h := cond_t hb17 h
        refine ht_seq ?_
        obtain ⟨v18, hv18, h⟩ := bind_some h
        refine ht_seqR hn (El := [_, _, _, (53, .v (.string val)), (54, .fl (.own 9) 1 (List.map Value.string ([(⟨#[78, 69, 86, 69, 82]⟩ : ByteArray), (⟨#[70, 65, 73, 76, 85, 82, 69]⟩ : ByteArray)]))), (55, .tup [.v (.string v18.1), .v (.bool v18.2)]), (52, .tup [.v (.string v18.1), .v (.bool v18.2)]), (56, .v (.string v18.1)), (57, .v (.bool v18.2)), (12, .v (.string v18.1)), (13, .v (.bool v18.2))]) (init := [0, 1, 2]) (fin := [1, 9, 10]) (sps := [⟨[0], [], [3], [(.slot 53)]⟩, ⟨[], [], [4], [(.slot 54)]⟩, ⟨[3, 4], [], [5], [(.slot 55)]⟩, ⟨[], [5], [6], [(.slot 52)]⟩, ⟨[6], [], [7], [(.slot 56)]⟩, ⟨[6], [], [8], [(.slot 57)]⟩, ⟨[7], [], [9], [(.slot 12)]⟩, ⟨[8], [], [10], [(.slot 13)]⟩]) (es' := [(_, _), (12, .v (.string v18.1)), (13, .v (.bool v18.2))]) (by kernel_rfl) rfl rfl
         ⟨st_plain rfl (op_move _ _ _ _ rfl rfl),
         st_plain rfl (op_buildSlice _ _ 1 (.string ByteArray.empty) (List.map Value.string ([(⟨#[78, 69, 86, 69, 82]⟩ : ByteArray), (⟨#[70, 65, 73, 76, 85, 82, 69]⟩ : ByteArray)])) [(0, .string (⟨#[78, 69, 86, 69, 82]⟩ : ByteArray)), (1, .string (⟨#[70, 65, 73, 76, 85, 82, 69]⟩ : ByteArray))] Tryd.underlying40 sz9 zr9 (fun _ V w o a hv hes => by simp only [List.map_toArray, List.map_cons, List.map_nil]; try rfl) (litfill (by simp [Instr.fill, Value.cells]; rfl) (by simp [List.range, List.range.loop] <;> rfl)) (by simp [Value.oneCell']) rfl (by decide) (by decide) (by decide)),
         st_plain rfl (op_call _ _ 65 _ _ rfl Tryd.call65 rfl (ok_verb_oneOf val ([(⟨#[78, 69, 86, 69, 82]⟩ : ByteArray), (⟨#[70, 65, 73, 76, 85, 82, 69]⟩ : ByteArray)]) _ hv18) rfl rfl),
         st_plain rfl (op_move_take _ _ _ _ rfl),
         st_plain rfl (op_extract _ _ _ _ _ rfl rfl (Nat.le_of_ble_eq_true rfl) rfl rfl),
         st_plain rfl (op_extract _ _ _ _ _ rfl rfl (Nat.le_of_ble_eq_true rfl) rfl rfl),
         st_plain rfl (op_assign _ _ _ _ rfl rfl),
         st_plain rfl (op_assign _ _ _ _ rfl rfl),
         trivial⟩ ?_
        refine pt_then ?_
        refine ht_seq ?_
        refine ht_seqR hn (El := [_, _, _, (58, .v (.string v18.1)), (59, .agg [.v (.string (⟨#[78, 79, 84, 73, 70, 89]⟩ : ByteArray)), .v (.string v18.1)]), (60, .v (.bool v18.2)), (6, .box 46 [.v (.string (⟨#[78, 79, 84, 73, 70, 89]⟩ : ByteArray)), .v (.string v18.1)]), (7, .v (.bool v18.2))]) (init := [0, 1, 2]) (fin := [6, 7]) (sps := [⟨[1], [], [3], [(.slot 58)]⟩, ⟨[3], [], [4], [(.slot 59)]⟩, ⟨[2], [], [5], [(.slot 60)]⟩, ⟨[4], [0], [6], [.cell 6 0, .cell 6 1]⟩, ⟨[5], [], [7], [(.slot 7)]⟩]) (es' := [(6, .box 46 [.v (.string (⟨#[78, 79, 84, 73, 70, 89]⟩ : ByteArray)), .v (.string v18.1)]), (7, .v (.bool v18.2))]) (by kernel_rfl) rfl rfl
         ⟨st_plain rfl (op_move _ _ _ _ rfl rfl),
         st_plain rfl (op_build _ _ _ _ [1, 1] _ _ Tryd.underlying46 zr46 (fs46 _ Tryd.underlying46) (.copy _ (.copy _ Src.nil)) rfl rfl rfl),
         st_plain rfl (op_move _ _ _ _ rfl rfl),
         st_plain rfl (op_store _ _ _ _ _ _ _ _ sz46 rfl rfl rfl rfl (Nat.le_of_ble_eq_true rfl) rfl rfl),
         st_plain rfl (op_assign _ _ _ _ rfl rfl),
         trivial⟩ ?_
        refine pt_then ?_
        refine ht_ret ?_
        refine pt_r_in ?_
        refine pt_r_then ?_
        obtain rfl := Option.some.inj h
        exact pt_ret hio rfl (.cellA _ _ _ _ Tryd.underlying46 rfl sz46 (.tmp _ _ .nil)) rfl rfl
       ·have h := cond_f hb17 h
        refine ht_skip ?_
        refine pt_inb ?_
        refine pt_then ?_
        refine ht_seq ?_
        refine ht_seqR hn (El := [_, _, _, (61, .agg [.v (.string (⟨#[]⟩ : ByteArray)), .v (.string (⟨#[]⟩ : ByteArray))]), (6, .box 46 [.v (.string (⟨#[]⟩ : ByteArray)), .v (.string (⟨#[]⟩ : ByteArray))]), (7, .v (.bool false))]) (init := [0, 1, 2]) (fin := [4, 5]) (sps := [⟨[], [], [3], [(.slot 61)]⟩, ⟨[], [3, 1], [4], [.cell 6 0, .cell 6 1]⟩, ⟨[], [], [5], [(.slot 7)]⟩]) (es' := [(6, .box 46 [.v (.string (⟨#[]⟩ : ByteArray)), .v (.string (⟨#[]⟩ : ByteArray))]), (7, .v (.bool false))]) (by kernel_rfl) rfl rfl
         ⟨st_plain rfl (op_build _ _ _ _ [1, 1] _ _ Tryd.underlying46 zr46 (fs46 _ Tryd.underlying46) Src.nil rfl rfl rfl),
         st_plain rfl (op_store_self _ _ _ 61 6 2 sz46 rfl rfl rfl rfl rfl (.eq _ (.eq _ (.nil _))) rfl),
         st_plain rfl (op_assign _ _ _ _ rfl rfl),
         trivial⟩ ?_
        refine pt_then ?_
        refine ht_ret ?_
        obtain rfl := Option.some.inj h
        exact pt_ret hio rfl (.cellA _ _ _ _ Tryd.underlying46 rfl sz46 (.tmp _ _ .nil)) rfl rfl
      ·intro u14 h hl15 hr16
       refine cond_some h (fun hg7_2 h => ?_) (fun hg7_2 h => ?_)
       ·refine ht_seqR hn (El := [_, _, _, _, _, (46, .v (.int .i64 kind)), (47, .v (.bool (kind == 3))), (48, .v (.bool true)), (49, .v (.string key)), (50, .v (.bool ((key.toList == (⟨#[110, 111, 116, 105, 102, 121]⟩ : ByteArray).toList)))), (51, .v (.bool ((key.toList == (⟨#[110, 111, 116, 105, 102, 121]⟩ : ByteArray).toList)))), (45, .v (.bool ((key.toList == (⟨#[110, 111, 116, 105, 102, 121]⟩ : ByteArray).toList))))]) (init := [0, 1, 2, 3, 4]) (fin := [2, 3, 11]) (sps := [⟨[0], [], [5], [(.slot 46)]⟩, ⟨[5], [], [6], [(.slot 47)]⟩, ⟨[6], [], [7], [(.slot 48)]⟩, ⟨[7, 1], [], [8], [(.slot 49)]⟩, ⟨[7, 8], [], [9], [(.slot 50)]⟩, ⟨[7, 9], [], [10], [(.slot 51)]⟩, ⟨[10], [], [11], [(.slot 45)]⟩]) (es' := [(_, _), (_, _), (45, .v (.bool ((key.toList == (⟨#[110, 111, 116, 105, 102, 121]⟩ : ByteArray).toList))))]) (by kernel_rfl) rfl rfl
         ⟨st_plain rfl (op_move _ _ _ _ rfl rfl),
         st_plain rfl (op_bin _ _ _ _ _ rfl rfl rfl),
         st_plain rfl (op_move _ _ _ _ (congrArg (fun b => AV.v (Value.bool b)) hg7_2) rfl),
         st_run 2 48 true rfl rfl rfl (List.Mem.head _) (op_move _ _ _ _ rfl rfl),
         st_run 2 48 true rfl rfl rfl (List.Mem.head _) (op_bin _ _ _ _ _ rfl rfl rfl),
         st_plain rfl (op_pick _ _ true _ rfl rfl),
         st_plain rfl (op_assign _ _ _ _ rfl rfl),
         trivial⟩ ?_
        exact hl15 _ (Option.some.inj h).symm
       ·refine ht_seqR hn (El := [_, _, _, _, _, (46, .v (.int .i64 kind)), (47, .v (.bool (kind == 3))), (48, .v (.bool false)), (49, .v undef), (50, .v undef), (51, .v (.bool false)), (45, .v (.bool false))]) (init := [0, 1, 2, 3, 4]) (fin := [2, 3, 11]) (sps := [⟨[0], [], [5], [(.slot 46)]⟩, ⟨[5], [], [6], [(.slot 47)]⟩, ⟨[6], [], [7], [(.slot 48)]⟩, ⟨[7], [], [8], [(.slot 49)]⟩, ⟨[7], [], [9], [(.slot 50)]⟩, ⟨[7], [], [10], [(.slot 51)]⟩, ⟨[10], [], [11], [(.slot 45)]⟩]) (es' := [(_, _), (_, _), (45, .v (.bool false))]) (by kernel_rfl) rfl rfl
         ⟨st_plain rfl (op_move _ _ _ _ rfl rfl),
         st_plain rfl (op_bin _ _ _ _ _ rfl rfl rfl),
         st_plain rfl (op_move _ _ _ _ (congrArg (fun b => AV.v (Value.bool b)) hg7_2) rfl),
         st_skip 2 48 _ true rfl rfl rfl rfl (List.Mem.head _),
         st_skip 2 48 _ true rfl rfl rfl rfl (List.Mem.head _),
         st_plain rfl (op_pick _ _ false _ rfl rfl),
         st_plain rfl (op_assign _ _ _ _ rfl rfl),
         trivial⟩ ?_
        exact hl15 _ (Option.some.inj h).symm
    ·intro u8 h hl9 hr10
     refine cond_some h (fun hg4_2 h => ?_) (fun hg4_2 h => ?_)
     ·refine ht_seqR hn (El := [_, _, _, _, _, (30, .v (.int .i64 kind)), (31, .v (.bool (kind == 2))), (32, .v (.bool true)), (33, .v (.string key)), (34, .v (.bool ((key.toList == (⟨#[114, 101, 116]⟩ : ByteArray).toList)))), (35, .v (.bool ((key.toList == (⟨#[114, 101, 116]⟩ : ByteArray).toList)))), (29, .v (.bool ((key.toList == (⟨#[114, 101, 116]⟩ : ByteArray).toList))))]) (init := [0, 1, 2, 3, 4]) (fin := [0, 1, 2, 3, 11]) (sps := [⟨[0], [], [5], [(.slot 30)]⟩, ⟨[5], [], [6], [(.slot 31)]⟩, ⟨[6], [], [7], [(.slot 32)]⟩, ⟨[7, 1], [], [8], [(.slot 33)]⟩, ⟨[7, 8], [], [9], [(.slot 34)]⟩, ⟨[7, 9], [], [10], [(.slot 35)]⟩, ⟨[10], [], [11], [(.slot 29)]⟩]) (es' := [(_, _), (_, _), (_, _), (_, _), (29, .v (.bool ((key.toList == (⟨#[114, 101, 116]⟩ : ByteArray).toList))))]) (by kernel_rfl) rfl rfl
       ⟨st_plain rfl (op_move _ _ _ _ rfl rfl),
       st_plain rfl (op_bin _ _ _ _ _ rfl rfl rfl),
       st_plain rfl (op_move _ _ _ _ (congrArg (fun b => AV.v (Value.bool b)) hg4_2) rfl),
       st_run 2 32 true rfl rfl rfl (List.Mem.head _) (op_move _ _ _ _ rfl rfl),
       st_run 2 32 true rfl rfl rfl (List.Mem.head _) (op_bin _ _ _ _ _ rfl rfl rfl),
       st_plain rfl (op_pick _ _ true _ rfl rfl),
       st_plain rfl (op_assign _ _ _ _ rfl rfl),
       trivial⟩ ?_
      exact hl9 _ (Option.some.inj h).symm
     ·refine ht_seqR hn (El := [_, _, _, _, _, (30, .v (.int .i64 kind)), (31, .v (.bool (kind == 2))), (32, .v (.bool false)), (33, .v undef), (34, .v undef), (35, .v (.bool false)), (29, .v (.bool false))]) (init := [0, 1, 2, 3, 4]) (fin := [0, 1, 2, 3, 11]) (sps := [⟨[0], [], [5], [(.slot 30)]⟩, ⟨[5], [], [6], [(.slot 31)]⟩, ⟨[6], [], [7], [(.slot 32)]⟩, ⟨[7], [], [8], [(.slot 33)]⟩, ⟨[7], [], [9], [(.slot 34)]⟩, ⟨[7], [], [10], [(.slot 35)]⟩, ⟨[10], [], [11], [(.slot 29)]⟩]) (es' := [(_, _), (_, _), (_, _), (_, _), (29, .v (.bool false))]) (by kernel_rfl) rfl rfl
       ⟨st_plain rfl (op_move _ _ _ _ rfl rfl),
       st_plain rfl (op_bin _ _ _ _ _ rfl rfl rfl),
       st_plain rfl (op_move _ _ _ _ (congrArg (fun b => AV.v (Value.bool b)) hg4_2) rfl),
       st_skip 2 32 _ true rfl rfl rfl rfl (List.Mem.head _),
       st_skip 2 32 _ true rfl rfl rfl rfl (List.Mem.head _),
       st_plain rfl (op_pick _ _ false _ rfl rfl),
       st_plain rfl (op_assign _ _ _ _ rfl rfl),
       trivial⟩ ?_
      exact hl9 _ (Option.some.inj h).symm
  ·intro u2 h hl3 hr4
   refine cond_some h (fun hg1_2 h => ?_) (fun hg1_2 h => ?_)
   ·refine ht_seqR hn (El := [_, _, _, _, (15, .v (.int .i64 kind)), (16, .v (.bool (kind == 2))), (17, .v (.bool true)), (18, .v (.string key)), (19, .v (.bool ((key.toList == (⟨#[115, 105, 122, 101]⟩ : ByteArray).toList)))), (20, .v (.bool ((key.toList == (⟨#[115, 105, 122, 101]⟩ : ByteArray).toList)))), (14, .v (.bool ((key.toList == (⟨#[115, 105, 122, 101]⟩ : ByteArray).toList))))]) (init := [0, 1, 2, 3]) (fin := [0, 1, 2, 3, 10]) (sps := [⟨[0], [], [4], [(.slot 15)]⟩, ⟨[4], [], [5], [(.slot 16)]⟩, ⟨[5], [], [6], [(.slot 17)]⟩, ⟨[6, 1], [], [7], [(.slot 18)]⟩, ⟨[6, 7], [], [8], [(.slot 19)]⟩, ⟨[6, 8], [], [9], [(.slot 20)]⟩, ⟨[9], [], [10], [(.slot 14)]⟩]) (es' := [(_, _), (_, _), (_, _), (_, _), (14, .v (.bool ((key.toList == (⟨#[115, 105, 122, 101]⟩ : ByteArray).toList))))]) (by kernel_rfl) rfl rfl
     ⟨st_plain rfl (op_move _ _ _ _ rfl rfl),
     st_plain rfl (op_bin _ _ _ _ _ rfl rfl rfl),
     st_plain rfl (op_move _ _ _ _ (congrArg (fun b => AV.v (Value.bool b)) hg1_2) rfl),
     st_run 2 17 true rfl rfl rfl (List.Mem.head _) (op_move _ _ _ _ rfl rfl),
     st_run 2 17 true rfl rfl rfl (List.Mem.head _) (op_bin _ _ _ _ _ rfl rfl rfl),
     st_plain rfl (op_pick _ _ true _ rfl rfl),
     st_plain rfl (op_assign _ _ _ _ rfl rfl),
     trivial⟩ ?_
    exact hl3 _ (Option.some.inj h).symm
   ·refine ht_seqR hn (El := [_, _, _, _, (15, .v (.int .i64 kind)), (16, .v (.bool (kind == 2))), (17, .v (.bool false)), (18, .v undef), (19, .v undef), (20, .v (.bool false)), (14, .v (.bool false))]) (init := [0, 1, 2, 3]) (fin := [0, 1, 2, 3, 10]) (sps := [⟨[0], [], [4], [(.slot 15)]⟩, ⟨[4], [], [5], [(.slot 16)]⟩, ⟨[5], [], [6], [(.slot 17)]⟩, ⟨[6], [], [7], [(.slot 18)]⟩, ⟨[6], [], [8], [(.slot 19)]⟩, ⟨[6], [], [9], [(.slot 20)]⟩, ⟨[9], [], [10], [(.slot 14)]⟩]) (es' := [(_, _), (_, _), (_, _), (_, _), (14, .v (.bool false))]) (by kernel_rfl) rfl rfl
     ⟨st_plain rfl (op_move _ _ _ _ rfl rfl),
     st_plain rfl (op_bin _ _ _ _ _ rfl rfl rfl),
     st_plain rfl (op_move _ _ _ _ (congrArg (fun b => AV.v (Value.bool b)) hg1_2) rfl),
     st_skip 2 17 _ true rfl rfl rfl rfl (List.Mem.head _),
     st_skip 2 17 _ true rfl rfl rfl rfl (List.Mem.head _),
     st_plain rfl (op_pick _ _ false _ rfl rfl),
     st_plain rfl (op_assign _ _ _ _ rfl rfl),
     trivial⟩ ?_
    exact hl3 _ (Option.some.inj h).symm

set_option maxHeartbeats 1000000 in
theorem ok_verb_parameters_1_cap (bx : Nat) (q : T_Param) (cap : T_Param) (r : Bool) (h : Sh.verb_parameters_1_cap q cap = some r) : FnG Tryd.prog [(bx, [.string cap.Key, .string cap.Val])] 55 [.agg [.v (.string q.Key), .v (.string q.Val)], .v (.pointer (some ⟨bx, 0, none⟩))] (.v (.bool r)) := by
  unfold Sh.verb_parameters_1_cap at h
  refine fn_okG Tryd.func55 rfl (Nat.le_of_ble_eq_true rfl) rfl rfl fun g0 hn hio => ?_
  refine ht_seq ?_
  refine ht_seqR hn (El := [_, _, _, (2, .box 46 [.v (.string q.Key), .v (.string q.Val)]), (3, .v (.bool false))]) (init := [0, 1, 2]) (fin := [1, 2, 3]) (sps := [⟨[0], [], [3], [(.slot 2)]⟩, ⟨[], [], [4], [(.slot 3)]⟩]) (es' := [(_, _), (_, _), (2, .box 46 [.v (.string q.Key), .v (.string q.Val)])]) (by kernel_rfl) rfl rfl
   ⟨st_plain rfl (op_box _ _ _ _ rfl rfl rfl),
   st_plain rfl (op_assign _ _ _ _ rfl rfl),
   trivial⟩ ?_
  refine pt_then ?_
  refine ht_seq ?_
  refine ht_seqR hn (El := [_, _, _, (4, .ptr 2 0), (5, .v (.string q.Key)), (6, .v (.pointer (some ⟨bx, 0, none⟩))), (7, .v (.string cap.Key)), (8, .v (.bool (q.Key.toList == cap.Key.toList))), (3, .v (.bool (q.Key.toList == cap.Key.toList)))]) (init := [0, 1, 2]) (fin := [1, 8]) (sps := [⟨[2], [], [3], [(.slot 4)]⟩, ⟨[3, 2], [], [4], [(.slot 5)]⟩, ⟨[0], [], [5], [(.slot 6)]⟩, ⟨[5, 1], [], [6], [(.slot 7)]⟩, ⟨[4, 6], [], [7], [(.slot 8)]⟩, ⟨[7], [], [8], [(.slot 3)]⟩]) (es' := [(_, _), (3, .v (.bool (q.Key.toList == cap.Key.toList)))]) (by kernel_rfl) rfl rfl
   ⟨st_plain rfl (op_fieldAddr _ _ _ _ 2 0 _ Tryd.underlying46 rfl sz9 rfl rfl (by decide)),
   st_plain rfl (op_load _ _ _ _ _ _ Tryd.underlying9 rfl rfl rfl (Nat.le_of_ble_eq_true rfl) rfl rfl rfl),
   st_plain rfl (op_fieldAddr_v _ _ _ _ bx 0 _ Tryd.underlying46 rfl sz9 rfl rfl),
   st_plain rfl (op_load_glob _ _ 9 bx 0 _ _ Tryd.underlying9 rfl rfl rfl (.head _) rfl),
   st_plain rfl (op_bin _ _ _ _ _ rfl rfl rfl),
   st_plain rfl (op_assign _ _ _ _ rfl rfl),
   trivial⟩ ?_
  refine pt_then ?_
  refine ht_ret ?_
  refine pt_pick [1] (by kernel_rfl) (es' := [(_, _)]) rfl ?_
  obtain rfl := Option.some.inj h
  exact pt_ret hio rfl (.tmp _ _ .nil) rfl rfl

set_option maxHeartbeats 1000000 in
theorem ok_slices_IndexFunc_api_Param_api_Param_of_verb_parameters_1 (bx : Nat) (s : (List T_Param)) (cap : T_Param) (r : Int) (h : Sh.slices_IndexFunc_api_Param_api_Param_of_verb_parameters_1 s cap = some r) : FnG Tryd.prog [(bx, [.string cap.Key, .string cap.Val])] 66 [.fl .shr 2 (List.flatten (List.map T_Param.enc s)), .v (.func (.func 55) #[] #[.pointer (some ⟨bx, 0, none⟩)])] (.v (.int .i64 r)) := by
  unfold Sh.slices_IndexFunc_api_Param_api_Param_of_verb_parameters_1 at h
  refine fn_okG Tryd.func66 rfl (Nat.le_of_ble_eq_true rfl) rfl rfl fun g0 hn hio => ?_
  refine ht_seq ?_
  refine ht_seqR hn (El := [_, _, _, (4, .v (.int .i64 0))]) (init := [0, 1, 2]) (fin := [0, 1, 2]) (sps := [⟨[], [], [3], [(.slot 4)]⟩]) (es' := [(_, _), (_, _), (_, _)]) (by kernel_rfl) rfl rfl
   ⟨st_plain rfl (op_assign _ _ _ _ rfl rfl),
   trivial⟩ ?_
  refine pt_then ?_
  refine ht_seq ?_
  refine ht_seq ?_
  refine ht_seqR hn (El := [_, _, _, (6, .fl .shr 2 (List.flatten (List.map T_Param.enc s))), (7, .v (.int .i64 (s.length : Int))), (8, .v (.int .i64 0))]) (init := [0, 1, 2]) (fin := [0, 1, 2, 4, 5]) (sps := [⟨[0], [], [3], [(.slot 6)]⟩, ⟨[3], [], [4], [(.slot 7)]⟩, ⟨[], [], [5], [(.slot 8)]⟩]) (es' := [(_, _), (_, _), (_, _), (7, .v (.int .i64 (s.length : Int))), (8, .v (.int .i64 0))]) (by kernel_rfl) rfl rfl
   ⟨st_plain rfl (op_move _ _ _ _ rfl rfl),
   st_plain rfl (op_len_fl _ _ _ Tryd.underlying24 rfl (by decide) (flat_len T_Param.len _)),
   st_plain rfl (op_move _ _ _ _ rfl rfl),
   trivial⟩ ?_
  refine pt_then ?_
  refine ht_loopS h (fun (s10 : Int) => [(0, .fl .shr 2 (List.flatten (List.map T_Param.enc s))), (1, .v (.func (.func 55) #[] #[.pointer (some ⟨bx, 0, none⟩)])), (19, .glob [(bx, [.string cap.Key, .string cap.Val])]), (7, .v (.int .i64 (s.length : Int))), (8, .v (.int .i64 s10))]) (fun (() : Unit) => [(19, .glob [(bx, [.string cap.Key, .string cap.Val])])]) ?_ ?_
  ·rintro ⟨⟩ h
   refine pt_then ?_
   refine ht_seq ?_
   refine ht_seqR hn (El := [_, (4, .v (.int .i64 (-1)))]) (init := [0]) (fin := [0, 1]) (sps := [⟨[], [], [1], [(.slot 4)]⟩]) (es' := [(_, _), (4, .v (.int .i64 (-1)))]) (by kernel_rfl) rfl rfl
    ⟨st_plain rfl (op_assign _ _ _ _ rfl rfl),
    trivial⟩ ?_
   refine pt_then ?_
   refine ht_ret ?_
   refine pt_pick [1] (by kernel_rfl) (es' := [(_, _)]) rfl ?_
   obtain rfl := Option.some.inj h
   exact pt_ret hio rfl (.tmp _ _ .nil) rfl rfl
  ·rintro u13 hl14 hr15 s10 rr18 h ho16
   refine ht_seq ?_
   refine ht_seqR hn (El := [_, _, _, _, _, (9, .v (.bool ((decide (s10 < (s.length : Int))))))]) (init := [0, 1, 2, 3, 4]) (fin := [0, 1, 2, 3, 4, 5]) (sps := [⟨[4, 3], [], [5], [(.slot 9)]⟩]) (es' := [(_, _), (_, _), (_, _), (_, _), (_, _), (9, .v (.bool ((decide (s10 < (s.length : Int))))))]) (by kernel_rfl) rfl rfl
    ⟨st_plain rfl (op_bin _ _ _ _ _ rfl rfl rfl),
    trivial⟩ ?_
   refine pt_then ?_
   refine ht_seq ?_
   refine ht_cond _ rfl (fun hb19 => ?_) (fun hb19 => ?_)
   ·have h := cond_t hb19 h
    refine ht_skip ?_
    refine pt_then ?_
    refine ht_seq ?_
    refine ht_block ?_
    refine ht_seq ?_
    refine ht_seqR hn (El := [_, _, _, _, _, _, (10, .v (.int .i64 s10)), (5, .v (.int .i64 s10))]) (init := [0, 1, 2, 3, 4, 5]) (fin := [0, 1, 2, 3, 4, 7]) (sps := [⟨[4], [], [6], [(.slot 10)]⟩, ⟨[6], [], [7], [(.slot 5)]⟩]) (es' := [(_, _), (_, _), (_, _), (_, _), (_, _), (5, .v (.int .i64 s10))]) (by kernel_rfl) rfl rfl
     ⟨st_plain rfl (op_move _ _ _ _ rfl rfl),
     st_plain rfl (op_assign _ _ _ _ rfl rfl),
     trivial⟩ ?_
    refine pt_then ?_
    refine ht_seq ?_
    obtain ⟨v2, hv2, h⟩ := bind_some h
    obtain ⟨v3, hv3, h⟩ := bind_some h
    obtain ⟨v4, hv4, h⟩ := bind_some h
    refine ht_seqR hn (El := [_, _, _, _, _, _, (11, .v (.func (.func 55) #[] #[.pointer (some ⟨bx, 0, none⟩)])), (12, .fl .shr 2 (List.flatten (List.map T_Param.enc s))), (13, .v (.int .i64 s10)), (14, .eref (.slot 12) (v2 * 2)), (15, .agg [.v (.string v3.Key), .v (.string v3.Val)]), (16, .v (.bool v4))]) (init := [0, 1, 2, 3, 4, 5]) (fin := [0, 1, 2, 3, 4, 5, 11]) (sps := [⟨[1], [], [6], [(.slot 11)]⟩, ⟨[0], [], [7], [(.slot 12)]⟩, ⟨[5], [], [8], [(.slot 13)]⟩, ⟨[7, 8], [], [9], [(.slot 14)]⟩, ⟨[9, 7], [], [10], [(.slot 15)]⟩, ⟨[10, 6, 2], [], [11], [(.slot 16)]⟩]) (es' := [(_, _), (_, _), (_, _), (_, _), (_, _), (_, _), (16, .v (.bool v4))]) (by kernel_rfl) rfl rfl
     ⟨st_plain rfl (op_move _ _ _ _ rfl rfl),
     st_plain rfl (op_move _ _ _ _ rfl rfl),
     st_plain rfl (op_move _ _ _ _ rfl rfl),
     st_plain rfl (op_ix _ _ _ _ _ _ _ _ Tryd.underlying24 sz46 (by decide) rfl rfl rfl (ix_ok hv2).1 (flat_lt T_Param.len (ix_ok hv2).2) rfl),
     st_plain rfl (op_load_eA _ _ _ _ _ _ _ Tryd.underlying46 rfl sz46 rfl rfl (flat_get T_Param.len hv3) rfl (by decide)),
     st_plain rfl (op_callV _ _ 19 55 (.pointer (some ⟨bx, 0, none⟩)) _ _ rfl Tryd.call55 rfl rfl (fun _ h => h) (ok_verb_parameters_1_cap bx v3 cap _ hv4) rfl rfl),
     trivial⟩ ?_
    refine pt_then ?_
    refine ht_cond _ rfl (fun hb20 => ?_) (fun hb20 => ?_)
    ·have h := cond_t hb20 h
     refine ht_seq ?_
     refine ht_seqR hn (El := [_, _, _, _, _, _, _, (17, .v (.int .i64 s10)), (4, .v (.int .i64 s10))]) (init := [0, 1, 2, 3, 4, 5, 6]) (fin := [2, 8]) (sps := [⟨[5], [], [7], [(.slot 17)]⟩, ⟨[7], [], [8], [(.slot 4)]⟩]) (es' := [(_, _), (4, .v (.int .i64 s10))]) (by kernel_rfl) rfl rfl
      ⟨st_plain rfl (op_move _ _ _ _ rfl rfl),
      st_plain rfl (op_assign _ _ _ _ rfl rfl),
      trivial⟩ ?_
     refine pt_then ?_
     refine ht_ret ?_
     refine pt_pick [1] (by kernel_rfl) (es' := [(_, _)]) rfl ?_
     refine pt_r_in ?_
     refine pt_r_then ?_
     refine pt_r_then ?_
     refine pt_r_in ?_
     refine pt_r_then ?_
     have h := hr15 _ (ho16 _ (Option.some.inj h).symm).symm
     obtain rfl := Option.some.inj h
     exact pt_ret hio rfl (.tmp _ _ .nil) rfl rfl
    ·have h := cond_f hb20 h
     refine ht_skip ?_
     refine pt_inb ?_
     refine pt_then ?_
     obtain ⟨v6, hv6, h⟩ := bind_some h
     refine ht_seqR hn (El := [_, _, _, _, _, _, _, (18, .v (.int .i64 v6)), (8, .v (.int .i64 v6))]) (init := [0, 1, 2, 3, 4, 5, 6]) (fin := [0, 1, 2, 3, 8]) (sps := [⟨[4], [], [7], [(.slot 18)]⟩, ⟨[7], [4], [8], [(.slot 8)]⟩]) (es' := [(_, _), (_, _), (_, _), (_, _), (8, .v (.int .i64 v6))]) (by kernel_rfl) rfl rfl
      ⟨st_plain rfl (op_bin _ _ _ _ _ rfl rfl (ibind (f := Value.int .i64) (Option.some.inj hv6))),
      st_plain rfl (LOp.drop [_] (op_move _ _ _ _ rfl rfl)),
      trivial⟩ ?_
     exact pt_next _ (Option.some.inj h).symm rfl
   ·have h := cond_f hb19 h
    refine ht_exit ?_
    refine pt_x_then ?_
    refine pt_x_then ?_
    refine pt_x_in ?_
    refine pt_pick [2] (by kernel_rfl) (es' := [(_, _)]) rfl ?_
    exact hl14 _ (ho16 _ (Option.some.inj h).symm).symm

set_option maxHeartbeats 1000000 in
theorem ok_slices_ContainsFunc_api_Param_api_Param_of_verb_parameters_1 (bx : Nat) (s : (List T_Param)) (cap : T_Param) (r : Bool) (h : Sh.slices_ContainsFunc_api_Param_api_Param_of_verb_parameters_1 s cap = some r) : FnG Tryd.prog [(bx, [.string cap.Key, .string cap.Val])] 54 [.fl .shr 2 (List.flatten (List.map T_Param.enc s)), .v (.func (.func 55) #[] #[.pointer (some ⟨bx, 0, none⟩)])] (.v (.bool r)) := by
  unfold Sh.slices_ContainsFunc_api_Param_api_Param_of_verb_parameters_1 at h
  refine fn_okG Tryd.func54 rfl (Nat.le_of_ble_eq_true rfl) rfl rfl fun g0 hn hio => ?_
  refine ht_seq ?_
  refine ht_seqR hn (El := [_, _, _, (4, .v (.bool false))]) (init := [0, 1, 2]) (fin := [0, 1, 2]) (sps := [⟨[], [], [3], [(.slot 4)]⟩]) (es' := [(_, _), (_, _), (_, _)]) (by kernel_rfl) rfl rfl
   ⟨st_plain rfl (op_assign _ _ _ _ rfl rfl),
   trivial⟩ ?_
  refine pt_then ?_
  refine ht_seq ?_
  obtain ⟨v1, hv1, h⟩ := bind_some h
  refine ht_seqR hn (El := [_, _, _, (5, .fl .shr 2 (List.flatten (List.map T_Param.enc s))), (6, .v (.func (.func 55) #[] #[.pointer (some ⟨bx, 0, none⟩)])), (7, .v (.int .i64 v1)), (8, .v (.bool ((decide (0 ≤ v1))))), (4, .v (.bool ((decide (0 ≤ v1)))))]) (init := [0, 1, 2]) (fin := [2, 7]) (sps := [⟨[0], [], [3], [(.slot 5)]⟩, ⟨[1], [], [4], [(.slot 6)]⟩, ⟨[3, 4, 2], [], [5], [(.slot 7)]⟩, ⟨[5], [], [6], [(.slot 8)]⟩, ⟨[6], [], [7], [(.slot 4)]⟩]) (es' := [(_, _), (4, .v (.bool ((decide (0 ≤ v1)))))]) (by kernel_rfl) rfl rfl
   ⟨st_plain rfl (op_move _ _ _ _ rfl rfl),
   st_plain rfl (op_move _ _ _ _ rfl rfl),
   st_plain rfl (op_callG _ _ 9 66 _ _ rfl Tryd.call66 rfl rfl (fun _ h => h) (ok_slices_IndexFunc_api_Param_api_Param_of_verb_parameters_1 bx s cap _ hv1) rfl rfl),
   st_plain rfl (op_bin _ _ _ _ _ rfl rfl rfl),
   st_plain rfl (op_assign _ _ _ _ rfl rfl),
   trivial⟩ ?_
  refine pt_then ?_
  refine ht_ret ?_
  refine pt_pick [1] (by kernel_rfl) (es' := [(_, _)]) rfl ?_
  obtain rfl := Option.some.inj h
  exact pt_ret hio rfl (.tmp _ _ .nil) rfl rfl

set_option maxHeartbeats 1000000 in
theorem ok_verb_parameters (mx : Int) (kind : Int) (s : ByteArray) (r : ((List T_Param) × Bool)) (h : Sh.verb_parameters kind s = some r) : FnG Tryd.prog (GL mx) 43 [.v (.int .i64 kind), .v (.string s)] (.tup [.fl .ro 2 (List.flatten (List.map T_Param.enc r.1)), .v (.bool r.2)]) := by
  unfold Sh.verb_parameters at h
  refine fn_okG Tryd.func43 rfl (Nat.le_of_ble_eq_true rfl) rfl rfl fun g0 hn hio => ?_
  refine ht_seq ?_
  refine ht_seqR hn (El := [_, _, _, (2, .box 3 [.v (.int .i64 kind)]), (4, .box 24 [.v (.slice none 0 0)]), (5, .box 4 [.v (.bool false)])]) (init := [0, 1, 2]) (fin := [1, 2, 3, 4, 5]) (sps := [⟨[0], [], [3], [(.slot 2)]⟩, ⟨[], [], [4], [(.slot 4)]⟩, ⟨[], [], [5], [(.slot 5)]⟩]) (es' := [(_, _), (_, _), (2, .box 3 [.v (.int .i64 kind)]), (4, .box 24 [.v (.slice none 0 0)]), (5, .box 4 [.v (.bool false)])]) (by kernel_rfl) rfl rfl
   ⟨st_plain rfl (op_box _ _ _ _ rfl rfl rfl),
   st_plain rfl (op_alloc _ _ zr24),
   st_plain rfl (op_alloc _ _ zr4),
   trivial⟩ ?_
  refine pt_then ?_
  refine ht_seq ?_
  refine ht_seqR hn (El := [_, _, _, _, _, (6, .box 24 [.v (.slice none 0 0)])]) (init := [0, 1, 2, 3, 4]) (fin := [0, 1, 2, 3, 4, 5]) (sps := [⟨[], [], [5], [(.slot 6)]⟩]) (es' := [(_, _), (_, _), (_, _), (_, _), (_, _), (6, .box 24 [.v (.slice none 0 0)])]) (by kernel_rfl) rfl rfl
   ⟨st_plain rfl (op_alloc _ _ zr24),
   trivial⟩ ?_
  refine pt_then ?_
  refine ht_seq ?_
  refine ht_seq ?_
  refine ht_seqR hn (El := [_, _, _, _, _, _, (14, .v (.string s)), (15, .v (.bool ((s.toList == (⟨#[]⟩ : ByteArray).toList))))]) (init := [0, 1, 2, 3, 4, 5]) (fin := [0, 1, 2, 3, 4, 5, 7]) (sps := [⟨[0], [], [6], [(.slot 14)]⟩, ⟨[6], [], [7], [(.slot 15)]⟩]) (es' := [(_, _), (_, _), (_, _), (_, _), (_, _), (_, _), (15, .v (.bool ((s.toList == (⟨#[]⟩ : ByteArray).toList))))]) (by kernel_rfl) rfl rfl
   ⟨st_plain rfl (op_move _ _ _ _ rfl rfl),
   st_plain rfl (op_bin _ _ _ _ _ rfl rfl rfl),
   trivial⟩ ?_
  refine pt_then ?_
  refine ht_cond _ rfl (fun hb33 => ?_) (fun hb33 => ?_)
  ·have h := cond_t hb33 h
   refine ht_seq ?_
   refine ht_seqR hn (El := [_, _, _, _, _, _, _, (16, .v (.slice none 0 0)), (4, .box 24 [.v (.slice none 0 0)]), (5, .box 4 [.v (.bool true)])]) (init := [0, 1, 2, 3, 4, 5, 6]) (fin := [1, 8, 9]) (sps := [⟨[5], [], [7], [(.slot 16)]⟩, ⟨[7], [3], [8], [.cell 4 0]⟩, ⟨[], [4], [9], [.cell 5 0]⟩]) (es' := [(_, _), (4, .box 24 [.v (.slice none 0 0)]), (5, .box 4 [.v (.bool true)])]) (by kernel_rfl) rfl rfl
    ⟨st_plain rfl (op_load _ _ _ _ _ _ Tryd.underlying24 rfl rfl rfl (Nat.le_of_ble_eq_true rfl) rfl rfl rfl),
    st_plain rfl (op_store _ _ _ _ _ _ _ _ sz24 rfl rfl rfl rfl (Nat.le_of_ble_eq_true rfl) rfl rfl),
    st_plain rfl (op_store _ _ _ _ _ _ _ _ sz4 rfl rfl rfl rfl (Nat.le_of_ble_eq_true rfl) rfl rfl),
    trivial⟩ ?_
   refine pt_then ?_
   refine ht_ret ?_
   refine pt_pick [1, 2] (by kernel_rfl) (es' := [(_, _), (_, _)]) rfl ?_
   refine pt_sub (fs := [(4, .box 24 [.fl (.own 46) 2 (List.flatten (List.map T_Param.enc []))]), (5, .box 4 [.v (.bool true)])]) (.box _ _ (subs_cons (sub_nil 46 2) (subs_nil)) rfl (.same _ .nil)) ?_
   refine pt_frz 0 hio (es' := [(4, .box 24 [.fl .ro 2 (List.flatten (List.map T_Param.enc []))]), (5, .box 4 [.v (.bool true)])]) rfl ?_
   refine pt_r_then ?_
   obtain rfl := Option.some.inj h
   exact pt_ret hio rfl (.cell1 _ _ _ _ Tryd.underlying24 rfl (.cell1 _ _ _ _ Tryd.underlying4 rfl .nil)) rfl rfl
  ·have h := cond_f hb33 h
   refine ht_skip ?_
   refine pt_then ?_
   refine ht_seq ?_
   obtain ⟨v2, hv2, h⟩ := bind_some h
   refine ht_seqR hn (El := [_, _, _, _, _, _, _, (18, .v (.string s)), (19, .tup [.v (.string v2.1), .v (.bool v2.2)]), (17, .tup [.v (.string v2.1), .v (.bool v2.2)]), (20, .v (.string v2.1)), (21, .v (.bool v2.2)), (1, .v (.string v2.1)), (7, .v (.bool v2.2))]) (init := [0, 1, 2, 3, 4, 5, 6]) (fin := [1, 2, 3, 4, 5, 12, 13]) (sps := [⟨[0], [], [7], [(.slot 18)]⟩, ⟨[7], [], [8], [(.slot 19)]⟩, ⟨[], [8], [9], [(.slot 17)]⟩, ⟨[9], [], [10], [(.slot 20)]⟩, ⟨[9], [], [11], [(.slot 21)]⟩, ⟨[10], [0], [12], [(.slot 1)]⟩, ⟨[11], [], [13], [(.slot 7)]⟩]) (es' := [(_, _), (_, _), (_, _), (_, _), (_, _), (1, .v (.string v2.1)), (7, .v (.bool v2.2))]) (by kernel_rfl) rfl rfl
    ⟨st_plain rfl (op_move _ _ _ _ rfl rfl),
    st_plain rfl (op_call _ _ 51 _ _ rfl Tryd.call51 rfl (ok_strings_CutPrefix s (⟨#[32]⟩ : ByteArray) _ hv2) rfl rfl),
    st_plain rfl (op_move_take _ _ _ _ rfl),
    st_plain rfl (op_extract _ _ _ _ _ rfl rfl (Nat.le_of_ble_eq_true rfl) rfl rfl),
    st_plain rfl (op_extract _ _ _ _ _ rfl rfl (Nat.le_of_ble_eq_true rfl) rfl rfl),
    st_plain rfl (LOp.drop [_] (op_assign _ _ _ _ rfl rfl)),
    st_plain rfl (op_assign _ _ _ _ rfl rfl),
    trivial⟩ ?_
   refine pt_then ?_
   refine ht_seq ?_
   refine ht_seq ?_
   refine ht_seqR hn (El := [_, _, _, _, _, _, _, (22, .v (.bool v2.2)), (23, .v (.bool (!v2.2)))]) (init := [0, 1, 2, 3, 4, 5, 6]) (fin := [0, 1, 2, 3, 4, 5, 8]) (sps := [⟨[6], [], [7], [(.slot 22)]⟩, ⟨[7], [], [8], [(.slot 23)]⟩]) (es' := [(_, _), (_, _), (_, _), (_, _), (_, _), (_, _), (23, .v (.bool (!v2.2)))]) (by kernel_rfl) rfl rfl
    ⟨st_plain rfl (op_move _ _ _ _ rfl rfl),
    st_plain rfl (op_un _ _ _ _ rfl rfl),
    trivial⟩ ?_
   refine pt_then ?_
   refine ht_cond _ rfl (fun hb34 => ?_) (fun hb34 => ?_)
   ·have h := cond_t hb34 h
    refine ht_seq ?_
    refine ht_seqR hn (El := [_, _, _, _, _, _, _, (4, .box 24 [.v (.slice none 0 0)]), (5, .box 4 [.v (.bool false)])]) (init := [0, 1, 2, 3, 4, 5, 6]) (fin := [0, 7, 8]) (sps := [⟨[], [2], [7], [.cell 4 0]⟩, ⟨[], [3], [8], [.cell 5 0]⟩]) (es' := [(_, _), (4, .box 24 [.v (.slice none 0 0)]), (5, .box 4 [.v (.bool false)])]) (by kernel_rfl) rfl rfl
     ⟨st_plain rfl (op_store _ _ _ _ _ _ _ _ sz24 rfl rfl rfl rfl (Nat.le_of_ble_eq_true rfl) rfl rfl),
     st_plain rfl (op_store _ _ _ _ _ _ _ _ sz4 rfl rfl rfl rfl (Nat.le_of_ble_eq_true rfl) rfl rfl),
     trivial⟩ ?_
    refine pt_then ?_
    refine ht_ret ?_
    refine pt_pick [1, 2] (by kernel_rfl) (es' := [(_, _), (_, _)]) rfl ?_
    refine pt_sub (fs := [(4, .box 24 [.fl (.own 46) 2 (List.flatten (List.map T_Param.enc []))]), (5, .box 4 [.v (.bool false)])]) (.box _ _ (subs_cons (sub_nil 46 2) (subs_nil)) rfl (.same _ .nil)) ?_
    refine pt_frz 0 hio (es' := [(4, .box 24 [.fl .ro 2 (List.flatten (List.map T_Param.enc []))]), (5, .box 4 [.v (.bool false)])]) rfl ?_
    refine pt_r_then ?_
    obtain rfl := Option.some.inj h
    exact pt_ret hio rfl (.cell1 _ _ _ _ Tryd.underlying24 rfl (.cell1 _ _ _ _ Tryd.underlying4 rfl .nil)) rfl rfl
   ·have h := cond_f hb34 h
    refine ht_skip ?_
    refine pt_then ?_
    refine ht_seq ?_
    refine ht_seq ?_
    obtain ⟨v4, hv4, h⟩ := bind_some h
    refine ht_seqR hn (El := [_, _, _, _, _, _, _, (24, .v (.string v2.1)), (25, .cloB 71 [.box 9 [.v (.string v4.1)], .box 9 [.v (.string v4.2.1)], .box 3 [.v (.int .i64 v4.2.2)]])]) (init := [0, 1, 2, 3, 4, 5, 6]) (fin := [0, 1, 2, 3, 4, 8]) (sps := [⟨[5], [], [7], [(.slot 24)]⟩, ⟨[7], [], [8], [(.slot 25)]⟩]) (es' := [(_, _), (_, _), (_, _), (_, _), (_, _), (25, .cloB 71 [.box 9 [.v (.string v4.1)], .box 9 [.v (.string v4.2.1)], .box 3 [.v (.int .i64 v4.2.2)]])]) (by kernel_rfl) rfl rfl
     ⟨st_plain rfl (op_move _ _ _ _ rfl rfl),
     st_plain rfl (op_callS _ _ 47 _ _ rfl Tryd.call47 rfl rfl (ok_strings_SplitSeq v2.1 (⟨#[32]⟩ : ByteArray) _ hv4) rfl),
     trivial⟩ ?_
    refine pt_then ?_
    refine ht_block ?_
    refine ht_pick [5, 0, 1, 2, 3, 4] (by kernel_rfl) (es' := [(25, .cloB 71 [.box 9 [.v (.string v4.1)], .box 9 [.v (.string v4.2.1)], .box 3 [.v (.int .i64 v4.2.2)]]), (53, .glob (GL mx)), (2, .box 3 [.v (.int .i64 kind)]), (4, .box 24 [.v (.slice none 0 0)]), (5, .box 4 [.v (.bool false)]), (6, .box 24 [.v (.slice none 0 0)])]) rfl ?_
    refine ht_sub (fs := [(25, .cloB 71 [.box 9 [.v (.string v4.1)], .box 9 [.v (.string v4.2.1)], .box 3 [.v (.int .i64 v4.2.2)]]), (53, .glob (GL mx)), (2, .box 3 [.v (.int .i64 kind)]), (4, .box 24 [.v (.slice none 0 0)]), (5, .box 4 [.v (.bool false)]), (6, .box 24 [.fl (.own 46) 2 (List.flatten (List.map T_Param.enc []))])]) (.same _ (.same _ (.same _ (.same _ (.same _ (.box _ _ (subs_cons (sub_nil 46 2) (subs_nil)) rfl .nil)))))) ?_
    refine ht_rangeF h 71 25 26 54 _ [53, 2, 4, 5, 6] Tryd.call71 (fun (s46 : (List T_Param)) => [(53, .glob (GL mx)), (2, .box 3 [.v (.int .i64 kind)]), (4, .box 24 [.v (.slice none 0 0)]), (5, .box 4 [.v (.bool false)]), (6, .box 24 [.fl (.own 46) 2 (List.flatten (List.map T_Param.enc s46))])]) (fun (s52 : (List T_Param)) => [(53, .glob (GL mx)), (2, .box 3 [.v (.int .i64 kind)]), (4, .box 24 [.v (.slice none 0 0)]), (5, .box 4 [.v (.bool false)]), (6, .box 24 [.fl (.own 46) 2 (List.flatten (List.map T_Param.enc s52))])]) (fun l J Y hY t t' h => ok_strings_splitSeq_1 mx l J Y hY v4.1 v4.2.1 v4.2.2 t t' h) hn rfl (fun _ => rfl) (fun _ => rfl) (fun _ => rfl) rfl rfl (fun _ => ⟨rfl, rfl⟩) rfl (glIn_look 53 rfl) ?_ ?_ ?_
    ·rintro kk g0 hn hio x s46 u h
     refine ht_es (es' := [(26, .v (.string x)), (53, .glob (GL mx)), (2, .box 3 [.v (.int .i64 kind)]), (4, .box 24 [.v (.slice none 0 0)]), (5, .box 4 [.v (.bool false)]), (6, .box 24 [.fl (.own 46) 2 (List.flatten (List.map T_Param.enc s46))]), (53, .v (kk.tm.getD 53 undef)), (2, .v (kk.tm.getD 2 undef)), (4, .v (kk.tm.getD 4 undef)), (5, .v (kk.tm.getD 5 undef)), (6, .v (kk.tm.getD 6 undef)), (54, .inv kk.ready)]) rfl ?_
     refine ht_seqR hn (El := [_, _, _, _, _, _, _, _, _, _, _, _, (8, .v (.string x))]) (init := [0, 1, 2, 3, 4, 5, 6, 7, 8, 9, 10, 11]) (fin := [1, 2, 3, 4, 5, 6, 7, 8, 9, 10, 11, 12]) (sps := [⟨[0], [], [12], [(.slot 8)]⟩]) (es' := [(_, _), (_, _), (_, _), (_, _), (_, _), (_, _), (_, _), (_, _), (_, _), (_, _), (_, _), (8, .v (.string x))]) (by kernel_rfl) rfl rfl
      ⟨st_plain rfl (op_assign _ _ _ _ rfl rfl),
      trivial⟩ ?_
     refine pt_pick [0, 1, 2, 3, 4, 5, 6, 7, 8, 9, 11, 10] (by kernel_rfl) (es' := [(53, .glob (GL mx)), (2, .box 3 [.v (.int .i64 kind)]), (4, .box 24 [.v (.slice none 0 0)]), (5, .box 4 [.v (.bool false)]), (6, .box 24 [.fl (.own 46) 2 (List.flatten (List.map T_Param.enc s46))]), (53, .v (kk.tm.getD 53 undef)), (2, .v (kk.tm.getD 2 undef)), (4, .v (kk.tm.getD 4 undef)), (5, .v (kk.tm.getD 5 undef)), (6, .v (kk.tm.getD 6 undef)), (8, .v (.string x)), (54, .inv kk.ready)]) rfl ?_
     refine pt_begin (es := [(53, .glob (GL mx)), (2, .box 3 [.v (.int .i64 kind)]), (4, .box 24 [.v (.slice none 0 0)]), (5, .box 4 [.v (.bool false)]), (6, .box 24 [.fl (.own 46) 2 (List.flatten (List.map T_Param.enc s46))]), (53, .v (kk.tm.getD 53 undef)), (2, .v (kk.tm.getD 2 undef)), (4, .v (kk.tm.getD 4 undef)), (5, .v (kk.tm.getD 5 undef)), (6, .v (kk.tm.getD 6 undef)), (8, .v (.string x))]) 54 rfl ?_
     refine ht_block ?_
     refine ht_seq ?_
     obtain ⟨v5, hv5, h⟩ := bind_some h
     refine ht_seqR hn (El := (_ :: _ :: _ :: _ :: _ :: _ :: _ :: _ :: _ :: _ :: _ :: _ :: (28, .v (.string x)) :: (29, .tup [.v (.string v5.1), .v (.string v5.2.1), .v (.bool v5.2.2)]) :: (27, .tup [.v (.string v5.1), .v (.string v5.2.1), .v (.bool v5.2.2)]) :: (30, .v (.string v5.1)) :: (31, .v (.string v5.2.1)) :: (32, .v (.bool v5.2.2)) :: (9, .v (.string v5.1)) :: (10, .v (.string v5.2.1)) :: (11, .v (.bool v5.2.2)) :: [])) (init := [0, 1, 2, 3, 4, 5, 6, 7, 8, 9, 10, 11]) (fin := [0, 1, 2, 3, 4, 5, 6, 7, 8, 9, 11, 18, 19]) (sps := [⟨[10], [], [12], [(.slot 28)]⟩, ⟨[12], [], [13], [(.slot 29)]⟩, ⟨[], [13], [14], [(.slot 27)]⟩, ⟨[14], [], [15], [(.slot 30)]⟩, ⟨[14], [], [16], [(.slot 31)]⟩, ⟨[14], [], [17], [(.slot 32)]⟩, ⟨[15], [], [18], [(.slot 9)]⟩, ⟨[16], [], [19], [(.slot 10)]⟩, ⟨[17], [], [20], [(.slot 11)]⟩]) (es' := [(_, _), (_, _), (_, _), (_, _), (_, _), (_, _), (_, _), (_, _), (_, _), (_, _), (_, _), (9, .v (.string v5.1)), (10, .v (.string v5.2.1))]) (by kernel_rfl) rfl rfl
      ⟨st_plain rfl (op_move _ _ _ _ rfl rfl),
      st_plain rfl (op_call _ _ 30 _ _ rfl Tryd.call30 rfl (ok_strings_Cut x (⟨#[61]⟩ : ByteArray) _ hv5) rfl rfl),
      st_plain rfl (op_move_take _ _ _ _ rfl),
      st_plain rfl (op_extract _ _ _ _ _ rfl rfl (Nat.le_of_ble_eq_true rfl) rfl rfl),
      st_plain rfl (op_extract _ _ _ _ _ rfl rfl (Nat.le_of_ble_eq_true rfl) rfl rfl),
      st_plain rfl (op_extract _ _ _ _ _ rfl rfl (Nat.le_of_ble_eq_true rfl) rfl rfl),
      st_plain rfl (op_assign _ _ _ _ rfl rfl),
      st_plain rfl (op_assign _ _ _ _ rfl rfl),
      st_plain rfl (op_assign _ _ _ _ rfl rfl),
      trivial⟩ ?_
     refine pt_then ?_
     refine ht_seq ?_
     obtain ⟨v6, hv6, h⟩ := bind_some h
     obtain ⟨v7, hv7, h⟩ := bind_some h
     refine ht_anyR (by kernel_rfl) hn (El := (_ :: _ :: _ :: _ :: _ :: _ :: _ :: _ :: _ :: _ :: _ :: _ :: _ :: (34, .v (.int .i64 kind)) :: (35, .v (.string v5.1)) :: (36, .v (.string v6)) :: (37, .v (.string v5.2.1)) :: (38, .tup [.agg [.v (.string v7.1.Key), .v (.string v7.1.Val)], .v (.bool v7.2)]) :: (33, .tup [.agg [.v (.string v7.1.Key), .v (.string v7.1.Val)], .any]) :: (33, .tup [.any, .v (.bool v7.2)]) :: (39, .agg [.v (.string v7.1.Key), .v (.string v7.1.Val)]) :: (33, .tup [.any, .any]) :: (40, .v (.bool v7.2)) :: (12, .box 46 [.v (.string (⟨#[]⟩ : ByteArray)), .v (.string (⟨#[]⟩ : ByteArray))]) :: (12, .box 46 [.v (.string v7.1.Key), .v (.string v7.1.Val)]) :: (13, .v (.bool v7.2)) :: [])) (init := [0, 1, 2, 3, 4, 5, 6, 7, 8, 9, 10, 11, 12]) (fin := [0, 1, 2, 3, 4, 5, 6, 7, 8, 9, 10, 24, 25]) (sps := [⟨[1], [], [13], [(.slot 34)]⟩, ⟨[11], [], [14], [(.slot 35)]⟩, ⟨[14], [], [15], [(.slot 36)]⟩, ⟨[12], [], [16], [(.slot 37)]⟩, ⟨[13, 15, 16], [], [17], [(.slot 38)]⟩, ⟨[], [17], [18, 19], [(.slot 33)]⟩, ⟨[], [18], [21, 20], [(.slot 39)]⟩, ⟨[19], [], [22], [(.slot 40)]⟩, ⟨[], [], [23], [(.slot 12)]⟩, ⟨[20], [23], [24], [.cell 12 0, .cell 12 1]⟩, ⟨[22], [], [25], [(.slot 13)]⟩]) (es' := [(_, _), (_, _), (_, _), (_, _), (_, _), (_, _), (_, _), (_, _), (_, _), (_, _), (_, _), (12, .box 46 [.v (.string v7.1.Key), .v (.string v7.1.Val)]), (13, .v (.bool v7.2))]) (by kernel_rfl) rfl rfl
      ⟨st_plain rfl (op_load _ _ _ _ _ _ Tryd.underlying3 rfl rfl rfl (Nat.le_of_ble_eq_true rfl) rfl rfl rfl),
      st_plain rfl (op_move _ _ _ _ rfl rfl),
      st_plain rfl (op_call _ _ 31 _ _ rfl Tryd.call31 rfl (ok_path_Fold v5.1 _ hv6) rfl rfl),
      st_plain rfl (op_move _ _ _ _ rfl rfl),
      st_plain rfl (op_call _ _ 53 _ _ rfl Tryd.call53 rfl (ok_verb_parameter kind v6 v5.2.1 _ hv7) rfl rfl),
      st_plain rfl (LOp.split (A := []) 33 0 _ _ _ (op_move_take _ _ _ _ rfl) (Nat.le_of_ble_eq_true rfl) rfl rfl),
      st_plain rfl (op_extract_take _ _ _ _ _ rfl (Nat.le_of_ble_eq_true rfl) rfl rfl (by decide) rfl),
      st_plain rfl (op_extract _ _ _ _ _ rfl rfl (Nat.le_of_ble_eq_true rfl) rfl rfl),
      st_plain rfl (op_alloc _ _ zr46),
      st_plain rfl (op_store _ _ _ _ _ _ _ _ sz46 rfl rfl rfl rfl (Nat.le_of_ble_eq_true rfl) rfl rfl),
      st_plain rfl (op_assign _ _ _ _ rfl rfl),
      trivial⟩ ?_
     refine pt_then ?_
     refine ht_seq ?_
     refine ht_seq ?_
     refine ht_joinS h (fun (s53 : Bool) => [(53, .glob (GL mx)), (2, .box 3 [.v (.int .i64 kind)]), (4, .box 24 [.v (.slice none 0 0)]), (5, .box 4 [.v (.bool false)]), (6, .box 24 [.fl (.own 46) 2 (List.flatten (List.map T_Param.enc s46))]), (53, .v (kk.tm.getD 53 undef)), (2, .v (kk.tm.getD 2 undef)), (4, .v (kk.tm.getD 4 undef)), (5, .v (kk.tm.getD 5 undef)), (6, .v (kk.tm.getD 6 undef)), (54, .inv kk.busy), (12, .box 46 [.v (.string v7.1.Key), .v (.string v7.1.Val)]), (47, .v (.bool s53))]) ?_ ?_
     ·rintro s53 h
      refine pt_then ?_
      refine ht_cond _ rfl (fun hb57 => ?_) (fun hb57 => ?_)
      ·have h := cond_t hb57 h
       refine ht_seq ?_
       refine ht_seqR hn (El := (_ :: _ :: _ :: _ :: _ :: _ :: _ :: _ :: _ :: _ :: _ :: _ :: _ :: (4, .box 24 [.v (.slice none 0 0)]) :: (5, .box 4 [.v (.bool false)]) :: [])) (init := [0, 1, 2, 3, 4, 5, 6, 7, 8, 9, 10, 11, 12]) (fin := [0, 1, 13, 14, 4, 5, 6, 7, 8, 9, 10]) (sps := [⟨[], [2], [13], [.cell 4 0]⟩, ⟨[], [3], [14], [.cell 5 0]⟩]) (es' := [(_, _), (_, _), (4, .box 24 [.v (.slice none 0 0)]), (5, .box 4 [.v (.bool false)]), (_, _), (_, _), (_, _), (_, _), (_, _), (_, _), (_, _)]) (by kernel_rfl) rfl rfl
        ⟨st_plain rfl (op_store _ _ _ _ _ _ _ _ sz24 rfl rfl rfl rfl (Nat.le_of_ble_eq_true rfl) rfl rfl),
        st_plain rfl (op_store _ _ _ _ _ _ _ _ sz4 rfl rfl rfl rfl (Nat.le_of_ble_eq_true rfl) rfl rfl),
        trivial⟩ ?_
       refine pt_then ?_
       refine ht_ret ?_
       refine pt_r_then ?_
       refine pt_r_in ?_
       obtain rfl := Option.some.inj h
       exact pt_rret 54 [53, 2, 4, 5, 6] _ rfl rfl (by kernel_rfl)
      ·have h := cond_f hb57 h
       refine ht_skip ?_
       refine pt_then ?_
       obtain ⟨v14, hv14, h⟩ := bind_some h
       refine ht_seqR hn (El := (_ :: _ :: _ :: _ :: _ :: _ :: _ :: _ :: _ :: _ :: _ :: _ :: _ :: (48, .same (.cell 6 0)) :: (49, .agg [.v (.string v7.1.Key), .v (.string v7.1.Val)]) :: (50, .fl (.own 46) 2 (List.flatten (List.map T_Param.enc [v7.1]))) :: (51, .fl (.own 46) 2 (List.flatten (List.map T_Param.enc v14))) :: (6, .box 24 [.any]) :: (6, .box 24 [.fl (.own 46) 2 (List.flatten (List.map T_Param.enc v14))]) :: [])) (init := [0, 1, 2, 3, 4, 5, 6, 7, 8, 9, 10, 11, 12]) (fin := [0, 1, 2, 3, 18, 5, 6, 7, 8, 9, 10]) (sps := [⟨[4], [], [13], [(.slot 48)]⟩, ⟨[11], [], [14], [(.slot 49)]⟩, ⟨[14], [], [15], [(.slot 50)]⟩, ⟨[13, 15], [4], [17, 16], [(.slot 51)]⟩, ⟨[], [13, 16, 17], [18], [.cell 6 0]⟩]) (es' := [(_, _), (_, _), (_, _), (_, _), (6, .box 24 [.fl (.own 46) 2 (List.flatten (List.map T_Param.enc v14))]), (_, _), (_, _), (_, _), (_, _), (_, _), (_, _)]) (by kernel_rfl) rfl rfl
        ⟨st_plain rfl (op_load _ _ _ _ _ _ Tryd.underlying24 rfl rfl rfl (Nat.le_of_ble_eq_true rfl) rfl rfl rfl),
        st_plain rfl (op_loadA _ _ _ _ _ _ _ Tryd.underlying46 rfl sz46 rfl rfl (Nat.le_of_ble_eq_true rfl) rfl rfl),
        st_plain rfl (op_buildSlice _ _ 2 (.agg #[.string ByteArray.empty, .string ByteArray.empty]) (List.flatten (List.map T_Param.enc [v7.1])) [(0, .agg #[.string v7.1.Key, .string v7.1.Val])] Tryd.underlying24 sz46 zr46 (fun _ V w o a hv hes => by have e0 := agg_v (ys := [.string v7.1.Key, .string v7.1.Val]) hv hes (x := .tmp 49) rfl; simp only [List.map_toArray, List.map_cons, List.map_nil, e0]; try rfl) (litfill (by simp [Instr.fill, Value.cells]; rfl) (by simp [List.range, List.range.loop, T_Param.enc] <;> rfl)) (by simp [Value.oneCell', T_Param.enc]) rfl (by decide) (by decide) (by decide)),
        st_plain rfl (op_app_cell _ _ _ _ _ _ el24 rfl rfl (Nat.le_of_ble_eq_true rfl) rfl (flat_len T_Param.len _) (flat_len T_Param.len _) hv14 (flat_app (app_eq hv14)) (Nat.ne_of_beq_eq_false rfl) rfl rfl),
        st_plain rfl (LOp.drop [_] (op_store_take _ _ _ _ _ _ _ _ sz24 rfl rfl rfl (Nat.le_of_ble_eq_true rfl) rfl rfl)),
        trivial⟩ ?_
       refine pt_inb ?_
       obtain rfl := Option.some.inj h
       exact pt_rnext 54 [53, 2, 4, 5, 6] _ rfl rfl (by kernel_rfl)
     ·intro u54 h hl55 hr56
      refine cond_some h (fun hg11_2 h => ?_) (fun hg11_2 h => ?_)
      ·refine ht_seqR hn (El := (_ :: _ :: _ :: _ :: _ :: _ :: _ :: _ :: _ :: _ :: _ :: _ :: _ :: (41, .v (.bool v7.2)) :: (42, .v (.bool (!v7.2))) :: (43, .v (.bool true)) :: (44, .v undef) :: (45, .v undef) :: (46, .v undef) :: (47, .v (.bool true)) :: [])) (init := [0, 1, 2, 3, 4, 5, 6, 7, 8, 9, 10, 11, 12]) (fin := [0, 1, 2, 3, 4, 5, 6, 7, 8, 9, 10, 11, 19]) (sps := [⟨[12], [], [13], [(.slot 41)]⟩, ⟨[13], [], [14], [(.slot 42)]⟩, ⟨[14], [], [15], [(.slot 43)]⟩, ⟨[15], [], [16], [(.slot 44)]⟩, ⟨[15], [], [17], [(.slot 45)]⟩, ⟨[15], [], [18], [(.slot 46)]⟩, ⟨[15], [], [19], [(.slot 47)]⟩]) (es' := [(_, _), (_, _), (_, _), (_, _), (_, _), (_, _), (_, _), (_, _), (_, _), (_, _), (_, _), (_, _), (47, .v (.bool true))]) (by kernel_rfl) rfl rfl
        ⟨st_plain rfl (op_move _ _ _ _ rfl rfl),
        st_plain rfl (op_un _ _ _ _ rfl rfl),
        st_plain rfl (op_move _ _ _ _ (congrArg (fun b => AV.v (Value.bool b)) hg11_2) rfl),
        st_skip 2 43 _ false rfl rfl rfl rfl (List.Mem.head _),
        st_skip 2 43 _ false rfl rfl rfl rfl (List.Mem.head _),
        st_skip 2 43 _ false rfl rfl rfl rfl (List.Mem.head _),
        st_plain rfl (op_pick _ _ true _ rfl rfl),
        trivial⟩ ?_
       exact hl55 _ (Option.some.inj h).symm
      ·obtain ⟨v8, hv8, h⟩ := bind_some h
       refine ht_seqR hn (El := (_ :: _ :: _ :: _ :: _ :: _ :: _ :: _ :: _ :: _ :: _ :: _ :: _ :: (41, .v (.bool v7.2)) :: (42, .v (.bool (!v7.2))) :: (43, .v (.bool false)) :: (44, .same (.cell 6 0)) :: (45, .clo 55 [12]) :: (46, .v (.bool v8)) :: (47, .v (.bool v8)) :: [])) (init := [0, 1, 2, 3, 4, 5, 6, 7, 8, 9, 10, 11, 12]) (fin := [0, 1, 2, 3, 4, 5, 6, 7, 8, 9, 10, 11, 19]) (sps := [⟨[12], [], [13], [(.slot 41)]⟩, ⟨[13], [], [14], [(.slot 42)]⟩, ⟨[14], [], [15], [(.slot 43)]⟩, ⟨[15, 4], [], [16], [(.slot 44)]⟩, ⟨[15], [], [17], [(.slot 45)]⟩, ⟨[15, 16, 4, 17, 11], [], [18], [(.slot 46)]⟩, ⟨[15, 18], [], [19], [(.slot 47)]⟩]) (es' := [(_, _), (_, _), (_, _), (_, _), (_, _), (_, _), (_, _), (_, _), (_, _), (_, _), (_, _), (_, _), (47, .v (.bool v8))]) (by kernel_rfl) rfl rfl
        ⟨st_plain rfl (op_move _ _ _ _ rfl rfl),
        st_plain rfl (op_un _ _ _ _ rfl rfl),
        st_plain rfl (op_move _ _ _ _ (congrArg (fun b => AV.v (Value.bool b)) hg11_2) rfl),
        st_run 2 43 false rfl rfl rfl (List.Mem.head _) (op_load _ _ _ _ _ _ Tryd.underlying24 rfl rfl rfl (Nat.le_of_ble_eq_true rfl) rfl rfl rfl),
        st_run 2 43 false rfl rfl rfl (List.Mem.head _) (op_makeFunc_name _ _ _ 12 (by decide)),
        st_run 2 43 false rfl rfl rfl (List.Mem.head _) (op_callC _ 46 12 45 54 55 [.string v7.1.Key, .string v7.1.Val] [.tmp 44] _ _ rfl Tryd.call54 rfl rfl rfl rfl (fun bx => ok_slices_ContainsFunc_api_Param_api_Param_of_verb_parameters_1 bx s46 v7.1 _ hv8) rfl rfl),
        st_plain rfl (op_pick _ _ false _ rfl rfl),
        trivial⟩ ?_
       exact hl55 _ (Option.some.inj h).symm
    ·rintro D s46 h
     refine pt_inb ?_
     refine pt_then ?_
     refine ht_seq ?_
     refine ht_frz 4 hio (es' := [(53, .glob (GL mx)), (2, .box 3 [.v (.int .i64 kind)]), (4, .box 24 [.v (.slice none 0 0)]), (5, .box 4 [.v (.bool false)]), (6, .box 24 [.fl .ro 2 (List.flatten (List.map T_Param.enc s46))])]) rfl ?_
     refine ht_seqR hn (El := [_, _, _, _, _, (52, .fl .ro 2 (List.flatten (List.map T_Param.enc s46))), (4, .box 24 [.fl .ro 2 (List.flatten (List.map T_Param.enc s46))]), (5, .box 4 [.v (.bool true)])]) (init := [0, 1, 2, 3, 4]) (fin := [0, 6, 7]) (sps := [⟨[4], [], [5], [(.slot 52)]⟩, ⟨[5], [2], [6], [.cell 4 0]⟩, ⟨[], [3], [7], [.cell 5 0]⟩]) (es' := [(_, _), (4, .box 24 [.fl .ro 2 (List.flatten (List.map T_Param.enc s46))]), (5, .box 4 [.v (.bool true)])]) (by kernel_rfl) rfl rfl
      ⟨st_plain rfl (op_load _ _ _ _ _ _ Tryd.underlying24 rfl rfl rfl (Nat.le_of_ble_eq_true rfl) rfl rfl rfl),
      st_plain rfl (op_store _ _ _ _ _ _ _ _ sz24 rfl rfl rfl rfl (Nat.le_of_ble_eq_true rfl) rfl rfl),
      st_plain rfl (op_store _ _ _ _ _ _ _ _ sz4 rfl rfl rfl rfl (Nat.le_of_ble_eq_true rfl) rfl rfl),
      trivial⟩ ?_
     refine pt_then ?_
     refine ht_ret ?_
     refine pt_pick [1, 2] (by kernel_rfl) (es' := [(_, _), (_, _)]) rfl ?_
     obtain rfl := Option.some.inj h
     exact pt_ret hio rfl (.cell1 _ _ _ _ Tryd.underlying24 rfl (.cell1 _ _ _ _ Tryd.underlying4 rfl .nil)) rfl rfl
    ·rintro D s52 h
     refine pt_pick [2, 3] (by kernel_rfl) (es' := [(_, _), (_, _)]) rfl ?_
     refine pt_sub (fs := [(4, .box 24 [.fl (.own 46) 2 (List.flatten (List.map T_Param.enc []))]), (5, .box 4 [.v (.bool false)])]) (.box _ _ (subs_cons (sub_nil 46 2) (subs_nil)) rfl (.same _ .nil)) ?_
     refine pt_frz 0 hio (es' := [(4, .box 24 [.fl .ro 2 (List.flatten (List.map T_Param.enc []))]), (5, .box 4 [.v (.bool false)])]) rfl ?_
     refine pt_r_in ?_
     refine pt_r_then ?_
     obtain rfl := Option.some.inj h
     exact pt_ret hio rfl (.cell1 _ _ _ _ Tryd.underlying24 rfl (.cell1 _ _ _ _ Tryd.underlying4 rfl .nil)) rfl rfl

end Go.Proofs.YthfmdofkkkpbkaaDoor
