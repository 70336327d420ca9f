/-
  The model's runs are what is told in Lean.
-/
import Derived.Test.YtdligpdfcfbgpaaProg
import Derived.KernelRfl
import Derived.Test.YtdligpdfcfbgpaaOkc3
set_option linter.unusedVariables false
set_option linter.unusedSimpArgs false
namespace Go.Proofs.Ytdligpdfcfbgpaa
open Go.Abs Go.Abs.Sh

set_option maxHeartbeats 1000000 in
theorem ok_wherrylaw21_SenderWhole (number : Int) (data : (List Int)) (from_ : Int) (r : Bool) (h : Sh.wherrylaw21_SenderWhole number data from_ = some r) : FnOK Try.prog 5 [.v (.int .i64 number), .fl .shr 1 (List.map (Value.int .u8) data), .v (.int .i64 from_)] (.v (.bool r)) := by
  unfold Sh.wherrylaw21_SenderWhole at h
  refine fn_ok Try.func5 rfl (Nat.le_of_ble_eq_true rfl) rfl rfl fun g0 hn hio => ?_
  refine ht_seq ?_
  refine ht_seqR hn (El := [_, _, _, (6, .v (.bool false))]) (init := [0, 1, 2]) (fin := [0, 1, 2]) (sps := [⟨[], [], [3], [(.slot 6)]⟩]) (es' := [(_, _), (_, _), (_, _)]) (by kernel_rfl) rfl rfl
   ⟨st_plain rfl (op_assign _ _ _ _ rfl rfl),
   trivial⟩ ?_
  refine pt_then ?_
  refine ht_seq ?_
  refine ht_seq ?_
  refine ht_seqR hn (El := [_, _, _, (23, .fl .shr 1 (List.map (Value.int .u8) data)), (24, .v (.int .i64 (data.length : Int))), (25, .v (.bool ((decide (2000 < (data.length : Int))))))]) (init := [0, 1, 2]) (fin := [0, 1, 2, 5]) (sps := [⟨[1], [], [3], [(.slot 23)]⟩, ⟨[3], [], [4], [(.slot 24)]⟩, ⟨[4], [], [5], [(.slot 25)]⟩]) (es' := [(_, _), (_, _), (_, _), (25, .v (.bool ((decide (2000 < (data.length : Int))))))]) (by kernel_rfl) rfl rfl
   ⟨st_plain rfl (op_move _ _ _ _ rfl rfl),
   st_plain rfl (op_len_fl _ _ _ Try.underlying22 rfl (by decide) (map_len _)),
   st_plain rfl (op_bin _ _ _ _ _ rfl rfl rfl),
   trivial⟩ ?_
  refine pt_then ?_
  refine ht_cond _ rfl (fun hb1 => ?_) (fun hb1 => ?_)
  ·have h := cond_t hb1 h
   refine ht_seq ?_
   refine ht_seqR hn (El := [_, _, _, _, (6, .v (.bool true))]) (init := [0, 1, 2, 3]) (fin := [4]) (sps := [⟨[], [], [4], [(.slot 6)]⟩]) (es' := [(6, .v (.bool true))]) (by kernel_rfl) rfl rfl
    ⟨st_plain rfl (op_assign _ _ _ _ rfl rfl),
    trivial⟩ ?_
   refine pt_then ?_
   refine ht_ret ?_
   refine pt_r_then ?_
   obtain rfl := Option.some.inj h
   exact pt_ret hio rfl (.tmp _ _ .nil) rfl rfl
  ·have h := cond_f hb1 h
   refine ht_skip ?_
   refine pt_then ?_
   refine ht_seq ?_
   obtain ⟨v2, hv2, h⟩ := bind_some h
   obtain ⟨v3, hv3, h⟩ := bind_some h
   obtain ⟨v4, hv4, h⟩ := bind_some h
   obtain ⟨v5, hv5, h⟩ := bind_some h
   refine ht_seqR hn (El := [_, _, _, _, (26, .v (.int .i64 number)), (27, .v (.int .u64 v2)), (28, .v (.int .u64 v3)), (29, .v (.int .i64 v4)), (30, .v (.int .i64 v5)), (0, .v (.int .i64 v5))]) (init := [0, 1, 2, 3]) (fin := [1, 2, 9]) (sps := [⟨[0], [], [4], [(.slot 26)]⟩, ⟨[4], [], [5], [(.slot 27)]⟩, ⟨[5], [], [6], [(.slot 28)]⟩, ⟨[6], [], [7], [(.slot 29)]⟩, ⟨[7], [], [8], [(.slot 30)]⟩, ⟨[8], [0], [9], [(.slot 0)]⟩]) (es' := [(_, _), (_, _), (0, .v (.int .i64 v5))]) (by kernel_rfl) rfl rfl
    ⟨st_plain rfl (op_move _ _ _ _ rfl rfl),
    st_plain rfl ((Option.some.inj hv2) ▸ op_conv _ _ _ Try.underlying3 Try.underlying51 rfl),
    st_plain rfl (op_bin _ _ _ _ _ rfl rfl (rem_ok hv3)),
    st_plain rfl ((Option.some.inj hv4) ▸ op_conv _ _ _ Try.underlying51 Try.underlying3 rfl),
    st_plain rfl (op_bin _ _ _ _ _ rfl rfl (ibind (f := Value.int .i64) (Option.some.inj hv5))),
    st_plain rfl (LOp.drop [_] (op_assign _ _ _ _ rfl rfl)),
    trivial⟩ ?_
   refine pt_then ?_
   refine ht_seq ?_
   obtain ⟨v6, hv6, h⟩ := bind_some h
   refine ht_seqR hn (El := [_, _, _, (32, .v (.int .i64 v5)), (33, .fl .shr 1 (List.map (Value.int .u8) data)), (34, .tup [.agg [.v (.int .i64 v6.1.Number), .fl (.own 5) 1 (List.map (Value.int .u8) v6.1.Data), .v (.bool v6.1.Ready), .v (.int .i64 v6.1.Base), .v (.int .i64 v6.1.Next), .v (.int .i64 v6.1.Wait), .v (.bool v6.1.Over)], .v (.int .i64 v6.2)]), (31, .tup [.agg [.v (.int .i64 v6.1.Number), .fl (.own 5) 1 (List.map (Value.int .u8) v6.1.Data), .v (.bool v6.1.Ready), .v (.int .i64 v6.1.Base), .v (.int .i64 v6.1.Next), .v (.int .i64 v6.1.Wait), .v (.bool v6.1.Over)], .v (.int .i64 v6.2)]), (35, .agg [.v (.int .i64 v6.1.Number), .fl (.own 5) 1 (List.map (Value.int .u8) v6.1.Data), .v (.bool v6.1.Ready), .v (.int .i64 v6.1.Base), .v (.int .i64 v6.1.Next), .v (.int .i64 v6.1.Wait), .v (.bool v6.1.Over)]), (31, .tup [.any, .v (.int .i64 v6.2)]), (36, .v (.int .i64 v6.2)), (7, .box 24 [.v (.int .i64 0), .v (.slice none 0 0), .v (.bool false), .v (.int .i64 0), .v (.int .i64 0), .v (.int .i64 0), .v (.bool false)]), (7, .box 24 [.v (.int .i64 v6.1.Number), .fl (.own 5) 1 (List.map (Value.int .u8) v6.1.Data), .v (.bool v6.1.Ready), .v (.int .i64 v6.1.Base), .v (.int .i64 v6.1.Next), .v (.int .i64 v6.1.Wait), .v (.bool v6.1.Over)]), (8, .v (.int .i64 v6.2))]) (init := [0, 1, 2]) (fin := [0, 1, 2, 11, 12]) (sps := [⟨[2], [], [3], [(.slot 32)]⟩, ⟨[0], [], [4], [(.slot 33)]⟩, ⟨[3, 4], [], [5], [(.slot 34)]⟩, ⟨[], [5], [6], [(.slot 31)]⟩, ⟨[], [6], [8, 7], [(.slot 35)]⟩, ⟨[8], [], [9], [(.slot 36)]⟩, ⟨[], [], [10], [(.slot 7)]⟩, ⟨[], [7, 10], [11], [.cell 7 0, .cell 7 1, .cell 7 2, .cell 7 3, .cell 7 4, .cell 7 5, .cell 7 6]⟩, ⟨[9], [], [12], [(.slot 8)]⟩]) (es' := [(_, _), (_, _), (_, _), (7, .box 24 [.v (.int .i64 v6.1.Number), .fl (.own 5) 1 (List.map (Value.int .u8) v6.1.Data), .v (.bool v6.1.Ready), .v (.int .i64 v6.1.Base), .v (.int .i64 v6.1.Next), .v (.int .i64 v6.1.Wait), .v (.bool v6.1.Over)]), (8, .v (.int .i64 v6.2))]) (by kernel_rfl) rfl rfl
    ⟨st_plain rfl (op_move _ _ _ _ rfl rfl),
    st_plain rfl (op_move _ _ _ _ rfl rfl),
    st_plain rfl (op_call _ _ 16 _ _ rfl Try.call16 rfl (ok_sender_New v5 data _ hv6) rfl rfl),
    st_plain rfl (op_move_take _ _ _ _ rfl),
    st_plain rfl (op_extract_take _ _ _ _ _ rfl (Nat.le_of_ble_eq_true rfl) rfl rfl (by decide) rfl),
    st_plain rfl (op_extract _ _ _ _ _ rfl rfl (Nat.le_of_ble_eq_true rfl) rfl rfl),
    st_plain rfl (op_alloc _ _ zr24),
    st_plain rfl (op_store_take _ _ _ _ _ _ _ _ sz24 rfl rfl rfl (Nat.le_of_ble_eq_true rfl) rfl rfl),
    st_plain rfl (op_assign _ _ _ _ rfl rfl),
    trivial⟩ ?_
   refine pt_then ?_
   refine ht_seq ?_
   refine ht_seq ?_
   refine ht_seqR hn (El := [_, _, _, _, _, (37, .v (.int .i64 v6.2)), (38, .v (.bool (v6.2 != 0)))]) (init := [0, 1, 2, 3, 4]) (fin := [0, 1, 2, 3, 4, 6]) (sps := [⟨[4], [], [5], [(.slot 37)]⟩, ⟨[5], [], [6], [(.slot 38)]⟩]) (es' := [(_, _), (_, _), (_, _), (_, _), (_, _), (38, .v (.bool (v6.2 != 0)))]) (by kernel_rfl) rfl rfl
    ⟨st_plain rfl (op_move _ _ _ _ rfl rfl),
    st_plain rfl (op_bin _ _ _ _ _ rfl rfl rfl),
    trivial⟩ ?_
   refine pt_then ?_
   refine ht_cond _ rfl (fun hb7 => ?_) (fun hb7 => ?_)
   ·have h := cond_t hb7 h
    refine ht_seq ?_
    refine ht_joinS h (fun (s9 : Bool) => [(6, .v (.bool s9))]) ?_ ?_
    ·rintro s9 h
     refine pt_then ?_
     refine ht_ret ?_
     refine pt_r_then ?_
     obtain rfl := Option.some.inj h
     exact pt_ret hio rfl (.tmp _ _ .nil) rfl rfl
    ·intro u10 h hl11 hr12
     refine cond_some h (fun hg6_2 h => ?_) (fun hg6_2 h => ?_)
     ·refine cond_some h (fun hg6_7 h => ?_) (fun hg6_7 h => ?_)
      ·obtain ⟨v8, hv8, h⟩ := bind_some h
       refine ht_seqR hn (El := (_ :: _ :: _ :: _ :: _ :: _ :: (39, .v (.int .i64 v6.2)) :: (40, .v (.bool (v6.2 == 1))) :: (41, .v (.bool true)) :: (42, .fl .shr 1 (List.map (Value.int .u8) data)) :: (43, .v (.int .i64 (data.length : Int))) :: (44, .v (.bool (((data.length : Int) == 0)))) :: (45, .v (.bool (((data.length : Int) == 0)))) :: (46, .v (.bool true)) :: (47, .v (.bool v8)) :: (48, .v (.bool v8)) :: (6, .v (.bool v8)) :: [])) (init := [0, 1, 2, 3, 4, 5]) (fin := [16]) (sps := [⟨[4], [], [6], [(.slot 39)]⟩, ⟨[6], [], [7], [(.slot 40)]⟩, ⟨[7], [], [8], [(.slot 41)]⟩, ⟨[8, 0], [], [9], [(.slot 42)]⟩, ⟨[8, 9], [], [10], [(.slot 43)]⟩, ⟨[8, 10], [], [11], [(.slot 44)]⟩, ⟨[8, 11], [], [12], [(.slot 45)]⟩, ⟨[12], [], [13], [(.slot 46)]⟩, ⟨[13], [], [14], [(.slot 47)]⟩, ⟨[13, 14], [], [15], [(.slot 48)]⟩, ⟨[15], [], [16], [(.slot 6)]⟩]) (es' := [(6, .v (.bool v8))]) (by kernel_rfl) rfl rfl
        ⟨st_plain rfl (op_move _ _ _ _ rfl rfl),
        st_plain rfl (op_bin _ _ _ _ _ rfl rfl rfl),
        st_plain rfl (op_move _ _ _ _ (congrArg (fun b => AV.v (Value.bool b)) hg6_2) rfl),
        st_run 2 41 true rfl rfl rfl (List.Mem.head _) (op_move _ _ _ _ rfl rfl),
        st_run 2 41 true rfl rfl rfl (List.Mem.head _) (op_len_fl _ _ _ Try.underlying22 rfl (by decide) (map_len _)),
        st_run 2 41 true rfl rfl rfl (List.Mem.head _) (op_bin _ _ _ _ _ rfl rfl rfl),
        st_plain rfl (op_pick _ _ true _ rfl rfl),
        st_plain rfl (op_move _ _ _ _ (congrArg (fun b => AV.v (Value.bool b)) hg6_7) rfl),
        st_run 7 46 true rfl rfl rfl (List.Mem.head _) (op_call _ _ 21 _ _ rfl Try.call21 rfl (ok_wherrylaw21_wakes  _ hv8) rfl rfl),
        st_plain rfl (op_pick _ _ true _ rfl rfl),
        st_plain rfl (op_assign _ _ _ _ rfl rfl),
        trivial⟩ ?_
       exact hl11 _ (Option.some.inj h).symm
      ·refine ht_seqR hn (El := (_ :: _ :: _ :: _ :: _ :: _ :: (39, .v (.int .i64 v6.2)) :: (40, .v (.bool (v6.2 == 1))) :: (41, .v (.bool true)) :: (42, .fl .shr 1 (List.map (Value.int .u8) data)) :: (43, .v (.int .i64 (data.length : Int))) :: (44, .v (.bool (((data.length : Int) == 0)))) :: (45, .v (.bool (((data.length : Int) == 0)))) :: (46, .v (.bool false)) :: (47, .v undef) :: (48, .v (.bool false)) :: (6, .v (.bool false)) :: [])) (init := [0, 1, 2, 3, 4, 5]) (fin := [16]) (sps := [⟨[4], [], [6], [(.slot 39)]⟩, ⟨[6], [], [7], [(.slot 40)]⟩, ⟨[7], [], [8], [(.slot 41)]⟩, ⟨[8, 0], [], [9], [(.slot 42)]⟩, ⟨[8, 9], [], [10], [(.slot 43)]⟩, ⟨[8, 10], [], [11], [(.slot 44)]⟩, ⟨[8, 11], [], [12], [(.slot 45)]⟩, ⟨[12], [], [13], [(.slot 46)]⟩, ⟨[13], [], [14], [(.slot 47)]⟩, ⟨[13], [], [15], [(.slot 48)]⟩, ⟨[15], [], [16], [(.slot 6)]⟩]) (es' := [(6, .v (.bool false))]) (by kernel_rfl) rfl rfl
        ⟨st_plain rfl (op_move _ _ _ _ rfl rfl),
        st_plain rfl (op_bin _ _ _ _ _ rfl rfl rfl),
        st_plain rfl (op_move _ _ _ _ (congrArg (fun b => AV.v (Value.bool b)) hg6_2) rfl),
        st_run 2 41 true rfl rfl rfl (List.Mem.head _) (op_move _ _ _ _ rfl rfl),
        st_run 2 41 true rfl rfl rfl (List.Mem.head _) (op_len_fl _ _ _ Try.underlying22 rfl (by decide) (map_len _)),
        st_run 2 41 true rfl rfl rfl (List.Mem.head _) (op_bin _ _ _ _ _ rfl rfl rfl),
        st_plain rfl (op_pick _ _ true _ rfl rfl),
        st_plain rfl (op_move _ _ _ _ (congrArg (fun b => AV.v (Value.bool b)) hg6_7) rfl),
        st_skip 7 46 _ true rfl rfl rfl rfl (List.Mem.head _),
        st_plain rfl (op_pick _ _ false _ rfl rfl),
        st_plain rfl (op_assign _ _ _ _ rfl rfl),
        trivial⟩ ?_
       exact hl11 _ (Option.some.inj h).symm
     ·refine ht_seqR hn (El := (_ :: _ :: _ :: _ :: _ :: _ :: (39, .v (.int .i64 v6.2)) :: (40, .v (.bool (v6.2 == 1))) :: (41, .v (.bool false)) :: (42, .v undef) :: (43, .v undef) :: (44, .v undef) :: (45, .v (.bool false)) :: (46, .v (.bool false)) :: (47, .v undef) :: (48, .v (.bool false)) :: (6, .v (.bool false)) :: [])) (init := [0, 1, 2, 3, 4, 5]) (fin := [16]) (sps := [⟨[4], [], [6], [(.slot 39)]⟩, ⟨[6], [], [7], [(.slot 40)]⟩, ⟨[7], [], [8], [(.slot 41)]⟩, ⟨[8], [], [9], [(.slot 42)]⟩, ⟨[8], [], [10], [(.slot 43)]⟩, ⟨[8], [], [11], [(.slot 44)]⟩, ⟨[8], [], [12], [(.slot 45)]⟩, ⟨[12], [], [13], [(.slot 46)]⟩, ⟨[13], [], [14], [(.slot 47)]⟩, ⟨[13], [], [15], [(.slot 48)]⟩, ⟨[15], [], [16], [(.slot 6)]⟩]) (es' := [(6, .v (.bool false))]) (by kernel_rfl) rfl rfl
       ⟨st_plain rfl (op_move _ _ _ _ rfl rfl),
       st_plain rfl (op_bin _ _ _ _ _ rfl rfl rfl),
       st_plain rfl (op_move _ _ _ _ (congrArg (fun b => AV.v (Value.bool b)) hg6_2) rfl),
       st_skip 2 41 _ true rfl rfl rfl rfl (List.Mem.head _),
       st_skip 2 41 _ true rfl rfl rfl rfl (List.Mem.head _),
       st_skip 2 41 _ true rfl rfl rfl rfl (List.Mem.head _),
       st_plain rfl (op_pick _ _ false _ rfl rfl),
       st_plain rfl (op_move _ _ _ _ rfl rfl),
       st_skip 7 46 _ true rfl rfl rfl rfl (List.Mem.head _),
       st_plain rfl (op_pick _ _ false _ rfl rfl),
       st_plain rfl (op_assign _ _ _ _ rfl rfl),
       trivial⟩ ?_
      exact hl11 _ (Option.some.inj h).symm
   ·have h := cond_f hb7 h
    refine ht_skip ?_
    refine pt_then ?_
    refine ht_seq ?_
    obtain ⟨v13, hv13, h⟩ := bind_some h
    refine ht_seqR hn (El := [_, _, _, _, _, _, (49, .agg [.v (.int .i64 v6.1.Number), .same (.cell 7 1), .v (.bool v6.1.Ready), .v (.int .i64 v6.1.Base), .v (.int .i64 v6.1.Next), .v (.int .i64 v6.1.Wait), .v (.bool v6.1.Over)]), (50, .v (.int .i64 v13)), (9, .v (.int .i64 v13))]) (init := [0, 1, 2, 3, 4, 5]) (fin := [0, 1, 2, 3, 8]) (sps := [⟨[3], [], [6], [(.slot 49)]⟩, ⟨[6, 3], [], [7], [(.slot 50)]⟩, ⟨[7], [], [8], [(.slot 9)]⟩]) (es' := [(_, _), (_, _), (_, _), (_, _), (9, .v (.int .i64 v13))]) (by kernel_rfl) rfl rfl
     ⟨st_plain rfl (op_loadA _ _ _ _ _ _ _ Try.underlying24 rfl sz24 rfl rfl (Nat.le_of_ble_eq_true rfl) rfl rfl),
     st_plain rfl (op_call _ _ 18 _ _ rfl Try.call18 rfl (ok_sender_Pieces v6.1 _ hv13) rfl rfl),
     st_plain rfl (op_assign _ _ _ _ rfl rfl),
     trivial⟩ ?_
    refine pt_then ?_
    refine ht_seq ?_
    refine ht_seq ?_
    refine ht_seqR hn (El := [_, _, _, _, _, (51, .v (.int .i64 v13)), (52, .v (.bool ((decide (v13 < 1)))))]) (init := [0, 1, 2, 3, 4]) (fin := [0, 1, 2, 3, 4, 6]) (sps := [⟨[4], [], [5], [(.slot 51)]⟩, ⟨[5], [], [6], [(.slot 52)]⟩]) (es' := [(_, _), (_, _), (_, _), (_, _), (_, _), (52, .v (.bool ((decide (v13 < 1)))))]) (by kernel_rfl) rfl rfl
     ⟨st_plain rfl (op_move _ _ _ _ rfl rfl),
     st_plain rfl (op_bin _ _ _ _ _ rfl rfl rfl),
     trivial⟩ ?_
    refine pt_then ?_
    refine ht_cond _ rfl (fun hb14 => ?_) (fun hb14 => ?_)
    ·have h := cond_t hb14 h
     refine ht_seq ?_
     refine ht_seqR hn (El := [_, _, _, _, _, _, (6, .v (.bool false))]) (init := [0, 1, 2, 3, 4, 5]) (fin := [6]) (sps := [⟨[], [], [6], [(.slot 6)]⟩]) (es' := [(6, .v (.bool false))]) (by kernel_rfl) rfl rfl
      ⟨st_plain rfl (op_assign _ _ _ _ rfl rfl),
      trivial⟩ ?_
     refine pt_then ?_
     refine ht_ret ?_
     refine pt_r_then ?_
     obtain rfl := Option.some.inj h
     exact pt_ret hio rfl (.tmp _ _ .nil) rfl rfl
    ·have h := cond_f hb14 h
     refine ht_skip ?_
     refine pt_then ?_
     refine ht_seq ?_
     obtain ⟨v15, hv15, h⟩ := bind_some h
     obtain ⟨v16, hv16, h⟩ := bind_some h
     obtain ⟨v17, hv17, h⟩ := bind_some h
     obtain ⟨v18, hv18, h⟩ := bind_some h
     refine ht_seqR hn (El := [_, _, _, _, _, _, (53, .v (.int .i64 from_)), (54, .v (.int .u64 v15)), (55, .v (.int .i64 v13)), (56, .v (.int .u64 v16)), (57, .v (.int .u64 v17)), (58, .v (.int .i64 v18)), (10, .v (.int .i64 v18))]) (init := [0, 1, 2, 3, 4, 5]) (fin := [0, 2, 3, 4, 12]) (sps := [⟨[1], [], [6], [(.slot 53)]⟩, ⟨[6], [], [7], [(.slot 54)]⟩, ⟨[4], [], [8], [(.slot 55)]⟩, ⟨[8], [], [9], [(.slot 56)]⟩, ⟨[7, 9], [], [10], [(.slot 57)]⟩, ⟨[10], [], [11], [(.slot 58)]⟩, ⟨[11], [], [12], [(.slot 10)]⟩]) (es' := [(_, _), (_, _), (_, _), (_, _), (10, .v (.int .i64 v18))]) (by kernel_rfl) rfl rfl
      ⟨st_plain rfl (op_move _ _ _ _ rfl rfl),
      st_plain rfl ((Option.some.inj hv15) ▸ op_conv _ _ _ Try.underlying3 Try.underlying51 rfl),
      st_plain rfl (op_move _ _ _ _ rfl rfl),
      st_plain rfl ((Option.some.inj hv16) ▸ op_conv _ _ _ Try.underlying3 Try.underlying51 rfl),
      st_plain rfl (op_bin _ _ _ _ _ rfl rfl (rem_ok hv17)),
      st_plain rfl ((Option.some.inj hv18) ▸ op_conv _ _ _ Try.underlying51 Try.underlying3 rfl),
      st_plain rfl (op_assign _ _ _ _ rfl rfl),
      trivial⟩ ?_
     refine pt_then ?_
     refine ht_seq ?_
     refine ht_seqR hn (El := [_, _, _, _, _, (11, .v (.slice none 0 0))]) (init := [0, 1, 2, 3, 4]) (fin := [0, 1, 2, 3, 4, 5]) (sps := [⟨[], [], [5], [(.slot 11)]⟩]) (es' := [(_, _), (_, _), (_, _), (_, _), (_, _), (11, .v (.slice none 0 0))]) (by kernel_rfl) rfl rfl
      ⟨st_plain rfl (op_assign _ _ _ _ rfl rfl),
      trivial⟩ ?_
     refine pt_then ?_
     refine ht_seq ?_
     obtain ⟨v19, hv19, h⟩ := bind_some h
     obtain ⟨v20, hv20, h⟩ := bind_some h
     obtain ⟨v21, hv21, h⟩ := bind_some h
     refine ht_seqR hn (El := [_, _, _, _, _, _, (59, .v (.slice none 0 0)), (60, .fl .shr 1 (List.map (Value.int .u8) data)), (61, .v (.int .i64 v18)), (62, .v (.int .i64 v19)), (63, .fl .shr 1 (List.map (Value.int .u8) v20)), (64, .fl (.own 5) 1 (List.map (Value.int .u8) v21)), (11, .fl (.own 5) 1 (List.map (Value.int .u8) v21))]) (init := [0, 1, 2, 3, 4, 5]) (fin := [0, 1, 2, 3, 4, 12]) (sps := [⟨[5], [], [6], [(.slot 59)]⟩, ⟨[0], [], [7], [(.slot 60)]⟩, ⟨[4], [], [8], [(.slot 61)]⟩, ⟨[8], [], [9], [(.slot 62)]⟩, ⟨[7, 9], [], [10], [(.slot 63)]⟩, ⟨[6, 10], [], [11], [(.slot 64)]⟩, ⟨[], [5, 11], [12], [(.slot 11)]⟩]) (es' := [(_, _), (_, _), (_, _), (_, _), (_, _), (11, .fl (.own 5) 1 (List.map (Value.int .u8) v21))]) (by kernel_rfl) rfl rfl
      ⟨st_plain rfl (op_move _ _ _ _ rfl rfl),
      st_plain rfl (op_move _ _ _ _ rfl rfl),
      st_plain rfl (op_move _ _ _ _ rfl rfl),
      st_plain rfl (op_bin _ _ _ _ _ rfl rfl (ibind (f := Value.int .i64) (Option.some.inj hv19))),
      st_plain rfl (op_sl _ _ _ 0 v19 _ Try.underlying22 sz5 rfl rfl rfl ⟨_, rfl⟩ hv20),
      st_plain rfl (op_app_nil _ _ _ _ el22 rfl rfl (map_len _) hv21 (congrArg (List.map _) (app_nil_eq hv21))),
      st_plain rfl (LOp.drop [_] (op_assign_take _ _ _ _ rfl)),
      trivial⟩ ?_
     refine pt_then ?_
     refine ht_seq ?_
     refine ht_seq ?_
     refine ht_seqR hn (El := [_, _, _, _, _, _, (12, .v (.int .i64 0))]) (init := [0, 1, 2, 3, 4, 5]) (fin := [0, 1, 2, 3, 4, 5, 6]) (sps := [⟨[], [], [6], [(.slot 12)]⟩]) (es' := [(_, _), (_, _), (_, _), (_, _), (_, _), (_, _), (12, .v (.int .i64 0))]) (by kernel_rfl) rfl rfl
      ⟨st_plain rfl (op_assign _ _ _ _ rfl rfl),
      trivial⟩ ?_
     refine pt_then ?_
     refine ht_loopS h (fun ((s528, s529, s530, s531, s532, s533, s534, s535, s536, s537) : Int × (List Int) × Bool × Int × Int × Int × Bool × Int × (List Int) × Int) => [(1, .fl .shr 1 (List.map (Value.int .u8) data)), (0, .v (.int .i64 v5)), (7, .box 24 [.v (.int .i64 s528), .fl (.own 5) 1 (List.map (Value.int .u8) s529), .v (.bool s530), .v (.int .i64 s531), .v (.int .i64 s532), .v (.int .i64 s533), .v (.bool s534)]), (9, .v (.int .i64 v13)), (10, .v (.int .i64 s535)), (11, .fl (.own 5) 1 (List.map (Value.int .u8) s536)), (12, .v (.int .i64 s537))]) (fun (() : Unit) => []) ?_ ?_
     ·rintro ⟨⟩ h
      refine pt_then ?_
      refine ht_seq ?_
      refine ht_seqR hn (El := [(6, .v (.bool false))]) (init := []) (fin := [0]) (sps := [⟨[], [], [0], [(.slot 6)]⟩]) (es' := [(6, .v (.bool false))]) (by kernel_rfl) rfl rfl
       ⟨st_plain rfl (op_assign _ _ _ _ rfl rfl),
       trivial⟩ ?_
      refine pt_then ?_
      refine ht_ret ?_
      obtain rfl := Option.some.inj h
      exact pt_ret hio rfl (.tmp _ _ .nil) rfl rfl
     ·rintro u775 hl776 hr777 ⟨s528, s529, s530, s531, s532, s533, s534, s535, s536, s537⟩ rr780 h ho778
      refine ht_seq ?_
      refine ht_seq ?_
      obtain ⟨v22, hv22, h⟩ := bind_some h
      refine ht_seqR hn (El := [_, _, _, _, _, _, _, (65, .v (.int .i64 s537)), (66, .v (.int .i64 v13)), (67, .v (.int .i64 v22)), (68, .v (.bool ((decide (s537 < v22)))))]) (init := [0, 1, 2, 3, 4, 5, 6]) (fin := [0, 1, 2, 3, 4, 5, 6, 10]) (sps := [⟨[6], [], [7], [(.slot 65)]⟩, ⟨[3], [], [8], [(.slot 66)]⟩, ⟨[8], [], [9], [(.slot 67)]⟩, ⟨[7, 9], [], [10], [(.slot 68)]⟩]) (es' := [(_, _), (_, _), (_, _), (_, _), (_, _), (_, _), (_, _), (68, .v (.bool ((decide (s537 < v22)))))]) (by kernel_rfl) rfl rfl
       ⟨st_plain rfl (op_move _ _ _ _ rfl rfl),
       st_plain rfl (op_move _ _ _ _ rfl rfl),
       st_plain rfl (op_bin _ _ _ _ _ rfl rfl (ibind (f := Value.int .i64) (Option.some.inj hv22))),
       st_plain rfl (op_bin _ _ _ _ _ rfl rfl rfl),
       trivial⟩ ?_
      refine pt_then ?_
      refine ht_cond _ rfl (fun hb781 => ?_) (fun hb781 => ?_)
      ·have h := cond_t hb781 h
       refine ht_skip ?_
       refine pt_then ?_
       refine ht_seq ?_
       refine ht_block ?_
       refine ht_seq ?_
       obtain ⟨v24, hv24, h⟩ := bind_some h
       refine ht_seqR hn (El := (_ :: _ :: _ :: _ :: _ :: _ :: _ :: _ :: (72, .agg [.v (.int .i64 s528), .same (.cell 7 1), .v (.bool s530), .v (.int .i64 s531), .v (.int .i64 s532), .v (.int .i64 s533), .v (.bool s534)]) :: (73, .tup [.agg [.v (.int .i64 v24.1.Number), .fl (.own 5) 1 (List.map (Value.int .u8) v24.1.Data), .v (.bool v24.1.Ready), .v (.int .i64 v24.1.Base), .v (.int .i64 v24.1.Next), .v (.int .i64 v24.1.Wait), .v (.bool v24.1.Over)], .fr (.own 26) false 5 (List.flatten (List.map T_Frame.ienc v24.2.1)), .v (.int .i64 v24.2.2)]) :: (71, .tup [.agg [.v (.int .i64 v24.1.Number), .fl (.own 5) 1 (List.map (Value.int .u8) v24.1.Data), .v (.bool v24.1.Ready), .v (.int .i64 v24.1.Base), .v (.int .i64 v24.1.Next), .v (.int .i64 v24.1.Wait), .v (.bool v24.1.Over)], .fr (.own 26) false 5 (List.flatten (List.map T_Frame.ienc v24.2.1)), .v (.int .i64 v24.2.2)]) :: (74, .agg [.v (.int .i64 v24.1.Number), .fl (.own 5) 1 (List.map (Value.int .u8) v24.1.Data), .v (.bool v24.1.Ready), .v (.int .i64 v24.1.Base), .v (.int .i64 v24.1.Next), .v (.int .i64 v24.1.Wait), .v (.bool v24.1.Over)]) :: (71, .tup [.any, .fr (.own 26) false 5 (List.flatten (List.map T_Frame.ienc v24.2.1)), .v (.int .i64 v24.2.2)]) :: (75, .fr (.own 26) false 5 (List.flatten (List.map T_Frame.ienc v24.2.1))) :: (71, .tup [.any, .any, .v (.int .i64 v24.2.2)]) :: (76, .v (.int .i64 v24.2.2)) :: (13, .box 24 [.v (.int .i64 0), .v (.slice none 0 0), .v (.bool false), .v (.int .i64 0), .v (.int .i64 0), .v (.int .i64 0), .v (.bool false)]) :: (13, .box 24 [.v (.int .i64 v24.1.Number), .fl (.own 5) 1 (List.map (Value.int .u8) v24.1.Data), .v (.bool v24.1.Ready), .v (.int .i64 v24.1.Base), .v (.int .i64 v24.1.Next), .v (.int .i64 v24.1.Wait), .v (.bool v24.1.Over)]) :: (14, .fr (.own 26) false 5 (List.flatten (List.map T_Frame.ienc v24.2.1))) :: (15, .v (.int .i64 v24.2.2)) :: [])) (init := [0, 1, 2, 3, 4, 5, 6, 7]) (fin := [0, 1, 2, 3, 4, 5, 6, 17, 18, 19]) (sps := [⟨[2], [], [8], [(.slot 72)]⟩, ⟨[8, 2], [], [9], [(.slot 73)]⟩, ⟨[], [9], [10], [(.slot 71)]⟩, ⟨[], [10], [12, 11], [(.slot 74)]⟩, ⟨[], [12], [14, 13], [(.slot 75)]⟩, ⟨[14], [], [15], [(.slot 76)]⟩, ⟨[], [], [16], [(.slot 13)]⟩, ⟨[], [11, 16], [17], [.cell 13 0, .cell 13 1, .cell 13 2, .cell 13 3, .cell 13 4, .cell 13 5, .cell 13 6]⟩, ⟨[], [13], [18], [(.slot 14)]⟩, ⟨[15], [], [19], [(.slot 15)]⟩]) (es' := [(_, _), (_, _), (_, _), (_, _), (_, _), (_, _), (_, _), (13, .box 24 [.v (.int .i64 v24.1.Number), .fl (.own 5) 1 (List.map (Value.int .u8) v24.1.Data), .v (.bool v24.1.Ready), .v (.int .i64 v24.1.Base), .v (.int .i64 v24.1.Next), .v (.int .i64 v24.1.Wait), .v (.bool v24.1.Over)]), (14, .fr (.own 26) false 5 (List.flatten (List.map T_Frame.ienc v24.2.1))), (15, .v (.int .i64 v24.2.2))]) (by kernel_rfl) rfl rfl
        ⟨st_plain rfl (op_loadA _ _ _ _ _ _ _ Try.underlying24 rfl sz24 rfl rfl (Nat.le_of_ble_eq_true rfl) rfl rfl),
        st_plain rfl (op_call _ _ 14 _ _ rfl Try.call14 rfl (ok_sender_Tick (T_Send.mk s528 s529 s530 s531 s532 s533 s534) _ hv24) rfl rfl),
        st_plain rfl (op_move_take _ _ _ _ rfl),
        st_plain rfl (op_extract_take _ _ _ _ _ rfl (Nat.le_of_ble_eq_true rfl) rfl rfl (by decide) rfl),
        st_plain rfl (op_extract_take _ _ _ _ _ rfl (Nat.le_of_ble_eq_true rfl) rfl rfl (by decide) rfl),
        st_plain rfl (op_extract _ _ _ _ _ rfl rfl (Nat.le_of_ble_eq_true rfl) rfl rfl),
        st_plain rfl (op_alloc _ _ zr24),
        st_plain rfl (op_store_take _ _ _ _ _ _ _ _ sz24 rfl rfl rfl (Nat.le_of_ble_eq_true rfl) rfl rfl),
        st_plain rfl (op_assign_take _ _ _ _ rfl),
        st_plain rfl (op_assign _ _ _ _ rfl rfl),
        trivial⟩ ?_
       refine pt_then ?_
       refine ht_seq ?_
       refine ht_seq ?_
       refine ht_seqR hn (El := [_, _, _, _, _, _, _, _, _, _, (77, .v (.int .i64 v24.2.2)), (78, .v (.bool (v24.2.2 != 0)))]) (init := [0, 1, 2, 3, 4, 5, 6, 7, 8, 9]) (fin := [0, 1, 2, 3, 4, 5, 6, 7, 8, 11]) (sps := [⟨[9], [], [10], [(.slot 77)]⟩, ⟨[10], [], [11], [(.slot 78)]⟩]) (es' := [(_, _), (_, _), (_, _), (_, _), (_, _), (_, _), (_, _), (_, _), (_, _), (78, .v (.bool (v24.2.2 != 0)))]) (by kernel_rfl) rfl rfl
        ⟨st_plain rfl (op_move _ _ _ _ rfl rfl),
        st_plain rfl (op_bin _ _ _ _ _ rfl rfl rfl),
        trivial⟩ ?_
       refine pt_then ?_
       refine ht_cond _ rfl (fun hb782 => ?_) (fun hb782 => ?_)
       ·have h := cond_t hb782 h
        refine ht_seq ?_
        refine ht_seqR hn (El := [_, _, _, _, _, _, _, _, _, _, (6, .v (.bool false))]) (init := [0, 1, 2, 3, 4, 5, 6, 7, 8, 9]) (fin := [10]) (sps := [⟨[], [], [10], [(.slot 6)]⟩]) (es' := [(6, .v (.bool false))]) (by kernel_rfl) rfl rfl
         ⟨st_plain rfl (op_assign _ _ _ _ rfl rfl),
         trivial⟩ ?_
        refine pt_then ?_
        refine ht_ret ?_
        refine pt_r_then ?_
        refine pt_r_in ?_
        refine pt_r_then ?_
        refine pt_r_then ?_
        refine pt_r_in ?_
        refine pt_r_then ?_
        have h := hr777 _ (ho778 _ (Option.some.inj h).symm).symm
        obtain rfl := Option.some.inj h
        exact pt_ret hio rfl (.tmp _ _ .nil) rfl rfl
       ·have h := cond_f hb782 h
        refine ht_skip ?_
        refine pt_then ?_
        refine ht_seq ?_
        refine ht_seqR hn (El := [_, _, _, _, _, _, _, _, _, _, (79, .agg [.v (.int .i64 v24.1.Number), .fl (.own 5) 1 (List.map (Value.int .u8) v24.1.Data), .v (.bool v24.1.Ready), .v (.int .i64 v24.1.Base), .v (.int .i64 v24.1.Next), .v (.int .i64 v24.1.Wait), .v (.bool v24.1.Over)]), (7, .box 24 [.v (.int .i64 v24.1.Number), .fl (.own 5) 1 (List.map (Value.int .u8) v24.1.Data), .v (.bool v24.1.Ready), .v (.int .i64 v24.1.Base), .v (.int .i64 v24.1.Next), .v (.int .i64 v24.1.Wait), .v (.bool v24.1.Over)])]) (init := [0, 1, 2, 3, 4, 5, 6, 7, 8, 9]) (fin := [0, 1, 11, 3, 4, 5, 6, 8]) (sps := [⟨[], [7], [10], [(.slot 79)]⟩, ⟨[], [10, 2], [11], [.cell 7 0, .cell 7 1, .cell 7 2, .cell 7 3, .cell 7 4, .cell 7 5, .cell 7 6]⟩]) (es' := [(_, _), (_, _), (7, .box 24 [.v (.int .i64 v24.1.Number), .fl (.own 5) 1 (List.map (Value.int .u8) v24.1.Data), .v (.bool v24.1.Ready), .v (.int .i64 v24.1.Base), .v (.int .i64 v24.1.Next), .v (.int .i64 v24.1.Wait), .v (.bool v24.1.Over)]), (_, _), (_, _), (_, _), (_, _), (_, _)]) (by kernel_rfl) rfl rfl
         ⟨st_plain rfl (op_loadA_take _ _ _ _ Try.underlying24 rfl sz24 rfl rfl),
         st_plain rfl (op_store_take _ _ _ _ _ _ _ _ sz24 rfl rfl rfl (Nat.le_of_ble_eq_true rfl) rfl rfl),
         trivial⟩ ?_
        refine pt_then ?_
        refine ht_seq ?_
        refine ht_seq ?_
        refine ht_seqR hn (El := [_, _, _, _, _, _, _, _, (16, .v (.int .i64 0))]) (init := [0, 1, 2, 3, 4, 5, 6, 7]) (fin := [0, 1, 2, 3, 4, 5, 6, 7, 8]) (sps := [⟨[], [], [8], [(.slot 16)]⟩]) (es' := [(_, _), (_, _), (_, _), (_, _), (_, _), (_, _), (_, _), (_, _), (16, .v (.int .i64 0))]) (by kernel_rfl) rfl rfl
         ⟨st_plain rfl (op_assign _ _ _ _ rfl rfl),
         trivial⟩ ?_
        refine pt_then ?_
        refine ht_loopS h (fun ((s857, s858, s859, s860, s861, s862, s863, s864, s865, s866) : Int × (List Int) × Bool × Int × Int × Int × Bool × Int × (List Int) × Int) => [(1, .fl .shr 1 (List.map (Value.int .u8) data)), (0, .v (.int .i64 v5)), (7, .box 24 [.v (.int .i64 s857), .fl (.own 5) 1 (List.map (Value.int .u8) s858), .v (.bool s859), .v (.int .i64 s860), .v (.int .i64 s861), .v (.int .i64 s862), .v (.bool s863)]), (9, .v (.int .i64 v13)), (10, .v (.int .i64 s864)), (11, .fl (.own 5) 1 (List.map (Value.int .u8) s865)), (12, .v (.int .i64 s537)), (14, .fr (.own 26) false 5 (List.flatten (List.map T_Frame.ienc v24.2.1))), (16, .v (.int .i64 s866))]) (fun ((s899, s900, s901, s902, s903, s904, s905, s906, s907) : Int × (List Int) × Bool × Int × Int × Int × Bool × Int × (List Int)) => [(1, .fl .shr 1 (List.map (Value.int .u8) data)), (0, .v (.int .i64 v5)), (7, .box 24 [.v (.int .i64 s899), .fl (.own 5) 1 (List.map (Value.int .u8) s900), .v (.bool s901), .v (.int .i64 s902), .v (.int .i64 s903), .v (.int .i64 s904), .v (.bool s905)]), (9, .v (.int .i64 v13)), (10, .v (.int .i64 s906)), (11, .fl (.own 5) 1 (List.map (Value.int .u8) s907)), (12, .v (.int .i64 s537))]) ?_ ?_
        ·rintro ⟨s899, s900, s901, s902, s903, s904, s905, s906, s907⟩ h
         refine pt_then ?_
         refine ht_seq ?_
         refine ht_seq ?_
         refine ht_seqR hn (El := [_, _, _, _, _, _, _, (154, .ptr 7 6), (155, .v (.bool s905))]) (init := [0, 1, 2, 3, 4, 5, 6]) (fin := [0, 1, 2, 3, 4, 5, 6, 8]) (sps := [⟨[2], [], [7], [(.slot 154)]⟩, ⟨[7, 2], [], [8], [(.slot 155)]⟩]) (es' := [(_, _), (_, _), (_, _), (_, _), (_, _), (_, _), (_, _), (155, .v (.bool s905))]) (by kernel_rfl) rfl rfl
          ⟨st_plain rfl (op_fieldAddr _ _ _ _ 7 0 _ Try.underlying24 rfl sz4 rfl rfl (by decide)),
          st_plain rfl (op_load _ _ _ _ _ _ Try.underlying4 rfl rfl rfl (Nat.le_of_ble_eq_true rfl) rfl rfl rfl),
          trivial⟩ ?_
         refine pt_then ?_
         refine ht_cond _ rfl (fun hb946 => ?_) (fun hb946 => ?_)
         ·have h := cond_t hb946 h
          refine ht_seq ?_
          refine ht_joinS h (fun (s947 : Bool) => [(6, .v (.bool s947))]) ?_ ?_
          ·rintro s947 h
           refine pt_then ?_
           refine ht_ret ?_
           refine pt_r_then ?_
           refine pt_r_in ?_
           refine pt_r_then ?_
           refine pt_r_then ?_
           refine pt_r_in ?_
           refine pt_r_then ?_
           have h := hr777 _ (ho778 _ (Option.some.inj h).symm).symm
           obtain rfl := Option.some.inj h
           exact pt_ret hio rfl (.tmp _ _ .nil) rfl rfl
          ·intro u948 h hl949 hr950
           obtain ⟨v206, hv206, h⟩ := bind_some h
           refine cond_some h (fun hg38_3 h => ?_) (fun hg38_3 h => ?_)
           ·obtain ⟨v207, hv207, h⟩ := bind_some h
            refine ht_seqR hn (El := (_ :: _ :: _ :: _ :: _ :: _ :: _ :: _ :: (156, .fl (.own 5) 1 (List.map (Value.int .u8) s907)) :: (157, .fl .shr 1 (List.map (Value.int .u8) data)) :: (158, .v (.bool v206)) :: (159, .v (.bool true)) :: (160, .v (.bool v207)) :: (161, .v (.bool v207)) :: (6, .v (.bool v207)) :: [])) (init := [0, 1, 2, 3, 4, 5, 6, 7]) (fin := [14]) (sps := [⟨[], [5], [8], [(.slot 156)]⟩, ⟨[0], [], [9], [(.slot 157)]⟩, ⟨[8, 9], [], [10], [(.slot 158)]⟩, ⟨[10], [], [11], [(.slot 159)]⟩, ⟨[11], [], [12], [(.slot 160)]⟩, ⟨[11, 12], [], [13], [(.slot 161)]⟩, ⟨[13], [], [14], [(.slot 6)]⟩]) (es' := [(6, .v (.bool v207))]) (by kernel_rfl) rfl rfl
             ⟨st_plain rfl (op_move_take _ _ _ _ rfl),
             st_plain rfl (op_move _ _ _ _ rfl rfl),
             st_plain rfl (op_call _ _ 28 _ _ rfl Try.call28 rfl (ok_wherrykeep_Bytes s907 data _ hv206) rfl rfl),
             st_plain rfl (op_move _ _ _ _ (congrArg (fun b => AV.v (Value.bool b)) hg38_3) rfl),
             st_run 3 159 true rfl rfl rfl (List.Mem.head _) (op_call _ _ 21 _ _ rfl Try.call21 rfl (ok_wherrylaw21_wakes  _ hv207) rfl rfl),
             st_plain rfl (op_pick _ _ true _ rfl rfl),
             st_plain rfl (op_assign _ _ _ _ rfl rfl),
             trivial⟩ ?_
            exact hl949 _ (Option.some.inj h).symm
           ·refine ht_seqR hn (El := (_ :: _ :: _ :: _ :: _ :: _ :: _ :: _ :: (156, .fl (.own 5) 1 (List.map (Value.int .u8) s907)) :: (157, .fl .shr 1 (List.map (Value.int .u8) data)) :: (158, .v (.bool v206)) :: (159, .v (.bool false)) :: (160, .v undef) :: (161, .v (.bool false)) :: (6, .v (.bool false)) :: [])) (init := [0, 1, 2, 3, 4, 5, 6, 7]) (fin := [14]) (sps := [⟨[], [5], [8], [(.slot 156)]⟩, ⟨[0], [], [9], [(.slot 157)]⟩, ⟨[8, 9], [], [10], [(.slot 158)]⟩, ⟨[10], [], [11], [(.slot 159)]⟩, ⟨[11], [], [12], [(.slot 160)]⟩, ⟨[11], [], [13], [(.slot 161)]⟩, ⟨[13], [], [14], [(.slot 6)]⟩]) (es' := [(6, .v (.bool false))]) (by kernel_rfl) rfl rfl
             ⟨st_plain rfl (op_move_take _ _ _ _ rfl),
             st_plain rfl (op_move _ _ _ _ rfl rfl),
             st_plain rfl (op_call _ _ 28 _ _ rfl Try.call28 rfl (ok_wherrykeep_Bytes s907 data _ hv206) rfl rfl),
             st_plain rfl (op_move _ _ _ _ (congrArg (fun b => AV.v (Value.bool b)) hg38_3) rfl),
             st_skip 3 159 _ true rfl rfl rfl rfl (List.Mem.head _),
             st_plain rfl (op_pick _ _ false _ rfl rfl),
             st_plain rfl (op_assign _ _ _ _ rfl rfl),
             trivial⟩ ?_
            exact hl949 _ (Option.some.inj h).symm
         ·have h := cond_f hb946 h
          refine ht_skip ?_
          refine pt_then ?_
          refine ht_pick [0, 1, 2, 3, 4, 5, 6] (by kernel_rfl) (es' := [(_, _), (_, _), (_, _), (_, _), (_, _), (_, _), (_, _)]) rfl ?_
          refine ht_loopS h (fun ((s978, s979, s980, s981, s982, s983, s984) : Int × (List Int) × Bool × Int × Int × Int × Bool) => [(1, .fl .shr 1 (List.map (Value.int .u8) data)), (0, .v (.int .i64 v5)), (7, .box 24 [.v (.int .i64 s978), .fl (.own 5) 1 (List.map (Value.int .u8) s979), .v (.bool s980), .v (.int .i64 s981), .v (.int .i64 s982), .v (.int .i64 s983), .v (.bool s984)]), (9, .v (.int .i64 v13)), (10, .v (.int .i64 s906)), (11, .fl (.own 5) 1 (List.map (Value.int .u8) s907)), (12, .v (.int .i64 s537))]) (fun ((s995, s996, s997, s998, s999, s1000, s1001) : Int × (List Int) × Bool × Int × Int × Int × Bool) => [(1, .fl .shr 1 (List.map (Value.int .u8) data)), (0, .v (.int .i64 v5)), (7, .box 24 [.v (.int .i64 s995), .fl (.own 5) 1 (List.map (Value.int .u8) s996), .v (.bool s997), .v (.int .i64 s998), .v (.int .i64 s999), .v (.int .i64 s1000), .v (.bool s1001)]), (9, .v (.int .i64 v13)), (10, .v (.int .i64 s906)), (11, .fl (.own 5) 1 (List.map (Value.int .u8) s907)), (12, .v (.int .i64 s537))]) ?_ ?_
          ·rintro ⟨s995, s996, s997, s998, s999, s1000, s1001⟩ h
           refine pt_inb ?_
           refine pt_then ?_
           obtain ⟨v280, hv280, h⟩ := bind_some h
           refine ht_seqR hn (El := [_, _, _, _, _, _, _, (69, .v (.int .i64 s537)), (70, .v (.int .i64 v280)), (12, .v (.int .i64 v280))]) (init := [0, 1, 2, 3, 4, 5, 6]) (fin := [0, 1, 2, 3, 4, 5, 9]) (sps := [⟨[6], [], [7], [(.slot 69)]⟩, ⟨[7], [], [8], [(.slot 70)]⟩, ⟨[8], [6], [9], [(.slot 12)]⟩]) (es' := [(_, _), (_, _), (_, _), (_, _), (_, _), (_, _), (12, .v (.int .i64 v280))]) (by kernel_rfl) rfl rfl
            ⟨st_plain rfl (op_move _ _ _ _ rfl rfl),
            st_plain rfl (op_bin _ _ _ _ _ rfl rfl (ibind (f := Value.int .i64) (Option.some.inj hv280))),
            st_plain rfl (LOp.drop [_] (op_assign _ _ _ _ rfl rfl)),
            trivial⟩ ?_
           exact pt_next _ (Option.some.inj h).symm rfl
          ·rintro u1002 hl1003 hr1004 ⟨s978, s979, s980, s981, s982, s983, s984⟩ rr1007 h ho1005
           refine ht_seq ?_
           refine ht_seq ?_
           refine ht_joinS h (fun (s1008 : Bool) => [(1, .fl .shr 1 (List.map (Value.int .u8) data)), (0, .v (.int .i64 v5)), (7, .box 24 [.v (.int .i64 s978), .fl (.own 5) 1 (List.map (Value.int .u8) s979), .v (.bool s980), .v (.int .i64 s981), .v (.int .i64 s982), .v (.int .i64 s983), .v (.bool s984)]), (9, .v (.int .i64 v13)), (10, .v (.int .i64 s906)), (11, .fl (.own 5) 1 (List.map (Value.int .u8) s907)), (12, .v (.int .i64 s537)), (170, .v (.bool s1008))]) ?_ ?_
           ·rintro s1008 h
            refine pt_then ?_
            refine ht_cond _ rfl (fun hb1012 => ?_) (fun hb1012 => ?_)
            ·have h := cond_t hb1012 h
             refine ht_skip ?_
             refine pt_then ?_
             refine ht_block ?_
             refine ht_seq ?_
             obtain ⟨v217, hv217, h⟩ := bind_some h
             refine ht_seqR hn (El := (_ :: _ :: _ :: _ :: _ :: _ :: _ :: _ :: (172, .agg [.v (.int .i64 s978), .same (.cell 7 1), .v (.bool s980), .v (.int .i64 s981), .v (.int .i64 s982), .v (.int .i64 s983), .v (.bool s984)]) :: (173, .tup [.agg [.v (.int .i64 v217.1.Number), .fl (.own 5) 1 (List.map (Value.int .u8) v217.1.Data), .v (.bool v217.1.Ready), .v (.int .i64 v217.1.Base), .v (.int .i64 v217.1.Next), .v (.int .i64 v217.1.Wait), .v (.bool v217.1.Over)], .fr (.own 26) false 5 (List.flatten (List.map T_Frame.ienc v217.2.1)), .v (.int .i64 v217.2.2)]) :: (171, .tup [.agg [.v (.int .i64 v217.1.Number), .fl (.own 5) 1 (List.map (Value.int .u8) v217.1.Data), .v (.bool v217.1.Ready), .v (.int .i64 v217.1.Base), .v (.int .i64 v217.1.Next), .v (.int .i64 v217.1.Wait), .v (.bool v217.1.Over)], .fr (.own 26) false 5 (List.flatten (List.map T_Frame.ienc v217.2.1)), .v (.int .i64 v217.2.2)]) :: (174, .agg [.v (.int .i64 v217.1.Number), .fl (.own 5) 1 (List.map (Value.int .u8) v217.1.Data), .v (.bool v217.1.Ready), .v (.int .i64 v217.1.Base), .v (.int .i64 v217.1.Next), .v (.int .i64 v217.1.Wait), .v (.bool v217.1.Over)]) :: (171, .tup [.any, .fr (.own 26) false 5 (List.flatten (List.map T_Frame.ienc v217.2.1)), .v (.int .i64 v217.2.2)]) :: (175, .fr (.own 26) false 5 (List.flatten (List.map T_Frame.ienc v217.2.1))) :: (171, .tup [.any, .any, .v (.int .i64 v217.2.2)]) :: (176, .v (.int .i64 v217.2.2)) :: (20, .box 24 [.v (.int .i64 0), .v (.slice none 0 0), .v (.bool false), .v (.int .i64 0), .v (.int .i64 0), .v (.int .i64 0), .v (.bool false)]) :: (20, .box 24 [.v (.int .i64 v217.1.Number), .fl (.own 5) 1 (List.map (Value.int .u8) v217.1.Data), .v (.bool v217.1.Ready), .v (.int .i64 v217.1.Base), .v (.int .i64 v217.1.Next), .v (.int .i64 v217.1.Wait), .v (.bool v217.1.Over)]) :: (21, .fr (.own 26) false 5 (List.flatten (List.map T_Frame.ienc v217.2.1))) :: (22, .v (.int .i64 v217.2.2)) :: [])) (init := [0, 1, 2, 3, 4, 5, 6, 7]) (fin := [0, 1, 2, 3, 4, 5, 6, 17, 19]) (sps := [⟨[2], [], [8], [(.slot 172)]⟩, ⟨[8, 2], [], [9], [(.slot 173)]⟩, ⟨[], [9], [10], [(.slot 171)]⟩, ⟨[], [10], [12, 11], [(.slot 174)]⟩, ⟨[], [12], [14, 13], [(.slot 175)]⟩, ⟨[14], [], [15], [(.slot 176)]⟩, ⟨[], [], [16], [(.slot 20)]⟩, ⟨[], [11, 16], [17], [.cell 20 0, .cell 20 1, .cell 20 2, .cell 20 3, .cell 20 4, .cell 20 5, .cell 20 6]⟩, ⟨[], [13], [18], [(.slot 21)]⟩, ⟨[15], [], [19], [(.slot 22)]⟩]) (es' := [(_, _), (_, _), (_, _), (_, _), (_, _), (_, _), (_, _), (20, .box 24 [.v (.int .i64 v217.1.Number), .fl (.own 5) 1 (List.map (Value.int .u8) v217.1.Data), .v (.bool v217.1.Ready), .v (.int .i64 v217.1.Base), .v (.int .i64 v217.1.Next), .v (.int .i64 v217.1.Wait), .v (.bool v217.1.Over)]), (22, .v (.int .i64 v217.2.2))]) (by kernel_rfl) rfl rfl
              ⟨st_plain rfl (op_loadA _ _ _ _ _ _ _ Try.underlying24 rfl sz24 rfl rfl (Nat.le_of_ble_eq_true rfl) rfl rfl),
              st_plain rfl (op_call _ _ 14 _ _ rfl Try.call14 rfl (ok_sender_Tick (T_Send.mk s978 s979 s980 s981 s982 s983 s984) _ hv217) rfl rfl),
              st_plain rfl (op_move_take _ _ _ _ rfl),
              st_plain rfl (op_extract_take _ _ _ _ _ rfl (Nat.le_of_ble_eq_true rfl) rfl rfl (by decide) rfl),
              st_plain rfl (op_extract_take _ _ _ _ _ rfl (Nat.le_of_ble_eq_true rfl) rfl rfl (by decide) rfl),
              st_plain rfl (op_extract _ _ _ _ _ rfl rfl (Nat.le_of_ble_eq_true rfl) rfl rfl),
              st_plain rfl (op_alloc _ _ zr24),
              st_plain rfl (op_store_take _ _ _ _ _ _ _ _ sz24 rfl rfl rfl (Nat.le_of_ble_eq_true rfl) rfl rfl),
              st_plain rfl (op_assign_take _ _ _ _ rfl),
              st_plain rfl (op_assign _ _ _ _ rfl rfl),
              trivial⟩ ?_
             refine pt_then ?_
             refine ht_seq ?_
             refine ht_seq ?_
             refine ht_joinS h (fun (s1013 : Bool) => [(1, .fl .shr 1 (List.map (Value.int .u8) data)), (0, .v (.int .i64 v5)), (7, .box 24 [.v (.int .i64 s978), .fl (.own 5) 1 (List.map (Value.int .u8) s979), .v (.bool s980), .v (.int .i64 s981), .v (.int .i64 s982), .v (.int .i64 s983), .v (.bool s984)]), (9, .v (.int .i64 v13)), (10, .v (.int .i64 s906)), (11, .fl (.own 5) 1 (List.map (Value.int .u8) s907)), (12, .v (.int .i64 s537)), (20, .box 24 [.v (.int .i64 v217.1.Number), .fl (.own 5) 1 (List.map (Value.int .u8) v217.1.Data), .v (.bool v217.1.Ready), .v (.int .i64 v217.1.Base), .v (.int .i64 v217.1.Next), .v (.int .i64 v217.1.Wait), .v (.bool v217.1.Over)]), (185, .v (.bool s1013))]) ?_ ?_
             ·rintro s1013 h
              refine pt_then ?_
              refine ht_cond _ rfl (fun hb1017 => ?_) (fun hb1017 => ?_)
              ·have h := cond_t hb1017 h
               refine ht_seq ?_
               refine ht_seqR hn (El := [_, _, _, _, _, _, _, _, _, (6, .v (.bool false))]) (init := [0, 1, 2, 3, 4, 5, 6, 7, 8]) (fin := [9]) (sps := [⟨[], [], [9], [(.slot 6)]⟩]) (es' := [(6, .v (.bool false))]) (by kernel_rfl) rfl rfl
                ⟨st_plain rfl (op_assign _ _ _ _ rfl rfl),
                trivial⟩ ?_
               refine pt_then ?_
               refine ht_ret ?_
               refine pt_r_then ?_
               refine pt_r_in ?_
               refine pt_r_then ?_
               refine pt_r_in ?_
               refine pt_r_in ?_
               refine pt_r_then ?_
               refine pt_r_then ?_
               refine pt_r_in ?_
               refine pt_r_then ?_
               have h := hr1004 _ (ho1005 _ (Option.some.inj h).symm).symm
               have h := hr777 _ (ho778 _ (Option.some.inj h).symm).symm
               obtain rfl := Option.some.inj h
               exact pt_ret hio rfl (.tmp _ _ .nil) rfl rfl
              ·have h := cond_f hb1017 h
               refine ht_skip ?_
               refine pt_then ?_
               refine ht_seqR hn (El := [_, _, _, _, _, _, _, _, _, (186, .agg [.v (.int .i64 v217.1.Number), .fl (.own 5) 1 (List.map (Value.int .u8) v217.1.Data), .v (.bool v217.1.Ready), .v (.int .i64 v217.1.Base), .v (.int .i64 v217.1.Next), .v (.int .i64 v217.1.Wait), .v (.bool v217.1.Over)]), (7, .box 24 [.v (.int .i64 v217.1.Number), .fl (.own 5) 1 (List.map (Value.int .u8) v217.1.Data), .v (.bool v217.1.Ready), .v (.int .i64 v217.1.Base), .v (.int .i64 v217.1.Next), .v (.int .i64 v217.1.Wait), .v (.bool v217.1.Over)])]) (init := [0, 1, 2, 3, 4, 5, 6, 7, 8]) (fin := [0, 1, 10, 3, 4, 5, 6]) (sps := [⟨[], [7], [9], [(.slot 186)]⟩, ⟨[], [9, 2], [10], [.cell 7 0, .cell 7 1, .cell 7 2, .cell 7 3, .cell 7 4, .cell 7 5, .cell 7 6]⟩]) (es' := [(_, _), (_, _), (7, .box 24 [.v (.int .i64 v217.1.Number), .fl (.own 5) 1 (List.map (Value.int .u8) v217.1.Data), .v (.bool v217.1.Ready), .v (.int .i64 v217.1.Base), .v (.int .i64 v217.1.Next), .v (.int .i64 v217.1.Wait), .v (.bool v217.1.Over)]), (_, _), (_, _), (_, _), (_, _)]) (by kernel_rfl) rfl rfl
                ⟨st_plain rfl (op_loadA_take _ _ _ _ Try.underlying24 rfl sz24 rfl rfl),
                st_plain rfl (op_store_take _ _ _ _ _ _ _ _ sz24 rfl rfl rfl (Nat.le_of_ble_eq_true rfl) rfl rfl),
                trivial⟩ ?_
               refine pt_inb ?_
               exact pt_next _ (Option.some.inj h).symm rfl
             ·intro u1014 h hl1015 hr1016
              refine cond_some h (fun hg41_2 h => ?_) (fun hg41_2 h => ?_)
              ·refine ht_seqR hn (El := (_ :: _ :: _ :: _ :: _ :: _ :: _ :: _ :: _ :: (177, .v (.int .i64 v217.2.2)) :: (178, .v (.bool (v217.2.2 != 0))) :: (179, .v (.bool true)) :: (180, .v undef) :: (181, .v undef) :: (182, .v undef) :: (183, .v undef) :: (184, .v undef) :: (185, .v (.bool true)) :: [])) (init := [0, 1, 2, 3, 4, 5, 6, 7, 8]) (fin := [0, 1, 2, 3, 4, 5, 6, 7, 17]) (sps := [⟨[8], [], [9], [(.slot 177)]⟩, ⟨[9], [], [10], [(.slot 178)]⟩, ⟨[10], [], [11], [(.slot 179)]⟩, ⟨[11], [], [12], [(.slot 180)]⟩, ⟨[11], [], [13], [(.slot 181)]⟩, ⟨[11], [], [14], [(.slot 182)]⟩, ⟨[11], [], [15], [(.slot 183)]⟩, ⟨[11], [], [16], [(.slot 184)]⟩, ⟨[11], [], [17], [(.slot 185)]⟩]) (es' := [(_, _), (_, _), (_, _), (_, _), (_, _), (_, _), (_, _), (_, _), (185, .v (.bool true))]) (by kernel_rfl) rfl rfl
                ⟨st_plain rfl (op_move _ _ _ _ rfl rfl),
                st_plain rfl (op_bin _ _ _ _ _ rfl rfl rfl),
                st_plain rfl (op_move _ _ _ _ (congrArg (fun b => AV.v (Value.bool b)) hg41_2) rfl),
                st_skip 2 179 _ false rfl rfl rfl rfl (List.Mem.head _),
                st_skip 2 179 _ false rfl rfl rfl rfl (List.Mem.head _),
                st_skip 2 179 _ false rfl rfl rfl rfl (List.Mem.head _),
                st_skip 2 179 _ false rfl rfl rfl rfl (List.Mem.head _),
                st_skip 2 179 _ false rfl rfl rfl rfl (List.Mem.head _),
                st_plain rfl (op_pick _ _ true _ rfl rfl),
                trivial⟩ ?_
               exact hl1015 _ (Option.some.inj h).symm
              ·refine ht_seqR hn (El := (_ :: _ :: _ :: _ :: _ :: _ :: _ :: _ :: _ :: (177, .v (.int .i64 v217.2.2)) :: (178, .v (.bool (v217.2.2 != 0))) :: (179, .v (.bool false)) :: (180, .ptr 20 5) :: (181, .v (.int .i64 v217.1.Wait)) :: (182, .ptr 7 5) :: (183, .v (.int .i64 s983)) :: (184, .v (.bool ((decide (s983 ≤ v217.1.Wait))))) :: (185, .v (.bool ((decide (s983 ≤ v217.1.Wait))))) :: [])) (init := [0, 1, 2, 3, 4, 5, 6, 7, 8]) (fin := [0, 1, 2, 3, 4, 5, 6, 7, 17]) (sps := [⟨[8], [], [9], [(.slot 177)]⟩, ⟨[9], [], [10], [(.slot 178)]⟩, ⟨[10], [], [11], [(.slot 179)]⟩, ⟨[11, 7], [], [12], [(.slot 180)]⟩, ⟨[11, 12, 7], [], [13], [(.slot 181)]⟩, ⟨[11, 2], [], [14], [(.slot 182)]⟩, ⟨[11, 14, 2], [], [15], [(.slot 183)]⟩, ⟨[11, 13, 15], [], [16], [(.slot 184)]⟩, ⟨[11, 16], [], [17], [(.slot 185)]⟩]) (es' := [(_, _), (_, _), (_, _), (_, _), (_, _), (_, _), (_, _), (_, _), (185, .v (.bool ((decide (s983 ≤ v217.1.Wait)))))]) (by kernel_rfl) rfl rfl
                ⟨st_plain rfl (op_move _ _ _ _ rfl rfl),
                st_plain rfl (op_bin _ _ _ _ _ rfl rfl rfl),
                st_plain rfl (op_move _ _ _ _ (congrArg (fun b => AV.v (Value.bool b)) hg41_2) rfl),
                st_run 2 179 false rfl rfl rfl (List.Mem.head _) (op_fieldAddr _ _ _ _ 20 0 _ Try.underlying24 rfl sz3 rfl rfl (by decide)),
                st_run 2 179 false rfl rfl rfl (List.Mem.head _) (op_load _ _ _ _ _ _ Try.underlying3 rfl rfl rfl (Nat.le_of_ble_eq_true rfl) rfl rfl rfl),
                st_run 2 179 false rfl rfl rfl (List.Mem.head _) (op_fieldAddr _ _ _ _ 7 0 _ Try.underlying24 rfl sz3 rfl rfl (by decide)),
                st_run 2 179 false rfl rfl rfl (List.Mem.head _) (op_load _ _ _ _ _ _ Try.underlying3 rfl rfl rfl (Nat.le_of_ble_eq_true rfl) rfl rfl rfl),
                st_run 2 179 false rfl rfl rfl (List.Mem.head _) (op_bin _ _ _ _ _ rfl rfl rfl),
                st_plain rfl (op_pick _ _ false _ rfl rfl),
                trivial⟩ ?_
               exact hl1015 _ (Option.some.inj h).symm
            ·have h := cond_f hb1012 h
             refine ht_exit ?_
             refine pt_x_then ?_
             refine pt_x_then ?_
             refine pt_x_in ?_
             refine pt_pick [0, 1, 2, 3, 4, 5, 6] (by kernel_rfl) (es' := [(_, _), (_, _), (_, _), (_, _), (_, _), (_, _), (_, _)]) rfl ?_
             exact hl1003 _ (ho1005 _ (Option.some.inj h).symm).symm
           ·intro u1009 h hl1010 hr1011
            refine cond_some h (fun hg39_4 h => ?_) (fun hg39_4 h => ?_)
            ·refine ht_seqR hn (El := (_ :: _ :: _ :: _ :: _ :: _ :: _ :: (162, .ptr 7 3) :: (163, .v (.int .i64 s981)) :: (164, .v (.int .i64 v13)) :: (165, .v (.bool (s981 == v13))) :: (166, .v (.bool true)) :: (167, .ptr 7 5) :: (168, .v (.int .i64 s983)) :: (169, .v (.bool ((decide (0 < s983))))) :: (170, .v (.bool ((decide (0 < s983))))) :: [])) (init := [0, 1, 2, 3, 4, 5, 6]) (fin := [0, 1, 2, 3, 4, 5, 6, 15]) (sps := [⟨[2], [], [7], [(.slot 162)]⟩, ⟨[7, 2], [], [8], [(.slot 163)]⟩, ⟨[3], [], [9], [(.slot 164)]⟩, ⟨[8, 9], [], [10], [(.slot 165)]⟩, ⟨[10], [], [11], [(.slot 166)]⟩, ⟨[11, 2], [], [12], [(.slot 167)]⟩, ⟨[11, 12, 2], [], [13], [(.slot 168)]⟩, ⟨[11, 13], [], [14], [(.slot 169)]⟩, ⟨[11, 14], [], [15], [(.slot 170)]⟩]) (es' := [(_, _), (_, _), (_, _), (_, _), (_, _), (_, _), (_, _), (170, .v (.bool ((decide (0 < s983)))))]) (by kernel_rfl) rfl rfl
              ⟨st_plain rfl (op_fieldAddr _ _ _ _ 7 0 _ Try.underlying24 rfl sz3 rfl rfl (by decide)),
              st_plain rfl (op_load _ _ _ _ _ _ Try.underlying3 rfl rfl rfl (Nat.le_of_ble_eq_true rfl) rfl rfl rfl),
              st_plain rfl (op_move _ _ _ _ rfl rfl),
              st_plain rfl (op_bin _ _ _ _ _ rfl rfl rfl),
              st_plain rfl (op_move _ _ _ _ (congrArg (fun b => AV.v (Value.bool b)) hg39_4) rfl),
              st_run 4 166 true rfl rfl rfl (List.Mem.head _) (op_fieldAddr _ _ _ _ 7 0 _ Try.underlying24 rfl sz3 rfl rfl (by decide)),
              st_run 4 166 true rfl rfl rfl (List.Mem.head _) (op_load _ _ _ _ _ _ Try.underlying3 rfl rfl rfl (Nat.le_of_ble_eq_true rfl) rfl rfl rfl),
              st_run 4 166 true rfl rfl rfl (List.Mem.head _) (op_bin _ _ _ _ _ rfl rfl rfl),
              st_plain rfl (op_pick _ _ true _ rfl rfl),
              trivial⟩ ?_
             exact hl1010 _ (Option.some.inj h).symm
            ·refine ht_seqR hn (El := (_ :: _ :: _ :: _ :: _ :: _ :: _ :: (162, .ptr 7 3) :: (163, .v (.int .i64 s981)) :: (164, .v (.int .i64 v13)) :: (165, .v (.bool (s981 == v13))) :: (166, .v (.bool false)) :: (167, .v undef) :: (168, .v undef) :: (169, .v undef) :: (170, .v (.bool false)) :: [])) (init := [0, 1, 2, 3, 4, 5, 6]) (fin := [0, 1, 2, 3, 4, 5, 6, 15]) (sps := [⟨[2], [], [7], [(.slot 162)]⟩, ⟨[7, 2], [], [8], [(.slot 163)]⟩, ⟨[3], [], [9], [(.slot 164)]⟩, ⟨[8, 9], [], [10], [(.slot 165)]⟩, ⟨[10], [], [11], [(.slot 166)]⟩, ⟨[11], [], [12], [(.slot 167)]⟩, ⟨[11], [], [13], [(.slot 168)]⟩, ⟨[11], [], [14], [(.slot 169)]⟩, ⟨[11], [], [15], [(.slot 170)]⟩]) (es' := [(_, _), (_, _), (_, _), (_, _), (_, _), (_, _), (_, _), (170, .v (.bool false))]) (by kernel_rfl) rfl rfl
              ⟨st_plain rfl (op_fieldAddr _ _ _ _ 7 0 _ Try.underlying24 rfl sz3 rfl rfl (by decide)),
              st_plain rfl (op_load _ _ _ _ _ _ Try.underlying3 rfl rfl rfl (Nat.le_of_ble_eq_true rfl) rfl rfl rfl),
              st_plain rfl (op_move _ _ _ _ rfl rfl),
              st_plain rfl (op_bin _ _ _ _ _ rfl rfl rfl),
              st_plain rfl (op_move _ _ _ _ (congrArg (fun b => AV.v (Value.bool b)) hg39_4) rfl),
              st_skip 4 166 _ true rfl rfl rfl rfl (List.Mem.head _),
              st_skip 4 166 _ true rfl rfl rfl rfl (List.Mem.head _),
              st_skip 4 166 _ true rfl rfl rfl rfl (List.Mem.head _),
              st_plain rfl (op_pick _ _ false _ rfl rfl),
              trivial⟩ ?_
             exact hl1010 _ (Option.some.inj h).symm
        ·rintro u908 hl909 hr910 ⟨s857, s858, s859, s860, s861, s862, s863, s864, s865, s866⟩ rr913 h ho911
         refine ht_seq ?_
         refine ht_seq ?_
         refine ht_seqR hn (El := [_, _, _, _, _, _, _, _, _, (80, .v (.int .i64 s866)), (81, .same (.slot 14)), (82, .v (.int .i64 (v24.2.1.length : Int))), (83, .v (.bool ((decide (s866 < (v24.2.1.length : Int))))))]) (init := [0, 1, 2, 3, 4, 5, 6, 7, 8]) (fin := [0, 1, 2, 3, 4, 5, 6, 7, 8, 12]) (sps := [⟨[8], [], [9], [(.slot 80)]⟩, ⟨[7], [], [10], [(.slot 81)]⟩, ⟨[10, 7], [], [11], [(.slot 82)]⟩, ⟨[9, 11], [], [12], [(.slot 83)]⟩]) (es' := [(_, _), (_, _), (_, _), (_, _), (_, _), (_, _), (_, _), (_, _), (_, _), (83, .v (.bool ((decide (s866 < (v24.2.1.length : Int))))))]) (by kernel_rfl) rfl rfl
          ⟨st_plain rfl (op_move _ _ _ _ rfl rfl),
          st_plain rfl (op_move _ _ _ _ rfl rfl),
          st_plain rfl (op_len_fr _ _ _ Try.underlying31 rfl (by decide) (gflat_len T_Frame.ilen _)),
          st_plain rfl (op_bin _ _ _ _ _ rfl rfl rfl),
          trivial⟩ ?_
         refine pt_then ?_
         refine ht_cond _ rfl (fun hb914 => ?_) (fun hb914 => ?_)
         ·have h := cond_t hb914 h
          refine ht_skip ?_
          refine pt_then ?_
          refine ht_seq ?_
          refine ht_block ?_
          refine ht_seq ?_
          refine ht_seqR hn (El := [_, _, _, _, _, _, _, _, _, _, (86, .v (.int .i64 v5)), (87, .agg [.v (.int .i64 0), .v (.int .i64 v5), .v (.int .i64 0), .v (.int .i64 0), .v (.slice none 0 0)]), (17, .box 26 [.v (.int .i64 0), .v (.int .i64 0), .v (.int .i64 0), .v (.int .i64 0), .v (.slice none 0 0)]), (17, .box 26 [.v (.int .i64 0), .v (.int .i64 v5), .v (.int .i64 0), .v (.int .i64 0), .v (.slice none 0 0)])]) (init := [0, 1, 2, 3, 4, 5, 6, 7, 8, 9]) (fin := [0, 1, 2, 3, 4, 5, 6, 7, 8, 13]) (sps := [⟨[1], [], [10], [(.slot 86)]⟩, ⟨[10], [], [11], [(.slot 87)]⟩, ⟨[], [], [12], [(.slot 17)]⟩, ⟨[11], [12], [13], [.cell 17 0, .cell 17 1, .cell 17 2, .cell 17 3, .cell 17 4]⟩]) (es' := [(_, _), (_, _), (_, _), (_, _), (_, _), (_, _), (_, _), (_, _), (_, _), (17, .box 26 [.v (.int .i64 0), .v (.int .i64 v5), .v (.int .i64 0), .v (.int .i64 0), .v (.slice none 0 0)])]) (by kernel_rfl) rfl rfl
           ⟨st_plain rfl (op_move _ _ _ _ rfl rfl),
           st_plain rfl (op_build _ _ _ _ [1, 1, 1, 1, 1] _ _ Try.underlying26 zr26 (fs26 _ Try.underlying26) (.copy _ Src.nil) rfl rfl rfl),
           st_plain rfl (op_alloc _ _ zr26),
           st_plain rfl (op_store _ _ _ _ _ _ _ _ sz26 rfl rfl rfl rfl (Nat.le_of_ble_eq_true rfl) rfl rfl),
           trivial⟩ ?_
          refine pt_then ?_
          refine ht_seq ?_
          refine ht_joinS h (fun ((s926, s927, s928, s929, s930) : Int × (List Int) × Int × Int × Int) => [(1, .fl .shr 1 (List.map (Value.int .u8) data)), (0, .v (.int .i64 v5)), (7, .box 24 [.v (.int .i64 s857), .fl (.own 5) 1 (List.map (Value.int .u8) s858), .v (.bool s859), .v (.int .i64 s860), .v (.int .i64 s861), .v (.int .i64 s862), .v (.bool s863)]), (9, .v (.int .i64 v13)), (10, .v (.int .i64 s926)), (11, .fl (.own 5) 1 (List.map (Value.int .u8) s927)), (12, .v (.int .i64 s537)), (14, .fr (.own 26) false 5 (List.flatten (List.map T_Frame.ienc v24.2.1))), (16, .v (.int .i64 s866)), (17, .box 26 [.v (.int .i64 s928), .v (.int .i64 v5), .v (.int .i64 s929), .v (.int .i64 s930), .v (.slice none 0 0)])]) ?_ ?_
          ·rintro ⟨s926, s927, s928, s929, s930⟩ h
           refine pt_then ?_
           refine ht_seq ?_
           obtain ⟨v71, hv71, h⟩ := bind_some h
           refine ht_seqR hn (El := (_ :: _ :: _ :: _ :: _ :: _ :: _ :: _ :: _ :: _ :: (146, .agg [.v (.int .i64 s857), .same (.cell 7 1), .v (.bool s859), .v (.int .i64 s860), .v (.int .i64 s861), .v (.int .i64 s862), .v (.bool s863)]) :: (147, .agg [.v (.int .i64 s928), .v (.int .i64 v5), .v (.int .i64 s929), .v (.int .i64 s930), .v (.slice none 0 0)]) :: (148, .tup [.agg [.v (.int .i64 v71.1.Number), .fl (.own 5) 1 (List.map (Value.int .u8) v71.1.Data), .v (.bool v71.1.Ready), .v (.int .i64 v71.1.Base), .v (.int .i64 v71.1.Next), .v (.int .i64 v71.1.Wait), .v (.bool v71.1.Over)], .v (.int .i64 v71.2)]) :: (145, .tup [.agg [.v (.int .i64 v71.1.Number), .fl (.own 5) 1 (List.map (Value.int .u8) v71.1.Data), .v (.bool v71.1.Ready), .v (.int .i64 v71.1.Base), .v (.int .i64 v71.1.Next), .v (.int .i64 v71.1.Wait), .v (.bool v71.1.Over)], .v (.int .i64 v71.2)]) :: (149, .agg [.v (.int .i64 v71.1.Number), .fl (.own 5) 1 (List.map (Value.int .u8) v71.1.Data), .v (.bool v71.1.Ready), .v (.int .i64 v71.1.Base), .v (.int .i64 v71.1.Next), .v (.int .i64 v71.1.Wait), .v (.bool v71.1.Over)]) :: (145, .tup [.any, .v (.int .i64 v71.2)]) :: (150, .v (.int .i64 v71.2)) :: (18, .box 24 [.v (.int .i64 0), .v (.slice none 0 0), .v (.bool false), .v (.int .i64 0), .v (.int .i64 0), .v (.int .i64 0), .v (.bool false)]) :: (18, .box 24 [.v (.int .i64 v71.1.Number), .fl (.own 5) 1 (List.map (Value.int .u8) v71.1.Data), .v (.bool v71.1.Ready), .v (.int .i64 v71.1.Base), .v (.int .i64 v71.1.Next), .v (.int .i64 v71.1.Wait), .v (.bool v71.1.Over)]) :: (19, .v (.int .i64 v71.2)) :: [])) (init := [0, 1, 2, 3, 4, 5, 6, 7, 8, 9]) (fin := [0, 1, 2, 3, 4, 5, 6, 7, 8, 18, 19]) (sps := [⟨[2], [], [10], [(.slot 146)]⟩, ⟨[9], [], [11], [(.slot 147)]⟩, ⟨[10, 2, 11], [], [12], [(.slot 148)]⟩, ⟨[], [12], [13], [(.slot 145)]⟩, ⟨[], [13], [15, 14], [(.slot 149)]⟩, ⟨[15], [], [16], [(.slot 150)]⟩, ⟨[], [], [17], [(.slot 18)]⟩, ⟨[], [14, 17], [18], [.cell 18 0, .cell 18 1, .cell 18 2, .cell 18 3, .cell 18 4, .cell 18 5, .cell 18 6]⟩, ⟨[16], [], [19], [(.slot 19)]⟩]) (es' := [(_, _), (_, _), (_, _), (_, _), (_, _), (_, _), (_, _), (_, _), (_, _), (18, .box 24 [.v (.int .i64 v71.1.Number), .fl (.own 5) 1 (List.map (Value.int .u8) v71.1.Data), .v (.bool v71.1.Ready), .v (.int .i64 v71.1.Base), .v (.int .i64 v71.1.Next), .v (.int .i64 v71.1.Wait), .v (.bool v71.1.Over)]), (19, .v (.int .i64 v71.2))]) (by kernel_rfl) rfl rfl
            ⟨st_plain rfl (op_loadA _ _ _ _ _ _ _ Try.underlying24 rfl sz24 rfl rfl (Nat.le_of_ble_eq_true rfl) rfl rfl),
            st_plain rfl (op_loadA _ _ _ _ _ _ _ Try.underlying26 rfl sz26 rfl rfl (Nat.le_of_ble_eq_true rfl) rfl rfl),
            st_plain rfl (op_call _ _ 15 _ _ rfl Try.call15 rfl ((ok_sender_Hear (T_Send.mk s857 s858 s859 s860 s861 s862 s863) (T_Frame.mk s928 v5 s929 s930 []) _ hv71).args (subs_cons (sub_refl _) (subs_cons (sub_agg (subs_cons (sub_refl _) (subs_cons (sub_refl _) (subs_cons (sub_refl _) (subs_cons (sub_refl _) (subs_cons (sub_nil_shr 1) (subs_nil))))))) (subs_nil)))) rfl rfl),
            st_plain rfl (op_move_take _ _ _ _ rfl),
            st_plain rfl (op_extract_take _ _ _ _ _ rfl (Nat.le_of_ble_eq_true rfl) rfl rfl (by decide) rfl),
            st_plain rfl (op_extract _ _ _ _ _ rfl rfl (Nat.le_of_ble_eq_true rfl) rfl rfl),
            st_plain rfl (op_alloc _ _ zr24),
            st_plain rfl (op_store_take _ _ _ _ _ _ _ _ sz24 rfl rfl rfl (Nat.le_of_ble_eq_true rfl) rfl rfl),
            st_plain rfl (op_assign _ _ _ _ rfl rfl),
            trivial⟩ ?_
           refine pt_then ?_
           refine ht_seq ?_
           refine ht_seq ?_
           refine ht_seqR hn (El := [_, _, _, _, _, _, _, _, _, _, _, (151, .v (.int .i64 v71.2)), (152, .v (.bool (v71.2 != 0)))]) (init := [0, 1, 2, 3, 4, 5, 6, 7, 8, 9, 10]) (fin := [0, 1, 2, 3, 4, 5, 6, 7, 8, 9, 12]) (sps := [⟨[10], [], [11], [(.slot 151)]⟩, ⟨[11], [], [12], [(.slot 152)]⟩]) (es' := [(_, _), (_, _), (_, _), (_, _), (_, _), (_, _), (_, _), (_, _), (_, _), (_, _), (152, .v (.bool (v71.2 != 0)))]) (by kernel_rfl) rfl rfl
            ⟨st_plain rfl (op_move _ _ _ _ rfl rfl),
            st_plain rfl (op_bin _ _ _ _ _ rfl rfl rfl),
            trivial⟩ ?_
           refine pt_then ?_
           refine ht_cond _ rfl (fun hb945 => ?_) (fun hb945 => ?_)
           ·have h := cond_t hb945 h
            refine ht_seq ?_
            refine ht_seqR hn (El := [_, _, _, _, _, _, _, _, _, _, _, (6, .v (.bool false))]) (init := [0, 1, 2, 3, 4, 5, 6, 7, 8, 9, 10]) (fin := [11]) (sps := [⟨[], [], [11], [(.slot 6)]⟩]) (es' := [(6, .v (.bool false))]) (by kernel_rfl) rfl rfl
             ⟨st_plain rfl (op_assign _ _ _ _ rfl rfl),
             trivial⟩ ?_
            refine pt_then ?_
            refine ht_ret ?_
            refine pt_r_then ?_
            refine pt_r_in ?_
            refine pt_r_then ?_
            refine pt_r_then ?_
            refine pt_r_in ?_
            refine pt_r_then ?_
            refine pt_r_in ?_
            refine pt_r_then ?_
            refine pt_r_then ?_
            refine pt_r_in ?_
            refine pt_r_then ?_
            have h := hr910 _ (ho911 _ (Option.some.inj h).symm).symm
            have h := hr777 _ (ho778 _ (Option.some.inj h).symm).symm
            obtain rfl := Option.some.inj h
            exact pt_ret hio rfl (.tmp _ _ .nil) rfl rfl
           ·have h := cond_f hb945 h
            refine ht_skip ?_
            refine pt_then ?_
            refine ht_seqR hn (El := [_, _, _, _, _, _, _, _, _, _, _, (153, .agg [.v (.int .i64 v71.1.Number), .fl (.own 5) 1 (List.map (Value.int .u8) v71.1.Data), .v (.bool v71.1.Ready), .v (.int .i64 v71.1.Base), .v (.int .i64 v71.1.Next), .v (.int .i64 v71.1.Wait), .v (.bool v71.1.Over)]), (7, .box 24 [.v (.int .i64 v71.1.Number), .fl (.own 5) 1 (List.map (Value.int .u8) v71.1.Data), .v (.bool v71.1.Ready), .v (.int .i64 v71.1.Base), .v (.int .i64 v71.1.Next), .v (.int .i64 v71.1.Wait), .v (.bool v71.1.Over)])]) (init := [0, 1, 2, 3, 4, 5, 6, 7, 8, 9, 10]) (fin := [0, 1, 12, 3, 4, 5, 6, 7, 8]) (sps := [⟨[], [9], [11], [(.slot 153)]⟩, ⟨[], [11, 2], [12], [.cell 7 0, .cell 7 1, .cell 7 2, .cell 7 3, .cell 7 4, .cell 7 5, .cell 7 6]⟩]) (es' := [(_, _), (_, _), (7, .box 24 [.v (.int .i64 v71.1.Number), .fl (.own 5) 1 (List.map (Value.int .u8) v71.1.Data), .v (.bool v71.1.Ready), .v (.int .i64 v71.1.Base), .v (.int .i64 v71.1.Next), .v (.int .i64 v71.1.Wait), .v (.bool v71.1.Over)]), (_, _), (_, _), (_, _), (_, _), (_, _), (_, _)]) (by kernel_rfl) rfl rfl
             ⟨st_plain rfl (op_loadA_take _ _ _ _ Try.underlying24 rfl sz24 rfl rfl),
             st_plain rfl (op_store_take _ _ _ _ _ _ _ _ sz24 rfl rfl rfl (Nat.le_of_ble_eq_true rfl) rfl rfl),
             trivial⟩ ?_
            refine pt_inb ?_
            refine pt_then ?_
            obtain ⟨v73, hv73, h⟩ := bind_some h
            refine ht_seqR hn (El := [_, _, _, _, _, _, _, _, _, (84, .v (.int .i64 s866)), (85, .v (.int .i64 v73)), (16, .v (.int .i64 v73))]) (init := [0, 1, 2, 3, 4, 5, 6, 7, 8]) (fin := [0, 1, 2, 3, 4, 5, 6, 7, 11]) (sps := [⟨[8], [], [9], [(.slot 84)]⟩, ⟨[9], [], [10], [(.slot 85)]⟩, ⟨[10], [8], [11], [(.slot 16)]⟩]) (es' := [(_, _), (_, _), (_, _), (_, _), (_, _), (_, _), (_, _), (_, _), (16, .v (.int .i64 v73))]) (by kernel_rfl) rfl rfl
             ⟨st_plain rfl (op_move _ _ _ _ rfl rfl),
             st_plain rfl (op_bin _ _ _ _ _ rfl rfl (ibind (f := Value.int .i64) (Option.some.inj hv73))),
             st_plain rfl (LOp.drop [_] (op_assign _ _ _ _ rfl rfl)),
             trivial⟩ ?_
            exact pt_next _ (Option.some.inj h).symm rfl
          ·intro u931 h hl932 hr933
           refine ht_block ?_
           refine ht_seq ?_
           refine ht_joinS h (fun (s934 : Bool) => [(1, .fl .shr 1 (List.map (Value.int .u8) data)), (0, .v (.int .i64 v5)), (7, .box 24 [.v (.int .i64 s857), .fl (.own 5) 1 (List.map (Value.int .u8) s858), .v (.bool s859), .v (.int .i64 s860), .v (.int .i64 s861), .v (.int .i64 s862), .v (.bool s863)]), (9, .v (.int .i64 v13)), (10, .v (.int .i64 s864)), (11, .fl (.own 5) 1 (List.map (Value.int .u8) s865)), (12, .v (.int .i64 s537)), (14, .fr (.own 26) false 5 (List.flatten (List.map T_Frame.ienc v24.2.1))), (16, .v (.int .i64 s866)), (17, .box 26 [.v (.int .i64 0), .v (.int .i64 v5), .v (.int .i64 0), .v (.int .i64 0), .v (.slice none 0 0)]), (119, .v (.bool s934))]) ?_ ?_
           ·rintro s934 h
            refine pt_then ?_
            refine ht_cond _ rfl (fun hb938 => ?_) (fun hb938 => ?_)
            ·have h := cond_t hb938 h
             refine ht_seqR hn (El := [_, _, _, _, _, _, _, _, _, _, _, (133, .ptr 17 0), (17, .box 26 [.v (.int .i64 5), .v (.int .i64 v5), .v (.int .i64 0), .v (.int .i64 0), .v (.slice none 0 0)])]) (init := [0, 1, 2, 3, 4, 5, 6, 7, 8, 9, 10]) (fin := [0, 1, 2, 3, 4, 5, 6, 7, 8, 12]) (sps := [⟨[9], [], [11], [(.slot 133)]⟩, ⟨[11], [9], [12], [.cell 17 0]⟩]) (es' := [(_, _), (_, _), (_, _), (_, _), (_, _), (_, _), (_, _), (_, _), (_, _), (17, .box 26 [.v (.int .i64 5), .v (.int .i64 v5), .v (.int .i64 0), .v (.int .i64 0), .v (.slice none 0 0)])]) (by kernel_rfl) rfl rfl
              ⟨st_plain rfl (op_fieldAddr _ _ _ _ 17 0 _ Try.underlying26 rfl sz3 rfl rfl (by decide)),
              st_plain rfl (op_store _ _ _ _ _ _ _ _ sz3 rfl rfl rfl rfl (Nat.le_of_ble_eq_true rfl) rfl rfl),
              trivial⟩ ?_
             refine pt_inb ?_
             exact hl932 _ (Option.some.inj h).symm
            ·have h := cond_f hb938 h
             refine ht_seq ?_
             obtain ⟨v34, hv34, h⟩ := bind_some h
             obtain ⟨v35, hv35, h⟩ := bind_some h
             refine ht_seqR hn (El := (_ :: _ :: _ :: _ :: _ :: _ :: _ :: _ :: _ :: _ :: _ :: (135, .same (.slot 14)) :: (136, .v (.int .i64 s866)) :: (137, .eref (.slot 14) (v34 * 5)) :: (138, .eref (.slot 14) (v34 * 5 + 0)) :: (139, .v (.int .i64 v35.Kind)) :: (140, .v (.bool (v35.Kind == 1))) :: (134, .v (.bool (v35.Kind == 1))) :: [])) (init := [0, 1, 2, 3, 4, 5, 6, 7, 8, 9, 10]) (fin := [0, 1, 2, 3, 4, 5, 6, 7, 8, 9, 17]) (sps := [⟨[7], [], [11], [(.slot 135)]⟩, ⟨[8], [], [12], [(.slot 136)]⟩, ⟨[11, 7, 12], [], [13], [(.slot 137)]⟩, ⟨[13, 7], [], [14], [(.slot 138)]⟩, ⟨[14, 7], [], [15], [(.slot 139)]⟩, ⟨[15], [], [16], [(.slot 140)]⟩, ⟨[16], [], [17], [(.slot 134)]⟩]) (es' := [(_, _), (_, _), (_, _), (_, _), (_, _), (_, _), (_, _), (_, _), (_, _), (_, _), (134, .v (.bool (v35.Kind == 1)))]) (by kernel_rfl) rfl rfl
              ⟨st_plain rfl (op_move _ _ _ _ rfl rfl),
              st_plain rfl (op_move _ _ _ _ rfl rfl),
              st_plain rfl (op_ix_fr _ _ _ _ _ _ _ _ Try.underlying31 sz26 (by decide) rfl rfl rfl (ix_ok hv34).1 (gflat_lt T_Frame.ilen (ix_ok hv34).2) rfl),
              st_plain rfl (op_fieldAddr_e _ _ _ _ _ _ _ Try.underlying26 rfl sz3 rfl rfl rfl),
              st_plain rfl (op_load_fr _ _ _ _ _ _ _ Try.underlying3 rfl rfl rfl (gflat_cell T_Frame.ilen hv35 rfl) (.v _)),
              st_plain rfl (op_bin _ _ _ _ _ rfl rfl rfl),
              st_plain rfl (op_assign _ _ _ _ rfl rfl),
              trivial⟩ ?_
             refine pt_then ?_
             refine ht_cond _ rfl (fun hb939 => ?_) (fun hb939 => ?_)
             ·have h := cond_t hb939 h
              refine ht_seqR hn (El := (_ :: _ :: _ :: _ :: _ :: _ :: _ :: _ :: _ :: _ :: _ :: (141, .same (.slot 11)) :: (142, .v (.int .i64 (s865.length : Int))) :: (143, .ptr 17 0) :: (17, .box 26 [.v (.int .i64 2), .v (.int .i64 v5), .v (.int .i64 0), .v (.int .i64 0), .v (.slice none 0 0)]) :: (144, .ptr 17 2) :: (17, .box 26 [.v (.int .i64 2), .v (.int .i64 v5), .v (.int .i64 (s865.length : Int)), .v (.int .i64 0), .v (.slice none 0 0)]) :: [])) (init := [0, 1, 2, 3, 4, 5, 6, 7, 8, 9, 10]) (fin := [0, 1, 2, 3, 4, 5, 6, 7, 8, 16]) (sps := [⟨[5], [], [11], [(.slot 141)]⟩, ⟨[11, 5], [], [12], [(.slot 142)]⟩, ⟨[9], [], [13], [(.slot 143)]⟩, ⟨[13], [9], [14], [.cell 17 0]⟩, ⟨[14], [], [15], [(.slot 144)]⟩, ⟨[15, 12], [14], [16], [.cell 17 2]⟩]) (es' := [(_, _), (_, _), (_, _), (_, _), (_, _), (_, _), (_, _), (_, _), (_, _), (17, .box 26 [.v (.int .i64 2), .v (.int .i64 v5), .v (.int .i64 (s865.length : Int)), .v (.int .i64 0), .v (.slice none 0 0)])]) (by kernel_rfl) rfl rfl
               ⟨st_plain rfl (op_move _ _ _ _ rfl rfl),
               st_plain rfl (op_len_fl _ _ _ Try.underlying22 rfl (by decide) (map_len _)),
               st_plain rfl (op_fieldAddr _ _ _ _ 17 0 _ Try.underlying26 rfl sz3 rfl rfl (by decide)),
               st_plain rfl (op_store _ _ _ _ _ _ _ _ sz3 rfl rfl rfl rfl (Nat.le_of_ble_eq_true rfl) rfl rfl),
               st_plain rfl (op_fieldAddr _ _ _ _ 17 0 _ Try.underlying26 rfl sz3 rfl rfl (by decide)),
               st_plain rfl (op_store _ _ _ _ _ _ _ _ sz3 rfl rfl rfl rfl (Nat.le_of_ble_eq_true rfl) rfl rfl),
               trivial⟩ ?_
              refine pt_inb ?_
              exact hl932 _ (Option.some.inj h).symm
             ·have h := cond_f hb939 h
              refine ht_seq ?_
              refine ht_seq ?_
              refine ht_joinS h (fun (s940 : Bool) => [(1, .fl .shr 1 (List.map (Value.int .u8) data)), (0, .v (.int .i64 v5)), (7, .box 24 [.v (.int .i64 s857), .fl (.own 5) 1 (List.map (Value.int .u8) s858), .v (.bool s859), .v (.int .i64 s860), .v (.int .i64 s861), .v (.int .i64 s862), .v (.bool s863)]), (9, .v (.int .i64 v13)), (10, .v (.int .i64 s864)), (11, .fl (.own 5) 1 (List.map (Value.int .u8) s865)), (12, .v (.int .i64 s537)), (14, .fr (.own 26) false 5 (List.flatten (List.map T_Frame.ienc v24.2.1))), (16, .v (.int .i64 s866)), (17, .box 26 [.v (.int .i64 0), .v (.int .i64 v5), .v (.int .i64 0), .v (.int .i64 0), .v (.slice none 0 0)]), (105, .v (.bool s940))]) ?_ ?_
              ·rintro s940 h
               refine pt_then ?_
               refine ht_cond _ rfl (fun hb944 => ?_) (fun hb944 => ?_)
               ·have h := cond_t hb944 h
                refine ht_seq ?_
                refine ht_seqR hn (El := [_, _, _, _, _, _, _, _, _, _, _, (6, .v (.bool false))]) (init := [0, 1, 2, 3, 4, 5, 6, 7, 8, 9, 10]) (fin := [11]) (sps := [⟨[], [], [11], [(.slot 6)]⟩]) (es' := [(6, .v (.bool false))]) (by kernel_rfl) rfl rfl
                 ⟨st_plain rfl (op_assign _ _ _ _ rfl rfl),
                 trivial⟩ ?_
                refine pt_then ?_
                refine ht_ret ?_
                refine pt_r_then ?_
                refine pt_r_in ?_
                refine pt_r_then ?_
                refine pt_r_in ?_
                refine pt_r_then ?_
                refine pt_r_then ?_
                refine pt_r_in ?_
                refine pt_r_then ?_
                refine pt_r_in ?_
                refine pt_r_then ?_
                refine pt_r_then ?_
                refine pt_r_in ?_
                refine pt_r_then ?_
                have h := hr933 _ (Option.some.inj h).symm
                have h := hr910 _ (ho911 _ (Option.some.inj h).symm).symm
                have h := hr777 _ (ho778 _ (Option.some.inj h).symm).symm
                obtain rfl := Option.some.inj h
                exact pt_ret hio rfl (.tmp _ _ .nil) rfl rfl
               ·have h := cond_f hb944 h
                refine ht_skip ?_
                refine pt_then ?_
                refine ht_seq ?_
                obtain ⟨v47, hv47, h⟩ := bind_some h
                obtain ⟨v48, hv48, h⟩ := bind_some h
                obtain ⟨v49, hv49, h⟩ := bind_some h
                refine ht_seqR hn (El := (_ :: _ :: _ :: _ :: _ :: _ :: _ :: _ :: _ :: _ :: _ :: (106, .fl (.own 5) 1 (List.map (Value.int .u8) s865)) :: (107, .same (.slot 14)) :: (108, .v (.int .i64 s866)) :: (109, .eref (.slot 14) (v47 * 5)) :: (110, .eref (.slot 14) (v47 * 5 + 4)) :: (111, .fl .ro 1 (List.map (Value.int .u8) v48.Data)) :: (112, .fl (.own 5) 1 (List.map (Value.int .u8) v49)) :: (106, .any) :: (11, .fl (.own 5) 1 (List.map (Value.int .u8) v49)) :: [])) (init := [0, 1, 2, 3, 4, 5, 6, 7, 8, 9, 10]) (fin := [0, 1, 2, 3, 4, 6, 7, 8, 9, 19]) (sps := [⟨[], [5], [11], [(.slot 106)]⟩, ⟨[7], [], [12], [(.slot 107)]⟩, ⟨[8], [], [13], [(.slot 108)]⟩, ⟨[12, 7, 13], [], [14], [(.slot 109)]⟩, ⟨[14, 7], [], [15], [(.slot 110)]⟩, ⟨[15, 7], [], [16], [(.slot 111)]⟩, ⟨[16], [11], [18, 17], [(.slot 112)]⟩, ⟨[], [17], [19], [(.slot 11)]⟩]) (es' := [(_, _), (_, _), (_, _), (_, _), (_, _), (_, _), (_, _), (_, _), (_, _), (11, .fl (.own 5) 1 (List.map (Value.int .u8) v49))]) (by kernel_rfl) rfl rfl
                 ⟨st_plain rfl (op_move_take _ _ _ _ rfl),
                 st_plain rfl (op_move _ _ _ _ rfl rfl),
                 st_plain rfl (op_move _ _ _ _ rfl rfl),
                 st_plain rfl (op_ix_fr _ _ _ _ _ _ _ _ Try.underlying31 sz26 (by decide) rfl rfl rfl (ix_ok hv47).1 (gflat_lt T_Frame.ilen (ix_ok hv47).2) rfl),
                 st_plain rfl (op_fieldAddr_e _ _ _ _ _ _ _ Try.underlying26 rfl sz22 rfl rfl rfl),
                 st_plain rfl (op_load_fr _ _ _ _ _ _ _ Try.underlying22 rfl rfl rfl (gflat_cell T_Frame.ilen hv48 rfl) (.fl _ _ rfl)),
                 st_plain rfl (op_app _ _ _ _ _ el22 rfl rfl (map_len _) (map_len _) hv49 ((List.map_append).symm.trans (congrArg (List.map _) (app_eq hv49)))),
                 st_plain rfl (op_assign_take _ _ _ _ rfl),
                 trivial⟩ ?_
                refine pt_then ?_
                refine ht_seq ?_
                obtain ⟨v50, hv50, h⟩ := bind_some h
                refine ht_seqR hn (El := [_, _, _, _, _, _, _, _, _, _, (113, .v (.int .i64 s864)), (114, .v (.int .i64 v50)), (10, .v (.int .i64 v50))]) (init := [0, 1, 2, 3, 4, 5, 6, 7, 8, 9]) (fin := [0, 1, 2, 3, 5, 6, 7, 8, 9, 12]) (sps := [⟨[4], [], [10], [(.slot 113)]⟩, ⟨[10], [], [11], [(.slot 114)]⟩, ⟨[11], [4], [12], [(.slot 10)]⟩]) (es' := [(_, _), (_, _), (_, _), (_, _), (_, _), (_, _), (_, _), (_, _), (_, _), (10, .v (.int .i64 v50))]) (by kernel_rfl) rfl rfl
                 ⟨st_plain rfl (op_move _ _ _ _ rfl rfl),
                 st_plain rfl (op_bin _ _ _ _ _ rfl rfl (ibind (f := Value.int .i64) (Option.some.inj hv50))),
                 st_plain rfl (LOp.drop [_] (op_assign _ _ _ _ rfl rfl)),
                 trivial⟩ ?_
                refine pt_then ?_
                obtain ⟨v51, hv51, h⟩ := bind_some h
                refine ht_seqR hn (El := (_ :: _ :: _ :: _ :: _ :: _ :: _ :: _ :: _ :: _ :: (115, .v (.int .i64 v50)) :: (116, .v (.int .i64 v51)) :: (117, .ptr 17 0) :: (17, .box 26 [.v (.int .i64 4), .v (.int .i64 v5), .v (.int .i64 0), .v (.int .i64 0), .v (.slice none 0 0)]) :: (118, .ptr 17 3) :: (17, .box 26 [.v (.int .i64 4), .v (.int .i64 v5), .v (.int .i64 0), .v (.int .i64 v51), .v (.slice none 0 0)]) :: [])) (init := [0, 1, 2, 3, 4, 5, 6, 7, 8, 9]) (fin := [0, 1, 2, 3, 4, 5, 6, 15, 8, 9]) (sps := [⟨[9], [], [10], [(.slot 115)]⟩, ⟨[10], [], [11], [(.slot 116)]⟩, ⟨[7], [], [12], [(.slot 117)]⟩, ⟨[12], [7], [13], [.cell 17 0]⟩, ⟨[13], [], [14], [(.slot 118)]⟩, ⟨[14, 11], [13], [15], [.cell 17 3]⟩]) (es' := [(_, _), (_, _), (_, _), (_, _), (_, _), (_, _), (_, _), (17, .box 26 [.v (.int .i64 4), .v (.int .i64 v5), .v (.int .i64 0), .v (.int .i64 v51), .v (.slice none 0 0)]), (_, _), (_, _)]) (by kernel_rfl) rfl rfl
                 ⟨st_plain rfl (op_move _ _ _ _ rfl rfl),
                 st_plain rfl (op_bin _ _ _ _ _ rfl rfl (rem_ok hv51)),
                 st_plain rfl (op_fieldAddr _ _ _ _ 17 0 _ Try.underlying26 rfl sz3 rfl rfl (by decide)),
                 st_plain rfl (op_store _ _ _ _ _ _ _ _ sz3 rfl rfl rfl rfl (Nat.le_of_ble_eq_true rfl) rfl rfl),
                 st_plain rfl (op_fieldAddr _ _ _ _ 17 0 _ Try.underlying26 rfl sz3 rfl rfl (by decide)),
                 st_plain rfl (op_store _ _ _ _ _ _ _ _ sz3 rfl rfl rfl rfl (Nat.le_of_ble_eq_true rfl) rfl rfl),
                 trivial⟩ ?_
                refine pt_inb ?_
                refine pt_pick [0, 1, 2, 3, 9, 8, 4, 5, 6, 7] (by kernel_rfl) (es' := [(_, _), (_, _), (_, _), (_, _), (_, _), (_, _), (_, _), (_, _), (_, _), (_, _)]) rfl ?_
                exact hl932 _ (Option.some.inj h).symm
              ·intro u941 h hl942 hr943
               obtain ⟨v37, hv37, h⟩ := bind_some h
               obtain ⟨v38, hv38, h⟩ := bind_some h
               refine cond_some h (fun hg24_8 h => ?_) (fun hg24_8 h => ?_)
               ·refine ht_seqR hn (El := (_ :: _ :: _ :: _ :: _ :: _ :: _ :: _ :: _ :: _ :: _ :: (88, .same (.slot 14)) :: (89, .v (.int .i64 s866)) :: (90, .eref (.slot 14) (v37 * 5)) :: (91, .eref (.slot 14) (v37 * 5 + 2)) :: (92, .v (.int .i64 v38.Offset)) :: (93, .same (.slot 11)) :: (94, .v (.int .i64 (s865.length : Int))) :: (95, .v (.bool ((v38.Offset != (s865.length : Int))))) :: (96, .v (.bool true)) :: (97, .v undef) :: (98, .v undef) :: (99, .v undef) :: (100, .v undef) :: (101, .v undef) :: (102, .v undef) :: (103, .v undef) :: (104, .v undef) :: (105, .v (.bool true)) :: [])) (init := [0, 1, 2, 3, 4, 5, 6, 7, 8, 9, 10]) (fin := [0, 1, 2, 3, 4, 5, 6, 7, 8, 9, 28]) (sps := (⟨[7], [], [11], [(.slot 88)]⟩ :: ⟨[8], [], [12], [(.slot 89)]⟩ :: ⟨[11, 7, 12], [], [13], [(.slot 90)]⟩ :: ⟨[13, 7], [], [14], [(.slot 91)]⟩ :: ⟨[14, 7], [], [15], [(.slot 92)]⟩ :: ⟨[5], [], [16], [(.slot 93)]⟩ :: ⟨[16, 5], [], [17], [(.slot 94)]⟩ :: ⟨[15, 17], [], [18], [(.slot 95)]⟩ :: ⟨[18], [], [19], [(.slot 96)]⟩ :: ⟨[19], [], [20], [(.slot 97)]⟩ :: ⟨[19], [], [21], [(.slot 98)]⟩ :: ⟨[19], [], [22], [(.slot 99)]⟩ :: ⟨[19], [], [23], [(.slot 100)]⟩ :: ⟨[19], [], [24], [(.slot 101)]⟩ :: ⟨[19], [], [25], [(.slot 102)]⟩ :: ⟨[19], [], [26], [(.slot 103)]⟩ :: ⟨[19], [], [27], [(.slot 104)]⟩ :: ⟨[19], [], [28], [(.slot 105)]⟩ :: [])) (es' := [(_, _), (_, _), (_, _), (_, _), (_, _), (_, _), (_, _), (_, _), (_, _), (_, _), (105, .v (.bool true))]) (by kernel_rfl) rfl rfl
                 ⟨st_plain rfl (op_move _ _ _ _ rfl rfl),
                 st_plain rfl (op_move _ _ _ _ rfl rfl),
                 st_plain rfl (op_ix_fr _ _ _ _ _ _ _ _ Try.underlying31 sz26 (by decide) rfl rfl rfl (ix_ok hv37).1 (gflat_lt T_Frame.ilen (ix_ok hv37).2) rfl),
                 st_plain rfl (op_fieldAddr_e _ _ _ _ _ _ _ Try.underlying26 rfl sz3 rfl rfl rfl),
                 st_plain rfl (op_load_fr _ _ _ _ _ _ _ Try.underlying3 rfl rfl rfl (gflat_cell T_Frame.ilen hv38 rfl) (.v _)),
                 st_plain rfl (op_move _ _ _ _ rfl rfl),
                 st_plain rfl (op_len_fl _ _ _ Try.underlying22 rfl (by decide) (map_len _)),
                 st_plain rfl (op_bin _ _ _ _ _ rfl rfl rfl),
                 st_plain rfl (op_move _ _ _ _ (congrArg (fun b => AV.v (Value.bool b)) hg24_8) rfl),
                 st_skip 8 96 _ false rfl rfl rfl rfl (List.Mem.head _),
                 st_skip 8 96 _ false rfl rfl rfl rfl (List.Mem.head _),
                 st_skip 8 96 _ false rfl rfl rfl rfl (List.Mem.head _),
                 st_skip 8 96 _ false rfl rfl rfl rfl (List.Mem.head _),
                 st_skip 8 96 _ false rfl rfl rfl rfl (List.Mem.head _),
                 st_skip 8 96 _ false rfl rfl rfl rfl (List.Mem.head _),
                 st_skip 8 96 _ false rfl rfl rfl rfl (List.Mem.head _),
                 st_skip 8 96 _ false rfl rfl rfl rfl (List.Mem.head _),
                 st_plain rfl (op_pick _ _ true _ rfl rfl),
                 trivial⟩ ?_
                exact hl942 _ (Option.some.inj h).symm
               ·obtain ⟨v39, hv39, h⟩ := bind_some h
                obtain ⟨v40, hv40, h⟩ := bind_some h
                obtain ⟨v41, hv41, h⟩ := bind_some h
                refine ht_seqR hn (El := (_ :: _ :: _ :: _ :: _ :: _ :: _ :: _ :: _ :: _ :: _ :: (88, .same (.slot 14)) :: (89, .v (.int .i64 s866)) :: (90, .eref (.slot 14) (v37 * 5)) :: (91, .eref (.slot 14) (v37 * 5 + 2)) :: (92, .v (.int .i64 v38.Offset)) :: (93, .same (.slot 11)) :: (94, .v (.int .i64 (s865.length : Int))) :: (95, .v (.bool ((v38.Offset != (s865.length : Int))))) :: (96, .v (.bool false)) :: (97, .same (.slot 14)) :: (98, .v (.int .i64 s866)) :: (99, .eref (.slot 14) (v39 * 5)) :: (100, .eref (.slot 14) (v39 * 5 + 3)) :: (101, .v (.int .i64 v40.Seq)) :: (102, .v (.int .i64 s864)) :: (103, .v (.int .i64 v41)) :: (104, .v (.bool (v40.Seq != v41))) :: (105, .v (.bool (v40.Seq != v41))) :: [])) (init := [0, 1, 2, 3, 4, 5, 6, 7, 8, 9, 10]) (fin := [0, 1, 2, 3, 4, 5, 6, 7, 8, 9, 28]) (sps := (⟨[7], [], [11], [(.slot 88)]⟩ :: ⟨[8], [], [12], [(.slot 89)]⟩ :: ⟨[11, 7, 12], [], [13], [(.slot 90)]⟩ :: ⟨[13, 7], [], [14], [(.slot 91)]⟩ :: ⟨[14, 7], [], [15], [(.slot 92)]⟩ :: ⟨[5], [], [16], [(.slot 93)]⟩ :: ⟨[16, 5], [], [17], [(.slot 94)]⟩ :: ⟨[15, 17], [], [18], [(.slot 95)]⟩ :: ⟨[18], [], [19], [(.slot 96)]⟩ :: ⟨[19, 7], [], [20], [(.slot 97)]⟩ :: ⟨[19, 8], [], [21], [(.slot 98)]⟩ :: ⟨[19, 20, 7, 21], [], [22], [(.slot 99)]⟩ :: ⟨[19, 22, 7], [], [23], [(.slot 100)]⟩ :: ⟨[19, 23, 7], [], [24], [(.slot 101)]⟩ :: ⟨[19, 4], [], [25], [(.slot 102)]⟩ :: ⟨[19, 25], [], [26], [(.slot 103)]⟩ :: ⟨[19, 24, 26], [], [27], [(.slot 104)]⟩ :: ⟨[19, 27], [], [28], [(.slot 105)]⟩ :: [])) (es' := [(_, _), (_, _), (_, _), (_, _), (_, _), (_, _), (_, _), (_, _), (_, _), (_, _), (105, .v (.bool (v40.Seq != v41)))]) (by kernel_rfl) rfl rfl
                 ⟨st_plain rfl (op_move _ _ _ _ rfl rfl),
                 st_plain rfl (op_move _ _ _ _ rfl rfl),
                 st_plain rfl (op_ix_fr _ _ _ _ _ _ _ _ Try.underlying31 sz26 (by decide) rfl rfl rfl (ix_ok hv37).1 (gflat_lt T_Frame.ilen (ix_ok hv37).2) rfl),
                 st_plain rfl (op_fieldAddr_e _ _ _ _ _ _ _ Try.underlying26 rfl sz3 rfl rfl rfl),
                 st_plain rfl (op_load_fr _ _ _ _ _ _ _ Try.underlying3 rfl rfl rfl (gflat_cell T_Frame.ilen hv38 rfl) (.v _)),
                 st_plain rfl (op_move _ _ _ _ rfl rfl),
                 st_plain rfl (op_len_fl _ _ _ Try.underlying22 rfl (by decide) (map_len _)),
                 st_plain rfl (op_bin _ _ _ _ _ rfl rfl rfl),
                 st_plain rfl (op_move _ _ _ _ (congrArg (fun b => AV.v (Value.bool b)) hg24_8) rfl),
                 st_run 8 96 false rfl rfl rfl (List.Mem.head _) (op_move _ _ _ _ rfl rfl),
                 st_run 8 96 false rfl rfl rfl (List.Mem.head _) (op_move _ _ _ _ rfl rfl),
                 st_run 8 96 false rfl rfl rfl (List.Mem.head _) (op_ix_fr _ _ _ _ _ _ _ _ Try.underlying31 sz26 (by decide) rfl rfl rfl (ix_ok hv39).1 (gflat_lt T_Frame.ilen (ix_ok hv39).2) rfl),
                 st_run 8 96 false rfl rfl rfl (List.Mem.head _) (op_fieldAddr_e _ _ _ _ _ _ _ Try.underlying26 rfl sz3 rfl rfl rfl),
                 st_run 8 96 false rfl rfl rfl (List.Mem.head _) (op_load_fr _ _ _ _ _ _ _ Try.underlying3 rfl rfl rfl (gflat_cell T_Frame.ilen hv40 rfl) (.v _)),
                 st_run 8 96 false rfl rfl rfl (List.Mem.head _) (op_move _ _ _ _ rfl rfl),
                 st_run 8 96 false rfl rfl rfl (List.Mem.head _) (op_bin _ _ _ _ _ rfl rfl (rem_ok hv41)),
                 st_run 8 96 false rfl rfl rfl (List.Mem.head _) (op_bin _ _ _ _ _ rfl rfl rfl),
                 st_plain rfl (op_pick _ _ false _ rfl rfl),
                 trivial⟩ ?_
                exact hl942 _ (Option.some.inj h).symm
           ·intro u935 h hl936 hr937
            obtain ⟨v27, hv27, h⟩ := bind_some h
            obtain ⟨v28, hv28, h⟩ := bind_some h
            refine cond_some h (fun hg29_6 h => ?_) (fun hg29_6 h => ?_)
            ·refine ht_seqR hn (El := (_ :: _ :: _ :: _ :: _ :: _ :: _ :: _ :: _ :: _ :: (120, .same (.slot 14)) :: (121, .v (.int .i64 s866)) :: (122, .eref (.slot 14) (v27 * 5)) :: (123, .eref (.slot 14) (v27 * 5 + 0)) :: (124, .v (.int .i64 v28.Kind)) :: (125, .v (.bool (v28.Kind == 1))) :: (126, .v (.bool true)) :: (127, .same (.slot 11)) :: (128, .v (.int .i64 (s865.length : Int))) :: (129, .fl .shr 1 (List.map (Value.int .u8) data)) :: (130, .v (.int .i64 (data.length : Int))) :: (131, .v (.bool (((s865.length : Int) == (data.length : Int))))) :: (132, .v (.bool (((s865.length : Int) == (data.length : Int))))) :: (119, .v (.bool (((s865.length : Int) == (data.length : Int))))) :: [])) (init := [0, 1, 2, 3, 4, 5, 6, 7, 8, 9]) (fin := [0, 1, 2, 3, 4, 5, 6, 7, 8, 9, 23]) (sps := [⟨[7], [], [10], [(.slot 120)]⟩, ⟨[8], [], [11], [(.slot 121)]⟩, ⟨[10, 7, 11], [], [12], [(.slot 122)]⟩, ⟨[12, 7], [], [13], [(.slot 123)]⟩, ⟨[13, 7], [], [14], [(.slot 124)]⟩, ⟨[14], [], [15], [(.slot 125)]⟩, ⟨[15], [], [16], [(.slot 126)]⟩, ⟨[16, 5], [], [17], [(.slot 127)]⟩, ⟨[16, 17, 5], [], [18], [(.slot 128)]⟩, ⟨[16, 0], [], [19], [(.slot 129)]⟩, ⟨[16, 19], [], [20], [(.slot 130)]⟩, ⟨[16, 18, 20], [], [21], [(.slot 131)]⟩, ⟨[16, 21], [], [22], [(.slot 132)]⟩, ⟨[22], [], [23], [(.slot 119)]⟩]) (es' := [(_, _), (_, _), (_, _), (_, _), (_, _), (_, _), (_, _), (_, _), (_, _), (_, _), (119, .v (.bool (((s865.length : Int) == (data.length : Int)))))]) (by kernel_rfl) rfl rfl
              ⟨st_plain rfl (op_move _ _ _ _ rfl rfl),
              st_plain rfl (op_move _ _ _ _ rfl rfl),
              st_plain rfl (op_ix_fr _ _ _ _ _ _ _ _ Try.underlying31 sz26 (by decide) rfl rfl rfl (ix_ok hv27).1 (gflat_lt T_Frame.ilen (ix_ok hv27).2) rfl),
              st_plain rfl (op_fieldAddr_e _ _ _ _ _ _ _ Try.underlying26 rfl sz3 rfl rfl rfl),
              st_plain rfl (op_load_fr _ _ _ _ _ _ _ Try.underlying3 rfl rfl rfl (gflat_cell T_Frame.ilen hv28 rfl) (.v _)),
              st_plain rfl (op_bin _ _ _ _ _ rfl rfl rfl),
              st_plain rfl (op_move _ _ _ _ (congrArg (fun b => AV.v (Value.bool b)) hg29_6) rfl),
              st_run 6 126 true rfl rfl rfl (List.Mem.head _) (op_move _ _ _ _ rfl rfl),
              st_run 6 126 true rfl rfl rfl (List.Mem.head _) (op_len_fl _ _ _ Try.underlying22 rfl (by decide) (map_len _)),
              st_run 6 126 true rfl rfl rfl (List.Mem.head _) (op_move _ _ _ _ rfl rfl),
              st_run 6 126 true rfl rfl rfl (List.Mem.head _) (op_len_fl _ _ _ Try.underlying22 rfl (by decide) (map_len _)),
              st_run 6 126 true rfl rfl rfl (List.Mem.head _) (op_bin _ _ _ _ _ rfl rfl rfl),
              st_plain rfl (op_pick _ _ true _ rfl rfl),
              st_plain rfl (op_assign _ _ _ _ rfl rfl),
              trivial⟩ ?_
             exact hl936 _ (Option.some.inj h).symm
            ·refine ht_seqR hn (El := (_ :: _ :: _ :: _ :: _ :: _ :: _ :: _ :: _ :: _ :: (120, .same (.slot 14)) :: (121, .v (.int .i64 s866)) :: (122, .eref (.slot 14) (v27 * 5)) :: (123, .eref (.slot 14) (v27 * 5 + 0)) :: (124, .v (.int .i64 v28.Kind)) :: (125, .v (.bool (v28.Kind == 1))) :: (126, .v (.bool false)) :: (127, .v undef) :: (128, .v undef) :: (129, .v undef) :: (130, .v undef) :: (131, .v undef) :: (132, .v (.bool false)) :: (119, .v (.bool false)) :: [])) (init := [0, 1, 2, 3, 4, 5, 6, 7, 8, 9]) (fin := [0, 1, 2, 3, 4, 5, 6, 7, 8, 9, 23]) (sps := [⟨[7], [], [10], [(.slot 120)]⟩, ⟨[8], [], [11], [(.slot 121)]⟩, ⟨[10, 7, 11], [], [12], [(.slot 122)]⟩, ⟨[12, 7], [], [13], [(.slot 123)]⟩, ⟨[13, 7], [], [14], [(.slot 124)]⟩, ⟨[14], [], [15], [(.slot 125)]⟩, ⟨[15], [], [16], [(.slot 126)]⟩, ⟨[16], [], [17], [(.slot 127)]⟩, ⟨[16], [], [18], [(.slot 128)]⟩, ⟨[16], [], [19], [(.slot 129)]⟩, ⟨[16], [], [20], [(.slot 130)]⟩, ⟨[16], [], [21], [(.slot 131)]⟩, ⟨[16], [], [22], [(.slot 132)]⟩, ⟨[22], [], [23], [(.slot 119)]⟩]) (es' := [(_, _), (_, _), (_, _), (_, _), (_, _), (_, _), (_, _), (_, _), (_, _), (_, _), (119, .v (.bool false))]) (by kernel_rfl) rfl rfl
              ⟨st_plain rfl (op_move _ _ _ _ rfl rfl),
              st_plain rfl (op_move _ _ _ _ rfl rfl),
              st_plain rfl (op_ix_fr _ _ _ _ _ _ _ _ Try.underlying31 sz26 (by decide) rfl rfl rfl (ix_ok hv27).1 (gflat_lt T_Frame.ilen (ix_ok hv27).2) rfl),
              st_plain rfl (op_fieldAddr_e _ _ _ _ _ _ _ Try.underlying26 rfl sz3 rfl rfl rfl),
              st_plain rfl (op_load_fr _ _ _ _ _ _ _ Try.underlying3 rfl rfl rfl (gflat_cell T_Frame.ilen hv28 rfl) (.v _)),
              st_plain rfl (op_bin _ _ _ _ _ rfl rfl rfl),
              st_plain rfl (op_move _ _ _ _ (congrArg (fun b => AV.v (Value.bool b)) hg29_6) rfl),
              st_skip 6 126 _ true rfl rfl rfl rfl (List.Mem.head _),
              st_skip 6 126 _ true rfl rfl rfl rfl (List.Mem.head _),
              st_skip 6 126 _ true rfl rfl rfl rfl (List.Mem.head _),
              st_skip 6 126 _ true rfl rfl rfl rfl (List.Mem.head _),
              st_skip 6 126 _ true rfl rfl rfl rfl (List.Mem.head _),
              st_plain rfl (op_pick _ _ false _ rfl rfl),
              st_plain rfl (op_assign _ _ _ _ rfl rfl),
              trivial⟩ ?_
             exact hl936 _ (Option.some.inj h).symm
         ·have h := cond_f hb914 h
          refine ht_exit ?_
          refine pt_x_then ?_
          refine pt_x_then ?_
          refine pt_x_in ?_
          refine pt_pick [0, 1, 2, 3, 4, 5, 6] (by kernel_rfl) (es' := [(_, _), (_, _), (_, _), (_, _), (_, _), (_, _), (_, _)]) rfl ?_
          exact hl909 _ (ho911 _ (Option.some.inj h).symm).symm
      ·have h := cond_f hb781 h
       refine ht_exit ?_
       refine pt_x_then ?_
       refine pt_x_then ?_
       refine pt_x_in ?_
       refine pt_pick [] (by kernel_rfl) (es' := []) rfl ?_
       exact hl776 _ (ho778 _ (Option.some.inj h).symm).symm

end Go.Proofs.Ytdligpdfcfbgpaa
