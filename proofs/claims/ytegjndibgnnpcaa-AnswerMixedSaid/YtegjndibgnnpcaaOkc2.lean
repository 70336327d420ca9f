/-
  The model's runs are what is told in Lean.
-/
import Derived.Test.YtegjndibgnnpcaaProg
import Derived.KernelRfl
import Derived.Test.YtegjndibgnnpcaaShelf
import Derived.Test.YtegjndibgnnpcaaOkc1
set_option linter.unusedVariables false
set_option linter.unusedSimpArgs false
namespace Go.Proofs.Ytegjndibgnnpcaa
open Go.Abs Go.Abs.Sh

set_option maxHeartbeats 1000000 in
theorem ok_wherryref11_number (s : ByteArray) (most : Int) (r : Int) (h : Sh.wherryref11_number s most = some r) : FnOK Try.prog 24 [.v (.string s), .v (.int .i64 most)] (.v (.int .i64 r)) := by
  unfold Sh.wherryref11_number at h
  refine fn_ok Try.func24 rfl (Nat.le_of_ble_eq_true rfl) rfl rfl fun g0 hn hio => ?_
  refine ht_seq ?_
  refine ht_seqR hn (El := [_, _, (4, .v (.int .i64 0))]) (init := [0, 1]) (fin := [0, 1]) (sps := [⟨[], [], [2], [(.slot 4)]⟩]) (es' := [(_, _), (_, _)]) (by kernel_rfl) rfl rfl
   ⟨st_plain rfl (op_assign _ _ _ _ rfl rfl),
   trivial⟩ ?_
  refine pt_then ?_
  refine ht_seq ?_
  refine ht_seq ?_
  refine ht_joinS h (fun (s3 : Bool) => [(0, .v (.string s)), (21, .v (.bool s3))]) ?_ ?_
  ·rintro s3 h
   refine pt_then ?_
   refine ht_cond _ rfl (fun hb7 => ?_) (fun hb7 => ?_)
   ·have h := cond_t hb7 h
    refine ht_seq ?_
    refine ht_seqR hn (El := [_, _, (4, .v (.int .i64 (-1)))]) (init := [0, 1]) (fin := [2]) (sps := [⟨[], [], [2], [(.slot 4)]⟩]) (es' := [(4, .v (.int .i64 (-1)))]) (by kernel_rfl) rfl rfl
     ⟨st_plain rfl (op_assign _ _ _ _ rfl rfl),
     trivial⟩ ?_
    refine pt_then ?_
    refine ht_ret ?_
    refine pt_r_then ?_
    obtain rfl := Option.some.inj h
    exact pt_ret hio rfl (.tmp _ _ .nil) rfl rfl
   ·have h := cond_f hb7 h
    refine ht_skip ?_
    refine pt_then ?_
    refine ht_seq ?_
    refine ht_seqR hn (El := [_, _, (5, .v (.int .i64 0))]) (init := [0, 1]) (fin := [0, 2]) (sps := [⟨[], [], [2], [(.slot 5)]⟩]) (es' := [(_, _), (5, .v (.int .i64 0))]) (by kernel_rfl) rfl rfl
     ⟨st_plain rfl (op_assign _ _ _ _ rfl rfl),
     trivial⟩ ?_
    refine pt_then ?_
    refine ht_seq ?_
    refine ht_seq ?_
    refine ht_seqR hn (El := [_, _, (6, .v (.int .i64 0))]) (init := [0, 1]) (fin := [0, 1, 2]) (sps := [⟨[], [], [2], [(.slot 6)]⟩]) (es' := [(_, _), (_, _), (6, .v (.int .i64 0))]) (by kernel_rfl) rfl rfl
     ⟨st_plain rfl (op_assign _ _ _ _ rfl rfl),
     trivial⟩ ?_
    refine pt_then ?_
    refine ht_loopS h (fun ((s22, s23) : Int × Int) => [(0, .v (.string s)), (5, .v (.int .i64 s22)), (6, .v (.int .i64 s23))]) (fun (s26 : Int) => [(5, .v (.int .i64 s26))]) ?_ ?_
    ·rintro s26 h
     refine pt_then ?_
     refine ht_seq ?_
     refine ht_seqR hn (El := [_, (41, .v (.int .i64 s26)), (4, .v (.int .i64 s26))]) (init := [0]) (fin := [2]) (sps := [⟨[0], [], [1], [(.slot 41)]⟩, ⟨[1], [], [2], [(.slot 4)]⟩]) (es' := [(4, .v (.int .i64 s26))]) (by kernel_rfl) rfl rfl
      ⟨st_plain rfl (op_move _ _ _ _ rfl rfl),
      st_plain rfl (op_assign _ _ _ _ rfl rfl),
      trivial⟩ ?_
     refine pt_then ?_
     refine ht_ret ?_
     obtain rfl := Option.some.inj h
     exact pt_ret hio rfl (.tmp _ _ .nil) rfl rfl
    ·rintro u27 hl28 hr29 ⟨s22, s23⟩ rr32 h ho30
     refine ht_seq ?_
     refine ht_seq ?_
     refine ht_seqR hn (El := [_, _, _, (22, .v (.int .i64 s23)), (23, .v (.string s)), (24, .v (.int .i64 (s.size : Int))), (25, .v (.bool ((decide (s23 < (s.size : Int))))))]) (init := [0, 1, 2]) (fin := [0, 1, 2, 6]) (sps := [⟨[2], [], [3], [(.slot 22)]⟩, ⟨[0], [], [4], [(.slot 23)]⟩, ⟨[4], [], [5], [(.slot 24)]⟩, ⟨[3, 5], [], [6], [(.slot 25)]⟩]) (es' := [(_, _), (_, _), (_, _), (25, .v (.bool ((decide (s23 < (s.size : Int))))))]) (by kernel_rfl) rfl rfl
      ⟨st_plain rfl (op_move _ _ _ _ rfl rfl),
      st_plain rfl (op_move _ _ _ _ rfl rfl),
      st_plain rfl (op_len_str _ _ _ Try.underlying9 rfl),
      st_plain rfl (op_bin _ _ _ _ _ rfl rfl rfl),
      trivial⟩ ?_
     refine pt_then ?_
     refine ht_cond _ rfl (fun hb33 => ?_) (fun hb33 => ?_)
     ·have h := cond_t hb33 h
      refine ht_skip ?_
      refine pt_then ?_
      refine ht_seq ?_
      refine ht_block ?_
      refine ht_seq ?_
      refine ht_seq ?_
      obtain ⟨v9, hv9, h⟩ := bind_some h
      obtain ⟨v10, hv10, h⟩ := bind_some h
      refine ht_seqR hn (El := [_, _, _, _, (28, .v (.string s)), (29, .v (.int .i64 s23)), (30, .v (.int .u8 v9)), (31, .v (.bool v10)), (32, .v (.bool (!v10)))]) (init := [0, 1, 2, 3]) (fin := [0, 1, 2, 8]) (sps := [⟨[0], [], [4], [(.slot 28)]⟩, ⟨[2], [], [5], [(.slot 29)]⟩, ⟨[4, 5], [], [6], [(.slot 30)]⟩, ⟨[6], [], [7], [(.slot 31)]⟩, ⟨[7], [], [8], [(.slot 32)]⟩]) (es' := [(_, _), (_, _), (_, _), (32, .v (.bool (!v10)))]) (by kernel_rfl) rfl rfl
       ⟨st_plain rfl (op_move _ _ _ _ rfl rfl),
       st_plain rfl (op_move _ _ _ _ rfl rfl),
       st_plain rfl (op_chr _ _ _ s23 _ Try.underlying9 rfl rfl hv9),
       st_plain rfl (op_call _ _ 32 _ _ rfl Try.call32 rfl (ok_wherryref11_digit v9 _ hv10) rfl rfl),
       st_plain rfl (op_un _ _ _ _ rfl rfl),
       trivial⟩ ?_
      refine pt_then ?_
      refine ht_cond _ rfl (fun hb34 => ?_) (fun hb34 => ?_)
      ·have h := cond_t hb34 h
       refine ht_seq ?_
       refine ht_seqR hn (El := [_, _, _, _, (4, .v (.int .i64 (-1)))]) (init := [0, 1, 2, 3]) (fin := [4]) (sps := [⟨[], [], [4], [(.slot 4)]⟩]) (es' := [(4, .v (.int .i64 (-1)))]) (by kernel_rfl) rfl rfl
        ⟨st_plain rfl (op_assign _ _ _ _ rfl rfl),
        trivial⟩ ?_
       refine pt_then ?_
       refine ht_ret ?_
       refine pt_r_then ?_
       refine pt_r_in ?_
       refine pt_r_then ?_
       refine pt_r_then ?_
       refine pt_r_in ?_
       refine pt_r_then ?_
       have h := hr29 _ (ho30 _ (Option.some.inj h).symm).symm
       obtain rfl := Option.some.inj h
       exact pt_ret hio rfl (.tmp _ _ .nil) rfl rfl
      ·have h := cond_f hb34 h
       refine ht_skip ?_
       refine pt_then ?_
       obtain ⟨v12, hv12, h⟩ := bind_some h
       obtain ⟨v13, hv13, h⟩ := bind_some h
       obtain ⟨v14, hv14, h⟩ := bind_some h
       obtain ⟨v15, hv15, h⟩ := bind_some h
       obtain ⟨v16, hv16, h⟩ := bind_some h
       refine ht_seqR hn (El := [_, _, _, _, (33, .v (.int .i64 s22)), (34, .v (.int .i64 v12)), (35, .v (.string s)), (36, .v (.int .i64 s23)), (37, .v (.int .u8 v13)), (38, .v (.int .u8 v14)), (39, .v (.int .i64 v15)), (40, .v (.int .i64 v16)), (5, .v (.int .i64 v16))]) (init := [0, 1, 2, 3]) (fin := [0, 2, 12]) (sps := [⟨[1], [], [4], [(.slot 33)]⟩, ⟨[4], [], [5], [(.slot 34)]⟩, ⟨[0], [], [6], [(.slot 35)]⟩, ⟨[2], [], [7], [(.slot 36)]⟩, ⟨[6, 7], [], [8], [(.slot 37)]⟩, ⟨[8], [], [9], [(.slot 38)]⟩, ⟨[9], [], [10], [(.slot 39)]⟩, ⟨[5, 10], [], [11], [(.slot 40)]⟩, ⟨[11], [1], [12], [(.slot 5)]⟩]) (es' := [(_, _), (_, _), (5, .v (.int .i64 v16))]) (by kernel_rfl) rfl rfl
        ⟨st_plain rfl (op_move _ _ _ _ rfl rfl),
        st_plain rfl (op_bin _ _ _ _ _ rfl rfl (ibind (f := Value.int .i64) (Option.some.inj hv12))),
        st_plain rfl (op_move _ _ _ _ rfl rfl),
        st_plain rfl (op_move _ _ _ _ rfl rfl),
        st_plain rfl (op_chr _ _ _ s23 _ Try.underlying9 rfl rfl hv13),
        st_plain rfl (op_bin _ _ _ _ _ rfl rfl (ibind (f := Value.int .u8) (Option.some.inj hv14))),
        st_plain rfl ((Option.some.inj hv15) ▸ op_conv _ _ _ Try.underlying5 Try.underlying3 rfl),
        st_plain rfl (op_bin _ _ _ _ _ rfl rfl (ibind (f := Value.int .i64) (Option.some.inj hv16))),
        st_plain rfl (LOp.drop [_] (op_assign _ _ _ _ rfl rfl)),
        trivial⟩ ?_
       refine pt_inb ?_
       refine pt_then ?_
       obtain ⟨v17, hv17, h⟩ := bind_some h
       refine ht_seqR hn (El := [_, _, _, (26, .v (.int .i64 s23)), (27, .v (.int .i64 v17)), (6, .v (.int .i64 v17))]) (init := [0, 1, 2]) (fin := [0, 2, 5]) (sps := [⟨[1], [], [3], [(.slot 26)]⟩, ⟨[3], [], [4], [(.slot 27)]⟩, ⟨[4], [1], [5], [(.slot 6)]⟩]) (es' := [(_, _), (_, _), (6, .v (.int .i64 v17))]) (by kernel_rfl) rfl rfl
        ⟨st_plain rfl (op_move _ _ _ _ rfl rfl),
        st_plain rfl (op_bin _ _ _ _ _ rfl rfl (ibind (f := Value.int .i64) (Option.some.inj hv17))),
        st_plain rfl (LOp.drop [_] (op_assign _ _ _ _ rfl rfl)),
        trivial⟩ ?_
       exact pt_next _ (Option.some.inj h).symm rfl
     ·have h := cond_f hb33 h
      refine ht_exit ?_
      refine pt_x_then ?_
      refine pt_x_then ?_
      refine pt_x_in ?_
      refine pt_pick [1] (by kernel_rfl) (es' := [(_, _)]) rfl ?_
      exact hl28 _ (ho30 _ (Option.some.inj h).symm).symm
  ·intro u4 h hl5 hr6
   obtain ⟨v1, hv1, h⟩ := bind_some h
   refine cond_some h (fun hg1_5 h => ?_) (fun hg1_5 h => ?_)
   ·refine ht_seqR hn (El := (_ :: _ :: (7, .v (.string s)) :: (8, .v (.int .i64 (s.size : Int))) :: (9, .v (.int .i64 most)) :: (10, .v (.bool v1)) :: (11, .v (.bool (!v1))) :: (12, .v (.bool true)) :: (13, .v undef) :: (14, .v undef) :: (15, .v undef) :: (16, .v undef) :: (17, .v undef) :: (18, .v undef) :: (19, .v undef) :: (20, .v undef) :: (21, .v (.bool true)) :: [])) (init := [0, 1]) (fin := [0, 16]) (sps := (⟨[0], [], [2], [(.slot 7)]⟩ :: ⟨[2], [], [3], [(.slot 8)]⟩ :: ⟨[1], [], [4], [(.slot 9)]⟩ :: ⟨[3, 4], [], [5], [(.slot 10)]⟩ :: ⟨[5], [], [6], [(.slot 11)]⟩ :: ⟨[6], [], [7], [(.slot 12)]⟩ :: ⟨[7], [], [8], [(.slot 13)]⟩ :: ⟨[7], [], [9], [(.slot 14)]⟩ :: ⟨[7], [], [10], [(.slot 15)]⟩ :: ⟨[7], [], [11], [(.slot 16)]⟩ :: ⟨[11], [], [12], [(.slot 17)]⟩ :: ⟨[11], [], [13], [(.slot 18)]⟩ :: ⟨[11], [], [14], [(.slot 19)]⟩ :: ⟨[7], [], [15], [(.slot 20)]⟩ :: ⟨[7], [], [16], [(.slot 21)]⟩ :: [])) (es' := [(_, _), (21, .v (.bool true))]) (by kernel_rfl) rfl rfl
     ⟨st_plain rfl (op_move _ _ _ _ rfl rfl),
     st_plain rfl (op_len_str _ _ _ Try.underlying9 rfl),
     st_plain rfl (op_move _ _ _ _ rfl rfl),
     st_plain rfl (op_call _ _ 25 _ _ rfl Try.call25 rfl (ok_wherryref11_in (s.size : Int) 1 most _ hv1) rfl rfl),
     st_plain rfl (op_un _ _ _ _ rfl rfl),
     st_plain rfl (op_move _ _ _ _ (congrArg (fun b => AV.v (Value.bool b)) hg1_5) rfl),
     st_skip 5 12 _ false rfl rfl rfl rfl (List.Mem.head _),
     st_skip 5 12 _ false rfl rfl rfl rfl (List.Mem.head _),
     st_skip 5 12 _ false rfl rfl rfl rfl (List.Mem.head _),
     st_skip 5 12 _ false rfl rfl rfl rfl (List.Mem.head _),
     st_skipU 9 16 _ true rfl rfl rfl rfl (List.Mem.head _),
     st_skipU 9 16 _ true rfl rfl rfl rfl (List.Mem.head _),
     st_skipU 9 16 _ true rfl rfl rfl rfl (List.Mem.head _),
     st_skip 5 12 _ false rfl rfl rfl rfl (List.Mem.head _),
     st_plain rfl (op_pick _ _ true _ rfl rfl),
     trivial⟩ ?_
    exact hl5 _ (Option.some.inj h).symm
   ·refine cond_some h (fun hg1_9 h => ?_) (fun hg1_9 h => ?_)
    ·obtain ⟨v2, hv2, h⟩ := bind_some h
     refine ht_seqR hn (El := (_ :: _ :: (7, .v (.string s)) :: (8, .v (.int .i64 (s.size : Int))) :: (9, .v (.int .i64 most)) :: (10, .v (.bool v1)) :: (11, .v (.bool (!v1))) :: (12, .v (.bool false)) :: (13, .v (.string s)) :: (14, .v (.int .i64 (s.size : Int))) :: (15, .v (.bool ((decide (1 < (s.size : Int)))))) :: (16, .v (.bool true)) :: (17, .v (.string s)) :: (18, .v (.int .u8 v2)) :: (19, .v (.bool (v2 == 48))) :: (20, .v (.bool (v2 == 48))) :: (21, .v (.bool (v2 == 48))) :: [])) (init := [0, 1]) (fin := [0, 16]) (sps := (⟨[0], [], [2], [(.slot 7)]⟩ :: ⟨[2], [], [3], [(.slot 8)]⟩ :: ⟨[1], [], [4], [(.slot 9)]⟩ :: ⟨[3, 4], [], [5], [(.slot 10)]⟩ :: ⟨[5], [], [6], [(.slot 11)]⟩ :: ⟨[6], [], [7], [(.slot 12)]⟩ :: ⟨[7, 0], [], [8], [(.slot 13)]⟩ :: ⟨[7, 8], [], [9], [(.slot 14)]⟩ :: ⟨[7, 9], [], [10], [(.slot 15)]⟩ :: ⟨[7, 10], [], [11], [(.slot 16)]⟩ :: ⟨[11, 0], [], [12], [(.slot 17)]⟩ :: ⟨[11, 12], [], [13], [(.slot 18)]⟩ :: ⟨[11, 13], [], [14], [(.slot 19)]⟩ :: ⟨[7, 11, 14], [], [15], [(.slot 20)]⟩ :: ⟨[7, 15], [], [16], [(.slot 21)]⟩ :: [])) (es' := [(_, _), (21, .v (.bool (v2 == 48)))]) (by kernel_rfl) rfl rfl
      ⟨st_plain rfl (op_move _ _ _ _ rfl rfl),
      st_plain rfl (op_len_str _ _ _ Try.underlying9 rfl),
      st_plain rfl (op_move _ _ _ _ rfl rfl),
      st_plain rfl (op_call _ _ 25 _ _ rfl Try.call25 rfl (ok_wherryref11_in (s.size : Int) 1 most _ hv1) rfl rfl),
      st_plain rfl (op_un _ _ _ _ rfl rfl),
      st_plain rfl (op_move _ _ _ _ (congrArg (fun b => AV.v (Value.bool b)) hg1_5) rfl),
      st_run 5 12 false rfl rfl rfl (List.Mem.head _) (op_move _ _ _ _ rfl rfl),
      st_run 5 12 false rfl rfl rfl (List.Mem.head _) (op_len_str _ _ _ Try.underlying9 rfl),
      st_run 5 12 false rfl rfl rfl (List.Mem.head _) (op_bin _ _ _ _ _ rfl rfl rfl),
      st_run 5 12 false rfl rfl rfl (List.Mem.head _) (op_move _ _ _ _ (congrArg (fun b => AV.v (Value.bool b)) hg1_9) rfl),
      st_run 9 16 true rfl rfl rfl (List.Mem.head _) (op_move _ _ _ _ rfl rfl),
      st_run 9 16 true rfl rfl rfl (List.Mem.head _) (op_chr _ _ _ 0 _ Try.underlying9 rfl rfl hv2),
      st_run 9 16 true rfl rfl rfl (List.Mem.head _) (op_bin _ _ _ _ _ rfl rfl rfl),
      st_run 5 12 false rfl rfl rfl (List.Mem.head _) (op_pick _ _ true _ rfl rfl),
      st_plain rfl (op_pick _ _ false _ rfl rfl),
      trivial⟩ ?_
     exact hl5 _ (Option.some.inj h).symm
    ·refine ht_seqR hn (El := (_ :: _ :: (7, .v (.string s)) :: (8, .v (.int .i64 (s.size : Int))) :: (9, .v (.int .i64 most)) :: (10, .v (.bool v1)) :: (11, .v (.bool (!v1))) :: (12, .v (.bool false)) :: (13, .v (.string s)) :: (14, .v (.int .i64 (s.size : Int))) :: (15, .v (.bool ((decide (1 < (s.size : Int)))))) :: (16, .v (.bool false)) :: (17, .v undef) :: (18, .v undef) :: (19, .v undef) :: (20, .v (.bool false)) :: (21, .v (.bool false)) :: [])) (init := [0, 1]) (fin := [0, 16]) (sps := (⟨[0], [], [2], [(.slot 7)]⟩ :: ⟨[2], [], [3], [(.slot 8)]⟩ :: ⟨[1], [], [4], [(.slot 9)]⟩ :: ⟨[3, 4], [], [5], [(.slot 10)]⟩ :: ⟨[5], [], [6], [(.slot 11)]⟩ :: ⟨[6], [], [7], [(.slot 12)]⟩ :: ⟨[7, 0], [], [8], [(.slot 13)]⟩ :: ⟨[7, 8], [], [9], [(.slot 14)]⟩ :: ⟨[7, 9], [], [10], [(.slot 15)]⟩ :: ⟨[7, 10], [], [11], [(.slot 16)]⟩ :: ⟨[11], [], [12], [(.slot 17)]⟩ :: ⟨[11], [], [13], [(.slot 18)]⟩ :: ⟨[11], [], [14], [(.slot 19)]⟩ :: ⟨[7, 11], [], [15], [(.slot 20)]⟩ :: ⟨[7, 15], [], [16], [(.slot 21)]⟩ :: [])) (es' := [(_, _), (21, .v (.bool false))]) (by kernel_rfl) rfl rfl
      ⟨st_plain rfl (op_move _ _ _ _ rfl rfl),
      st_plain rfl (op_len_str _ _ _ Try.underlying9 rfl),
      st_plain rfl (op_move _ _ _ _ rfl rfl),
      st_plain rfl (op_call _ _ 25 _ _ rfl Try.call25 rfl (ok_wherryref11_in (s.size : Int) 1 most _ hv1) rfl rfl),
      st_plain rfl (op_un _ _ _ _ rfl rfl),
      st_plain rfl (op_move _ _ _ _ (congrArg (fun b => AV.v (Value.bool b)) hg1_5) rfl),
      st_run 5 12 false rfl rfl rfl (List.Mem.head _) (op_move _ _ _ _ rfl rfl),
      st_run 5 12 false rfl rfl rfl (List.Mem.head _) (op_len_str _ _ _ Try.underlying9 rfl),
      st_run 5 12 false rfl rfl rfl (List.Mem.head _) (op_bin _ _ _ _ _ rfl rfl rfl),
      st_run 5 12 false rfl rfl rfl (List.Mem.head _) (op_move _ _ _ _ (congrArg (fun b => AV.v (Value.bool b)) hg1_9) rfl),
      st_skip 9 16 _ true rfl rfl rfl rfl (List.Mem.head _),
      st_skip 9 16 _ true rfl rfl rfl rfl (List.Mem.head _),
      st_skip 9 16 _ true rfl rfl rfl rfl (List.Mem.head _),
      st_run 5 12 false rfl rfl rfl (List.Mem.head _) (op_pick _ _ false _ rfl rfl),
      st_plain rfl (op_pick _ _ false _ rfl rfl),
      trivial⟩ ?_
     exact hl5 _ (Option.some.inj h).symm

set_option maxHeartbeats 1000000 in
theorem ok_wherryref11_Reply (p_r : T_Reply) (r : Bool) (h : Sh.wherryref11_Reply p_r = some r) : FnOK Try.prog 13 [.agg [.v (.int .i64 p_r.Code), .fl .shr 1 (List.map Value.string p_r.Lines)]] (.v (.bool r)) := by
  unfold Sh.wherryref11_Reply at h
  refine fn_ok Try.func13 rfl (Nat.le_of_ble_eq_true rfl) rfl rfl fun g0 hn hio => ?_
  refine ht_seq ?_
  refine ht_seqR hn (El := [_, (1, .box 24 [.v (.int .i64 p_r.Code), .fl .shr 1 (List.map Value.string p_r.Lines)]), (2, .v (.bool false))]) (init := [0]) (fin := [1]) (sps := [⟨[0], [], [1], [(.slot 1)]⟩, ⟨[], [], [2], [(.slot 2)]⟩]) (es' := [(1, .box 24 [.v (.int .i64 p_r.Code), .fl .shr 1 (List.map Value.string p_r.Lines)])]) (by kernel_rfl) rfl rfl
   ⟨st_plain rfl (op_box _ _ _ _ rfl rfl rfl),
   st_plain rfl (op_assign _ _ _ _ rfl rfl),
   trivial⟩ ?_
  refine pt_then ?_
  refine ht_seq ?_
  refine ht_seq ?_
  refine ht_joinS h (fun (s5 : Bool) => [(1, .box 24 [.v (.int .i64 p_r.Code), .fl .shr 1 (List.map Value.string p_r.Lines)]), (22, .v (.bool s5))]) ?_ ?_
  ·rintro s5 h
   refine pt_then ?_
   refine ht_cond _ rfl (fun hb9 => ?_) (fun hb9 => ?_)
   ·have h := cond_t hb9 h
    refine ht_seq ?_
    refine ht_seqR hn (El := [_, _, (2, .v (.bool false))]) (init := [0, 1]) (fin := [2]) (sps := [⟨[], [], [2], [(.slot 2)]⟩]) (es' := [(2, .v (.bool false))]) (by kernel_rfl) rfl rfl
     ⟨st_plain rfl (op_assign _ _ _ _ rfl rfl),
     trivial⟩ ?_
    refine pt_then ?_
    refine ht_ret ?_
    refine pt_r_then ?_
    obtain rfl := Option.some.inj h
    exact pt_ret hio rfl (.tmp _ _ .nil) rfl rfl
   ·have h := cond_f hb9 h
    refine ht_skip ?_
    refine pt_then ?_
    refine ht_seq ?_
    refine ht_seq ?_
    refine ht_seqR hn (El := [_, _, (3, .v (.int .i64 0))]) (init := [0, 1]) (fin := [0, 2]) (sps := [⟨[], [], [2], [(.slot 3)]⟩]) (es' := [(_, _), (3, .v (.int .i64 0))]) (by kernel_rfl) rfl rfl
     ⟨st_plain rfl (op_assign _ _ _ _ rfl rfl),
     trivial⟩ ?_
    refine pt_then ?_
    refine ht_loopS h (fun (s91 : Int) => [(1, .box 24 [.v (.int .i64 p_r.Code), .fl .shr 1 (List.map Value.string p_r.Lines)]), (3, .v (.int .i64 s91))]) (fun (() : Unit) => []) ?_ ?_
    ·rintro ⟨⟩ h
     refine pt_then ?_
     refine ht_seq ?_
     refine ht_seqR hn (El := [(2, .v (.bool true))]) (init := []) (fin := [0]) (sps := [⟨[], [], [0], [(.slot 2)]⟩]) (es' := [(2, .v (.bool true))]) (by kernel_rfl) rfl rfl
      ⟨st_plain rfl (op_assign _ _ _ _ rfl rfl),
      trivial⟩ ?_
     refine pt_then ?_
     refine ht_ret ?_
     obtain rfl := Option.some.inj h
     exact pt_ret hio rfl (.tmp _ _ .nil) rfl rfl
    ·rintro u126 hl127 hr128 s91 rr131 h ho129
     refine ht_seq ?_
     refine ht_seq ?_
     refine ht_seqR hn (El := [_, _, (23, .v (.int .i64 s91)), (24, .ptr 1 1), (25, .fl .shr 1 (List.map Value.string p_r.Lines)), (26, .v (.int .i64 (p_r.Lines.length : Int))), (27, .v (.bool ((decide (s91 < (p_r.Lines.length : Int))))))]) (init := [0, 1]) (fin := [0, 1, 6]) (sps := [⟨[1], [], [2], [(.slot 23)]⟩, ⟨[0], [], [3], [(.slot 24)]⟩, ⟨[3, 0], [], [4], [(.slot 25)]⟩, ⟨[4], [], [5], [(.slot 26)]⟩, ⟨[2, 5], [], [6], [(.slot 27)]⟩]) (es' := [(_, _), (_, _), (27, .v (.bool ((decide (s91 < (p_r.Lines.length : Int))))))]) (by kernel_rfl) rfl rfl
      ⟨st_plain rfl (op_move _ _ _ _ rfl rfl),
      st_plain rfl (op_fieldAddr _ _ _ _ 1 0 _ Try.underlying24 rfl sz22 rfl rfl (by decide)),
      st_plain rfl (op_load _ _ _ _ _ _ Try.underlying22 rfl rfl rfl (Nat.le_of_ble_eq_true rfl) rfl rfl rfl),
      st_plain rfl (op_len_fl _ _ _ Try.underlying22 rfl (by decide) (map_len _)),
      st_plain rfl (op_bin _ _ _ _ _ rfl rfl rfl),
      trivial⟩ ?_
     refine pt_then ?_
     refine ht_cond _ rfl (fun hb132 => ?_) (fun hb132 => ?_)
     ·have h := cond_t hb132 h
      refine ht_skip ?_
      refine pt_then ?_
      refine ht_seq ?_
      refine ht_block ?_
      refine ht_seq ?_
      refine ht_seq ?_
      obtain ⟨v11, hv11, h⟩ := bind_some h
      obtain ⟨v12, hv12, h⟩ := bind_some h
      refine ht_seqR hn (El := [_, _, _, (30, .ptr 1 1), (31, .fl .shr 1 (List.map Value.string p_r.Lines)), (32, .v (.int .i64 s91)), (33, .eref (.slot 31) (v11 * 1)), (34, .v (.string v12)), (35, .v (.int .i64 (v12.size : Int))), (36, .v (.bool ((decide (200 < (v12.size : Int))))))]) (init := [0, 1, 2]) (fin := [0, 1, 9]) (sps := [⟨[0], [], [3], [(.slot 30)]⟩, ⟨[3, 0], [], [4], [(.slot 31)]⟩, ⟨[1], [], [5], [(.slot 32)]⟩, ⟨[4, 5], [], [6], [(.slot 33)]⟩, ⟨[6, 4], [], [7], [(.slot 34)]⟩, ⟨[7], [], [8], [(.slot 35)]⟩, ⟨[8], [], [9], [(.slot 36)]⟩]) (es' := [(_, _), (_, _), (36, .v (.bool ((decide (200 < (v12.size : Int))))))]) (by kernel_rfl) rfl rfl
       ⟨st_plain rfl (op_fieldAddr _ _ _ _ 1 0 _ Try.underlying24 rfl sz22 rfl rfl (by decide)),
       st_plain rfl (op_load _ _ _ _ _ _ Try.underlying22 rfl rfl rfl (Nat.le_of_ble_eq_true rfl) rfl rfl rfl),
       st_plain rfl (op_move _ _ _ _ rfl rfl),
       st_plain rfl (op_ix _ _ _ _ _ _ _ _ Try.underlying22 sz9 (by decide) rfl rfl rfl (ix_ok hv11).1 (map_lt (ix_ok hv11).2) rfl),
       st_plain rfl (op_load_e _ _ _ _ _ _ Try.underlying9 rfl rfl rfl (map_get hv12)),
       st_plain rfl (op_len_str _ _ _ Try.underlying9 rfl),
       st_plain rfl (op_bin _ _ _ _ _ rfl rfl rfl),
       trivial⟩ ?_
      refine pt_then ?_
      refine ht_cond _ rfl (fun hb133 => ?_) (fun hb133 => ?_)
      ·have h := cond_t hb133 h
       refine ht_seq ?_
       refine ht_seqR hn (El := [_, _, _, (2, .v (.bool false))]) (init := [0, 1, 2]) (fin := [3]) (sps := [⟨[], [], [3], [(.slot 2)]⟩]) (es' := [(2, .v (.bool false))]) (by kernel_rfl) rfl rfl
        ⟨st_plain rfl (op_assign _ _ _ _ rfl rfl),
        trivial⟩ ?_
       refine pt_then ?_
       refine ht_ret ?_
       refine pt_r_then ?_
       refine pt_r_in ?_
       refine pt_r_then ?_
       refine pt_r_then ?_
       refine pt_r_in ?_
       refine pt_r_then ?_
       have h := hr128 _ (ho129 _ (Option.some.inj h).symm).symm
       obtain rfl := Option.some.inj h
       exact pt_ret hio rfl (.tmp _ _ .nil) rfl rfl
      ·have h := cond_f hb133 h
       refine ht_skip ?_
       refine pt_then ?_
       refine ht_seq ?_
       refine ht_seqR hn (El := [_, _, _, (4, .v (.int .i64 0))]) (init := [0, 1, 2]) (fin := [0, 1, 3]) (sps := [⟨[], [], [3], [(.slot 4)]⟩]) (es' := [(_, _), (_, _), (4, .v (.int .i64 0))]) (by kernel_rfl) rfl rfl
        ⟨st_plain rfl (op_assign _ _ _ _ rfl rfl),
        trivial⟩ ?_
       refine pt_then ?_
       refine ht_loopS h (fun (s147 : Int) => [(1, .box 24 [.v (.int .i64 p_r.Code), .fl .shr 1 (List.map Value.string p_r.Lines)]), (3, .v (.int .i64 s91)), (4, .v (.int .i64 s147))]) (fun (() : Unit) => [(1, .box 24 [.v (.int .i64 p_r.Code), .fl .shr 1 (List.map Value.string p_r.Lines)]), (3, .v (.int .i64 s91))]) ?_ ?_
       ·rintro ⟨⟩ h
        refine pt_inb ?_
        refine pt_then ?_
        obtain ⟨v55, hv55, h⟩ := bind_some h
        refine ht_seqR hn (El := [_, _, (28, .v (.int .i64 s91)), (29, .v (.int .i64 v55)), (3, .v (.int .i64 v55))]) (init := [0, 1]) (fin := [0, 4]) (sps := [⟨[1], [], [2], [(.slot 28)]⟩, ⟨[2], [], [3], [(.slot 29)]⟩, ⟨[3], [1], [4], [(.slot 3)]⟩]) (es' := [(_, _), (3, .v (.int .i64 v55))]) (by kernel_rfl) rfl rfl
         ⟨st_plain rfl (op_move _ _ _ _ rfl rfl),
         st_plain rfl (op_bin _ _ _ _ _ rfl rfl (ibind (f := Value.int .i64) (Option.some.inj hv55))),
         st_plain rfl (LOp.drop [_] (op_assign _ _ _ _ rfl rfl)),
         trivial⟩ ?_
        exact pt_next _ (Option.some.inj h).symm rfl
       ·rintro u154 hl155 hr156 s147 rr159 h ho157
        refine ht_seq ?_
        refine ht_seq ?_
        obtain ⟨v14, hv14, h⟩ := bind_some h
        obtain ⟨v15, hv15, h⟩ := bind_some h
        refine ht_seqR hn (El := [_, _, _, (37, .v (.int .i64 s147)), (38, .ptr 1 1), (39, .fl .shr 1 (List.map Value.string p_r.Lines)), (40, .v (.int .i64 s91)), (41, .eref (.slot 39) (v14 * 1)), (42, .v (.string v15)), (43, .v (.int .i64 (v15.size : Int))), (44, .v (.bool ((decide (s147 < (v15.size : Int))))))]) (init := [0, 1, 2]) (fin := [0, 1, 2, 10]) (sps := [⟨[2], [], [3], [(.slot 37)]⟩, ⟨[0], [], [4], [(.slot 38)]⟩, ⟨[4, 0], [], [5], [(.slot 39)]⟩, ⟨[1], [], [6], [(.slot 40)]⟩, ⟨[5, 6], [], [7], [(.slot 41)]⟩, ⟨[7, 5], [], [8], [(.slot 42)]⟩, ⟨[8], [], [9], [(.slot 43)]⟩, ⟨[3, 9], [], [10], [(.slot 44)]⟩]) (es' := [(_, _), (_, _), (_, _), (44, .v (.bool ((decide (s147 < (v15.size : Int))))))]) (by kernel_rfl) rfl rfl
         ⟨st_plain rfl (op_move _ _ _ _ rfl rfl),
         st_plain rfl (op_fieldAddr _ _ _ _ 1 0 _ Try.underlying24 rfl sz22 rfl rfl (by decide)),
         st_plain rfl (op_load _ _ _ _ _ _ Try.underlying22 rfl rfl rfl (Nat.le_of_ble_eq_true rfl) rfl rfl rfl),
         st_plain rfl (op_move _ _ _ _ rfl rfl),
         st_plain rfl (op_ix _ _ _ _ _ _ _ _ Try.underlying22 sz9 (by decide) rfl rfl rfl (ix_ok hv14).1 (map_lt (ix_ok hv14).2) rfl),
         st_plain rfl (op_load_e _ _ _ _ _ _ Try.underlying9 rfl rfl rfl (map_get hv15)),
         st_plain rfl (op_len_str _ _ _ Try.underlying9 rfl),
         st_plain rfl (op_bin _ _ _ _ _ rfl rfl rfl),
         trivial⟩ ?_
        refine pt_then ?_
        refine ht_cond _ rfl (fun hb160 => ?_) (fun hb160 => ?_)
        ·have h := cond_t hb160 h
         refine ht_skip ?_
         refine pt_then ?_
         refine ht_seq ?_
         refine ht_block ?_
         refine ht_seq ?_
         refine ht_joinS h (fun (s161 : Bool) => [(1, .box 24 [.v (.int .i64 p_r.Code), .fl .shr 1 (List.map Value.string p_r.Lines)]), (3, .v (.int .i64 s91)), (4, .v (.int .i64 s147)), (64, .v (.bool s161))]) ?_ ?_
         ·rintro s161 h
          refine pt_then ?_
          refine ht_cond _ rfl (fun hb165 => ?_) (fun hb165 => ?_)
          ·have h := cond_t hb165 h
           refine ht_seq ?_
           refine ht_seqR hn (El := [_, _, _, _, (2, .v (.bool false))]) (init := [0, 1, 2, 3]) (fin := [4]) (sps := [⟨[], [], [4], [(.slot 2)]⟩]) (es' := [(2, .v (.bool false))]) (by kernel_rfl) rfl rfl
            ⟨st_plain rfl (op_assign _ _ _ _ rfl rfl),
            trivial⟩ ?_
           refine pt_then ?_
           refine ht_ret ?_
           refine pt_r_in ?_
           refine pt_r_then ?_
           refine pt_r_then ?_
           refine pt_r_in ?_
           refine pt_r_in ?_
           refine pt_r_then ?_
           refine pt_r_then ?_
           refine pt_r_in ?_
           refine pt_r_then ?_
           have h := hr156 _ (ho157 _ (Option.some.inj h).symm).symm
           have h := hr128 _ (ho129 _ (Option.some.inj h).symm).symm
           obtain rfl := Option.some.inj h
           exact pt_ret hio rfl (.tmp _ _ .nil) rfl rfl
          ·have h := cond_f hb165 h
           refine ht_skip ?_
           refine pt_inb ?_
           refine pt_then ?_
           obtain ⟨v28, hv28, h⟩ := bind_some h
           refine ht_seqR hn (El := [_, _, _, _, (45, .v (.int .i64 s147)), (46, .v (.int .i64 v28)), (4, .v (.int .i64 v28))]) (init := [0, 1, 2, 3]) (fin := [0, 1, 6]) (sps := [⟨[2], [], [4], [(.slot 45)]⟩, ⟨[4], [], [5], [(.slot 46)]⟩, ⟨[5], [2], [6], [(.slot 4)]⟩]) (es' := [(_, _), (_, _), (4, .v (.int .i64 v28))]) (by kernel_rfl) rfl rfl
            ⟨st_plain rfl (op_move _ _ _ _ rfl rfl),
            st_plain rfl (op_bin _ _ _ _ _ rfl rfl (ibind (f := Value.int .i64) (Option.some.inj hv28))),
            st_plain rfl (LOp.drop [_] (op_assign _ _ _ _ rfl rfl)),
            trivial⟩ ?_
           exact pt_next _ (Option.some.inj h).symm rfl
         ·intro u162 h hl163 hr164
          obtain ⟨v17, hv17, h⟩ := bind_some h
          obtain ⟨v18, hv18, h⟩ := bind_some h
          obtain ⟨v19, hv19, h⟩ := bind_some h
          refine cond_some h (fun hg11_8 h => ?_) (fun hg11_8 h => ?_)
          ·refine ht_seqR hn (El := (_ :: _ :: _ :: _ :: (47, .ptr 1 1) :: (48, .fl .shr 1 (List.map Value.string p_r.Lines)) :: (49, .v (.int .i64 s91)) :: (50, .eref (.slot 48) (v17 * 1)) :: (51, .v (.string v18)) :: (52, .v (.int .i64 s147)) :: (53, .v (.int .u8 v19)) :: (54, .v (.bool ((decide (v19 < 32))))) :: (55, .v (.bool true)) :: (56, .v undef) :: (57, .v undef) :: (58, .v undef) :: (59, .v undef) :: (60, .v undef) :: (61, .v undef) :: (62, .v undef) :: (63, .v undef) :: (64, .v (.bool true)) :: [])) (init := [0, 1, 2, 3]) (fin := [0, 1, 2, 21]) (sps := (⟨[0], [], [4], [(.slot 47)]⟩ :: ⟨[4, 0], [], [5], [(.slot 48)]⟩ :: ⟨[1], [], [6], [(.slot 49)]⟩ :: ⟨[5, 6], [], [7], [(.slot 50)]⟩ :: ⟨[7, 5], [], [8], [(.slot 51)]⟩ :: ⟨[2], [], [9], [(.slot 52)]⟩ :: ⟨[8, 9], [], [10], [(.slot 53)]⟩ :: ⟨[10], [], [11], [(.slot 54)]⟩ :: ⟨[11], [], [12], [(.slot 55)]⟩ :: ⟨[12], [], [13], [(.slot 56)]⟩ :: ⟨[12], [], [14], [(.slot 57)]⟩ :: ⟨[12], [], [15], [(.slot 58)]⟩ :: ⟨[12], [], [16], [(.slot 59)]⟩ :: ⟨[12], [], [17], [(.slot 60)]⟩ :: ⟨[12], [], [18], [(.slot 61)]⟩ :: ⟨[12], [], [19], [(.slot 62)]⟩ :: ⟨[12], [], [20], [(.slot 63)]⟩ :: ⟨[12], [], [21], [(.slot 64)]⟩ :: [])) (es' := [(_, _), (_, _), (_, _), (64, .v (.bool true))]) (by kernel_rfl) rfl rfl
            ⟨st_plain rfl (op_fieldAddr _ _ _ _ 1 0 _ Try.underlying24 rfl sz22 rfl rfl (by decide)),
            st_plain rfl (op_load _ _ _ _ _ _ Try.underlying22 rfl rfl rfl (Nat.le_of_ble_eq_true rfl) rfl rfl rfl),
            st_plain rfl (op_move _ _ _ _ rfl rfl),
            st_plain rfl (op_ix _ _ _ _ _ _ _ _ Try.underlying22 sz9 (by decide) rfl rfl rfl (ix_ok hv17).1 (map_lt (ix_ok hv17).2) rfl),
            st_plain rfl (op_load_e _ _ _ _ _ _ Try.underlying9 rfl rfl rfl (map_get hv18)),
            st_plain rfl (op_move _ _ _ _ rfl rfl),
            st_plain rfl (op_chr _ _ _ s147 _ Try.underlying9 rfl rfl hv19),
            st_plain rfl (op_bin _ _ _ _ _ rfl rfl rfl),
            st_plain rfl (op_move _ _ _ _ (congrArg (fun b => AV.v (Value.bool b)) hg11_8) rfl),
            st_skip 8 55 _ false rfl rfl rfl rfl (List.Mem.head _),
            st_skip 8 55 _ false rfl rfl rfl rfl (List.Mem.head _),
            st_skip 8 55 _ false rfl rfl rfl rfl (List.Mem.head _),
            st_skip 8 55 _ false rfl rfl rfl rfl (List.Mem.head _),
            st_skip 8 55 _ false rfl rfl rfl rfl (List.Mem.head _),
            st_skip 8 55 _ false rfl rfl rfl rfl (List.Mem.head _),
            st_skip 8 55 _ false rfl rfl rfl rfl (List.Mem.head _),
            st_skip 8 55 _ false rfl rfl rfl rfl (List.Mem.head _),
            st_plain rfl (op_pick _ _ true _ rfl rfl),
            trivial⟩ ?_
           exact hl163 _ (Option.some.inj h).symm
          ·obtain ⟨v20, hv20, h⟩ := bind_some h
           obtain ⟨v21, hv21, h⟩ := bind_some h
           obtain ⟨v22, hv22, h⟩ := bind_some h
           refine ht_seqR hn (El := (_ :: _ :: _ :: _ :: (47, .ptr 1 1) :: (48, .fl .shr 1 (List.map Value.string p_r.Lines)) :: (49, .v (.int .i64 s91)) :: (50, .eref (.slot 48) (v17 * 1)) :: (51, .v (.string v18)) :: (52, .v (.int .i64 s147)) :: (53, .v (.int .u8 v19)) :: (54, .v (.bool ((decide (v19 < 32))))) :: (55, .v (.bool false)) :: (56, .ptr 1 1) :: (57, .fl .shr 1 (List.map Value.string p_r.Lines)) :: (58, .v (.int .i64 s91)) :: (59, .eref (.slot 57) (v20 * 1)) :: (60, .v (.string v21)) :: (61, .v (.int .i64 s147)) :: (62, .v (.int .u8 v22)) :: (63, .v (.bool ((decide (126 < v22))))) :: (64, .v (.bool ((decide (126 < v22))))) :: [])) (init := [0, 1, 2, 3]) (fin := [0, 1, 2, 21]) (sps := (⟨[0], [], [4], [(.slot 47)]⟩ :: ⟨[4, 0], [], [5], [(.slot 48)]⟩ :: ⟨[1], [], [6], [(.slot 49)]⟩ :: ⟨[5, 6], [], [7], [(.slot 50)]⟩ :: ⟨[7, 5], [], [8], [(.slot 51)]⟩ :: ⟨[2], [], [9], [(.slot 52)]⟩ :: ⟨[8, 9], [], [10], [(.slot 53)]⟩ :: ⟨[10], [], [11], [(.slot 54)]⟩ :: ⟨[11], [], [12], [(.slot 55)]⟩ :: ⟨[12, 0], [], [13], [(.slot 56)]⟩ :: ⟨[12, 13, 0], [], [14], [(.slot 57)]⟩ :: ⟨[12, 1], [], [15], [(.slot 58)]⟩ :: ⟨[12, 14, 15], [], [16], [(.slot 59)]⟩ :: ⟨[12, 16, 14], [], [17], [(.slot 60)]⟩ :: ⟨[12, 2], [], [18], [(.slot 61)]⟩ :: ⟨[12, 17, 18], [], [19], [(.slot 62)]⟩ :: ⟨[12, 19], [], [20], [(.slot 63)]⟩ :: ⟨[12, 20], [], [21], [(.slot 64)]⟩ :: [])) (es' := [(_, _), (_, _), (_, _), (64, .v (.bool ((decide (126 < v22)))))]) (by kernel_rfl) rfl rfl
            ⟨st_plain rfl (op_fieldAddr _ _ _ _ 1 0 _ Try.underlying24 rfl sz22 rfl rfl (by decide)),
            st_plain rfl (op_load _ _ _ _ _ _ Try.underlying22 rfl rfl rfl (Nat.le_of_ble_eq_true rfl) rfl rfl rfl),
            st_plain rfl (op_move _ _ _ _ rfl rfl),
            st_plain rfl (op_ix _ _ _ _ _ _ _ _ Try.underlying22 sz9 (by decide) rfl rfl rfl (ix_ok hv17).1 (map_lt (ix_ok hv17).2) rfl),
            st_plain rfl (op_load_e _ _ _ _ _ _ Try.underlying9 rfl rfl rfl (map_get hv18)),
            st_plain rfl (op_move _ _ _ _ rfl rfl),
            st_plain rfl (op_chr _ _ _ s147 _ Try.underlying9 rfl rfl hv19),
            st_plain rfl (op_bin _ _ _ _ _ rfl rfl rfl),
            st_plain rfl (op_move _ _ _ _ (congrArg (fun b => AV.v (Value.bool b)) hg11_8) rfl),
            st_run 8 55 false rfl rfl rfl (List.Mem.head _) (op_fieldAddr _ _ _ _ 1 0 _ Try.underlying24 rfl sz22 rfl rfl (by decide)),
            st_run 8 55 false rfl rfl rfl (List.Mem.head _) (op_load _ _ _ _ _ _ Try.underlying22 rfl rfl rfl (Nat.le_of_ble_eq_true rfl) rfl rfl rfl),
            st_run 8 55 false rfl rfl rfl (List.Mem.head _) (op_move _ _ _ _ rfl rfl),
            st_run 8 55 false rfl rfl rfl (List.Mem.head _) (op_ix _ _ _ _ _ _ _ _ Try.underlying22 sz9 (by decide) rfl rfl rfl (ix_ok hv20).1 (map_lt (ix_ok hv20).2) rfl),
            st_run 8 55 false rfl rfl rfl (List.Mem.head _) (op_load_e _ _ _ _ _ _ Try.underlying9 rfl rfl rfl (map_get hv21)),
            st_run 8 55 false rfl rfl rfl (List.Mem.head _) (op_move _ _ _ _ rfl rfl),
            st_run 8 55 false rfl rfl rfl (List.Mem.head _) (op_chr _ _ _ s147 _ Try.underlying9 rfl rfl hv22),
            st_run 8 55 false rfl rfl rfl (List.Mem.head _) (op_bin _ _ _ _ _ rfl rfl rfl),
            st_plain rfl (op_pick _ _ false _ rfl rfl),
            trivial⟩ ?_
           exact hl163 _ (Option.some.inj h).symm
        ·have h := cond_f hb160 h
         refine ht_exit ?_
         refine pt_x_then ?_
         refine pt_x_then ?_
         refine pt_x_in ?_
         refine pt_pick [0, 1] (by kernel_rfl) (es' := [(_, _), (_, _)]) rfl ?_
         exact hl155 _ (ho157 _ (Option.some.inj h).symm).symm
     ·have h := cond_f hb132 h
      refine ht_exit ?_
      refine pt_x_then ?_
      refine pt_x_then ?_
      refine pt_x_in ?_
      refine pt_pick [] (by kernel_rfl) (es' := []) rfl ?_
      exact hl127 _ (ho129 _ (Option.some.inj h).symm).symm
  ·intro u6 h hl7 hr8
   obtain ⟨v1, hv1, h⟩ := bind_some h
   refine cond_some h (fun hg1_4 h => ?_) (fun hg1_4 h => ?_)
   ·refine ht_seqR hn (El := (_ :: (5, .ptr 1 0) :: (6, .v (.int .i64 p_r.Code)) :: (7, .v (.bool v1)) :: (8, .v (.bool (!v1))) :: (9, .v (.bool true)) :: (10, .v undef) :: (11, .v undef) :: (12, .v undef) :: (13, .v undef) :: (14, .v undef) :: (15, .v (.bool true)) :: (16, .v (.bool true)) :: (17, .v undef) :: (18, .v undef) :: (19, .v undef) :: (20, .v undef) :: (21, .v undef) :: (22, .v (.bool true)) :: [])) (init := [0]) (fin := [0, 18]) (sps := (⟨[0], [], [1], [(.slot 5)]⟩ :: ⟨[1, 0], [], [2], [(.slot 6)]⟩ :: ⟨[2], [], [3], [(.slot 7)]⟩ :: ⟨[3], [], [4], [(.slot 8)]⟩ :: ⟨[4], [], [5], [(.slot 9)]⟩ :: ⟨[5], [], [6], [(.slot 10)]⟩ :: ⟨[5], [], [7], [(.slot 11)]⟩ :: ⟨[5], [], [8], [(.slot 12)]⟩ :: ⟨[5], [], [9], [(.slot 13)]⟩ :: ⟨[5], [], [10], [(.slot 14)]⟩ :: ⟨[5], [], [11], [(.slot 15)]⟩ :: ⟨[11], [], [12], [(.slot 16)]⟩ :: ⟨[12], [], [13], [(.slot 17)]⟩ :: ⟨[12], [], [14], [(.slot 18)]⟩ :: ⟨[12], [], [15], [(.slot 19)]⟩ :: ⟨[12], [], [16], [(.slot 20)]⟩ :: ⟨[12], [], [17], [(.slot 21)]⟩ :: ⟨[12], [], [18], [(.slot 22)]⟩ :: [])) (es' := [(_, _), (22, .v (.bool true))]) (by kernel_rfl) rfl rfl
     ⟨st_plain rfl (op_fieldAddr _ _ _ _ 1 0 _ Try.underlying24 rfl sz3 rfl rfl (by decide)),
     st_plain rfl (op_load _ _ _ _ _ _ Try.underlying3 rfl rfl rfl (Nat.le_of_ble_eq_true rfl) rfl rfl rfl),
     st_plain rfl (op_call _ _ 25 _ _ rfl Try.call25 rfl (ok_wherryref11_in p_r.Code 200 559 _ hv1) rfl rfl),
     st_plain rfl (op_un _ _ _ _ rfl rfl),
     st_plain rfl (op_move _ _ _ _ (congrArg (fun b => AV.v (Value.bool b)) hg1_4) rfl),
     st_skip 4 9 _ false rfl rfl rfl rfl (List.Mem.head _),
     st_skip 4 9 _ false rfl rfl rfl rfl (List.Mem.head _),
     st_skip 4 9 _ false rfl rfl rfl rfl (List.Mem.head _),
     st_skip 4 9 _ false rfl rfl rfl rfl (List.Mem.head _),
     st_skip 4 9 _ false rfl rfl rfl rfl (List.Mem.head _),
     st_plain rfl (op_pick _ _ true _ rfl rfl),
     st_plain rfl (op_move _ _ _ _ rfl rfl),
     st_skip 11 16 _ false rfl rfl rfl rfl (List.Mem.head _),
     st_skip 11 16 _ false rfl rfl rfl rfl (List.Mem.head _),
     st_skip 11 16 _ false rfl rfl rfl rfl (List.Mem.head _),
     st_skip 11 16 _ false rfl rfl rfl rfl (List.Mem.head _),
     st_skip 11 16 _ false rfl rfl rfl rfl (List.Mem.head _),
     st_plain rfl (op_pick _ _ true _ rfl rfl),
     trivial⟩ ?_
    exact hl7 _ (Option.some.inj h).symm
   ·obtain ⟨v2, hv2, h⟩ := bind_some h
    obtain ⟨v3, hv3, h⟩ := bind_some h
    refine cond_some h (fun hg1_11 h => ?_) (fun hg1_11 h => ?_)
    ·refine ht_seqR hn (El := (_ :: (5, .ptr 1 0) :: (6, .v (.int .i64 p_r.Code)) :: (7, .v (.bool v1)) :: (8, .v (.bool (!v1))) :: (9, .v (.bool false)) :: (10, .ptr 1 0) :: (11, .v (.int .i64 p_r.Code)) :: (12, .v (.int .i64 v2)) :: (13, .v (.int .i64 v3)) :: (14, .v (.bool ((decide (5 < v3))))) :: (15, .v (.bool ((decide (5 < v3))))) :: (16, .v (.bool true)) :: (17, .v undef) :: (18, .v undef) :: (19, .v undef) :: (20, .v undef) :: (21, .v undef) :: (22, .v (.bool true)) :: [])) (init := [0]) (fin := [0, 18]) (sps := (⟨[0], [], [1], [(.slot 5)]⟩ :: ⟨[1, 0], [], [2], [(.slot 6)]⟩ :: ⟨[2], [], [3], [(.slot 7)]⟩ :: ⟨[3], [], [4], [(.slot 8)]⟩ :: ⟨[4], [], [5], [(.slot 9)]⟩ :: ⟨[5, 0], [], [6], [(.slot 10)]⟩ :: ⟨[5, 6, 0], [], [7], [(.slot 11)]⟩ :: ⟨[5, 7], [], [8], [(.slot 12)]⟩ :: ⟨[5, 8], [], [9], [(.slot 13)]⟩ :: ⟨[5, 9], [], [10], [(.slot 14)]⟩ :: ⟨[5, 10], [], [11], [(.slot 15)]⟩ :: ⟨[11], [], [12], [(.slot 16)]⟩ :: ⟨[12], [], [13], [(.slot 17)]⟩ :: ⟨[12], [], [14], [(.slot 18)]⟩ :: ⟨[12], [], [15], [(.slot 19)]⟩ :: ⟨[12], [], [16], [(.slot 20)]⟩ :: ⟨[12], [], [17], [(.slot 21)]⟩ :: ⟨[12], [], [18], [(.slot 22)]⟩ :: [])) (es' := [(_, _), (22, .v (.bool true))]) (by kernel_rfl) rfl rfl
      ⟨st_plain rfl (op_fieldAddr _ _ _ _ 1 0 _ Try.underlying24 rfl sz3 rfl rfl (by decide)),
      st_plain rfl (op_load _ _ _ _ _ _ Try.underlying3 rfl rfl rfl (Nat.le_of_ble_eq_true rfl) rfl rfl rfl),
      st_plain rfl (op_call _ _ 25 _ _ rfl Try.call25 rfl (ok_wherryref11_in p_r.Code 200 559 _ hv1) rfl rfl),
      st_plain rfl (op_un _ _ _ _ rfl rfl),
      st_plain rfl (op_move _ _ _ _ (congrArg (fun b => AV.v (Value.bool b)) hg1_4) rfl),
      st_run 4 9 false rfl rfl rfl (List.Mem.head _) (op_fieldAddr _ _ _ _ 1 0 _ Try.underlying24 rfl sz3 rfl rfl (by decide)),
      st_run 4 9 false rfl rfl rfl (List.Mem.head _) (op_load _ _ _ _ _ _ Try.underlying3 rfl rfl rfl (Nat.le_of_ble_eq_true rfl) rfl rfl rfl),
      st_run 4 9 false rfl rfl rfl (List.Mem.head _) (op_bin _ _ _ _ _ rfl rfl (quo_ok hv2)),
      st_run 4 9 false rfl rfl rfl (List.Mem.head _) (op_bin _ _ _ _ _ rfl rfl (rem_ok hv3)),
      st_run 4 9 false rfl rfl rfl (List.Mem.head _) (op_bin _ _ _ _ _ rfl rfl rfl),
      st_plain rfl (op_pick _ _ false _ rfl rfl),
      st_plain rfl (op_move _ _ _ _ (congrArg (fun b => AV.v (Value.bool b)) hg1_11) rfl),
      st_skip 11 16 _ false rfl rfl rfl rfl (List.Mem.head _),
      st_skip 11 16 _ false rfl rfl rfl rfl (List.Mem.head _),
      st_skip 11 16 _ false rfl rfl rfl rfl (List.Mem.head _),
      st_skip 11 16 _ false rfl rfl rfl rfl (List.Mem.head _),
      st_skip 11 16 _ false rfl rfl rfl rfl (List.Mem.head _),
      st_plain rfl (op_pick _ _ true _ rfl rfl),
      trivial⟩ ?_
     exact hl7 _ (Option.some.inj h).symm
    ·obtain ⟨v4, hv4, h⟩ := bind_some h
     refine ht_seqR hn (El := (_ :: (5, .ptr 1 0) :: (6, .v (.int .i64 p_r.Code)) :: (7, .v (.bool v1)) :: (8, .v (.bool (!v1))) :: (9, .v (.bool false)) :: (10, .ptr 1 0) :: (11, .v (.int .i64 p_r.Code)) :: (12, .v (.int .i64 v2)) :: (13, .v (.int .i64 v3)) :: (14, .v (.bool ((decide (5 < v3))))) :: (15, .v (.bool ((decide (5 < v3))))) :: (16, .v (.bool false)) :: (17, .ptr 1 1) :: (18, .fl .shr 1 (List.map Value.string p_r.Lines)) :: (19, .v (.int .i64 (p_r.Lines.length : Int))) :: (20, .v (.bool v4)) :: (21, .v (.bool (!v4))) :: (22, .v (.bool (!v4))) :: [])) (init := [0]) (fin := [0, 18]) (sps := (⟨[0], [], [1], [(.slot 5)]⟩ :: ⟨[1, 0], [], [2], [(.slot 6)]⟩ :: ⟨[2], [], [3], [(.slot 7)]⟩ :: ⟨[3], [], [4], [(.slot 8)]⟩ :: ⟨[4], [], [5], [(.slot 9)]⟩ :: ⟨[5, 0], [], [6], [(.slot 10)]⟩ :: ⟨[5, 6, 0], [], [7], [(.slot 11)]⟩ :: ⟨[5, 7], [], [8], [(.slot 12)]⟩ :: ⟨[5, 8], [], [9], [(.slot 13)]⟩ :: ⟨[5, 9], [], [10], [(.slot 14)]⟩ :: ⟨[5, 10], [], [11], [(.slot 15)]⟩ :: ⟨[11], [], [12], [(.slot 16)]⟩ :: ⟨[12, 0], [], [13], [(.slot 17)]⟩ :: ⟨[12, 13, 0], [], [14], [(.slot 18)]⟩ :: ⟨[12, 14], [], [15], [(.slot 19)]⟩ :: ⟨[12, 15], [], [16], [(.slot 20)]⟩ :: ⟨[12, 16], [], [17], [(.slot 21)]⟩ :: ⟨[12, 17], [], [18], [(.slot 22)]⟩ :: [])) (es' := [(_, _), (22, .v (.bool (!v4)))]) (by kernel_rfl) rfl rfl
      ⟨st_plain rfl (op_fieldAddr _ _ _ _ 1 0 _ Try.underlying24 rfl sz3 rfl rfl (by decide)),
      st_plain rfl (op_load _ _ _ _ _ _ Try.underlying3 rfl rfl rfl (Nat.le_of_ble_eq_true rfl) rfl rfl rfl),
      st_plain rfl (op_call _ _ 25 _ _ rfl Try.call25 rfl (ok_wherryref11_in p_r.Code 200 559 _ hv1) rfl rfl),
      st_plain rfl (op_un _ _ _ _ rfl rfl),
      st_plain rfl (op_move _ _ _ _ (congrArg (fun b => AV.v (Value.bool b)) hg1_4) rfl),
      st_run 4 9 false rfl rfl rfl (List.Mem.head _) (op_fieldAddr _ _ _ _ 1 0 _ Try.underlying24 rfl sz3 rfl rfl (by decide)),
      st_run 4 9 false rfl rfl rfl (List.Mem.head _) (op_load _ _ _ _ _ _ Try.underlying3 rfl rfl rfl (Nat.le_of_ble_eq_true rfl) rfl rfl rfl),
      st_run 4 9 false rfl rfl rfl (List.Mem.head _) (op_bin _ _ _ _ _ rfl rfl (quo_ok hv2)),
      st_run 4 9 false rfl rfl rfl (List.Mem.head _) (op_bin _ _ _ _ _ rfl rfl (rem_ok hv3)),
      st_run 4 9 false rfl rfl rfl (List.Mem.head _) (op_bin _ _ _ _ _ rfl rfl rfl),
      st_plain rfl (op_pick _ _ false _ rfl rfl),
      st_plain rfl (op_move _ _ _ _ (congrArg (fun b => AV.v (Value.bool b)) hg1_11) rfl),
      st_run 11 16 false rfl rfl rfl (List.Mem.head _) (op_fieldAddr _ _ _ _ 1 0 _ Try.underlying24 rfl sz22 rfl rfl (by decide)),
      st_run 11 16 false rfl rfl rfl (List.Mem.head _) (op_load _ _ _ _ _ _ Try.underlying22 rfl rfl rfl (Nat.le_of_ble_eq_true rfl) rfl rfl rfl),
      st_run 11 16 false rfl rfl rfl (List.Mem.head _) (op_len_fl _ _ _ Try.underlying22 rfl (by decide) (map_len _)),
      st_run 11 16 false rfl rfl rfl (List.Mem.head _) (op_call _ _ 25 _ _ rfl Try.call25 rfl (ok_wherryref11_in (p_r.Lines.length : Int) 1 20 _ hv4) rfl rfl),
      st_run 11 16 false rfl rfl rfl (List.Mem.head _) (op_un _ _ _ _ rfl rfl),
      st_plain rfl (op_pick _ _ false _ rfl rfl),
      trivial⟩ ?_
     exact hl7 _ (Option.some.inj h).symm

set_option maxHeartbeats 1000000 in
theorem ok_wherryref11_ReadReply (b : (List Int)) (r : (T_Reply × Int × Bool)) (h : Sh.wherryref11_ReadReply b = some r) : FnOK Try.prog 12 [.fl .shr 1 (List.map (Value.int .u8) b)] (.tup [.agg [.v (.int .i64 r.1.Code), .fl (.own 9) 1 (List.map Value.string r.1.Lines)], .v (.int .i64 r.2.1), .v (.bool r.2.2)]) := by
  unfold Sh.wherryref11_ReadReply at h
  refine fn_ok Try.func12 rfl (Nat.le_of_ble_eq_true rfl) rfl rfl fun g0 hn hio => ?_
  refine ht_seq ?_
  refine ht_seqR hn (El := [_, (2, .box 24 [.v (.int .i64 0), .v (.slice none 0 0)]), (3, .v (.int .i64 0)), (4, .v (.bool false))]) (init := [0]) (fin := [0, 1]) (sps := [⟨[], [], [1], [(.slot 2)]⟩, ⟨[], [], [2], [(.slot 3)]⟩, ⟨[], [], [3], [(.slot 4)]⟩]) (es' := [(_, _), (2, .box 24 [.v (.int .i64 0), .v (.slice none 0 0)])]) (by kernel_rfl) rfl rfl
   ⟨st_plain rfl (op_alloc _ _ zr24),
   st_plain rfl (op_assign _ _ _ _ rfl rfl),
   st_plain rfl (op_assign _ _ _ _ rfl rfl),
   trivial⟩ ?_
  refine pt_then ?_
  refine ht_seq ?_
  refine ht_seqR hn (El := [_, _, (5, .box 24 [.v (.int .i64 0), .v (.slice none 0 0)])]) (init := [0, 1]) (fin := [0, 1, 2]) (sps := [⟨[], [], [2], [(.slot 5)]⟩]) (es' := [(_, _), (_, _), (5, .box 24 [.v (.int .i64 0), .v (.slice none 0 0)])]) (by kernel_rfl) rfl rfl
   ⟨st_plain rfl (op_alloc _ _ zr24),
   trivial⟩ ?_
  refine pt_then ?_
  refine ht_seq ?_
  refine ht_seqR hn (El := [_, _, _, (6, .v (.int .i64 0))]) (init := [0, 1, 2]) (fin := [0, 1, 2, 3]) (sps := [⟨[], [], [3], [(.slot 6)]⟩]) (es' := [(_, _), (_, _), (_, _), (6, .v (.int .i64 0))]) (by kernel_rfl) rfl rfl
   ⟨st_plain rfl (op_assign _ _ _ _ rfl rfl),
   trivial⟩ ?_
  refine pt_then ?_
  refine ht_sub (fs := [(0, .fl .shr 1 (List.map (Value.int .u8) b)), (2, .box 24 [.v (.int .i64 0), .v (.slice none 0 0)]), (5, .box 24 [.v (.int .i64 0), .fl (.own 9) 1 (List.map Value.string [])]), (6, .v (.int .i64 0))]) (.same _ (.same _ (.box _ _ (subs_cons (sub_refl _) (subs_cons (sub_nil 9 1) (subs_nil))) rfl (.same _ .nil)))) ?_
  refine ht_loopS h (fun ((s43, s44, s45) : Int × (List ByteArray) × Int) => [(0, .fl .shr 1 (List.map (Value.int .u8) b)), (2, .box 24 [.v (.int .i64 0), .v (.slice none 0 0)]), (5, .box 24 [.v (.int .i64 s43), .fl (.own 9) 1 (List.map Value.string s44)]), (6, .v (.int .i64 s45))]) (fun (() : Unit) => []) ?_ ?_
  ·rintro ⟨⟩ h
   cases h
  ·rintro u58 hl59 hr60 ⟨s43, s44, s45⟩ rr63 h ho61
   refine ht_block ?_
   refine ht_seq ?_
   obtain ⟨v1, hv1, h⟩ := bind_some h
   refine ht_seqR hn (El := [_, _, _, _, (10, .fl .shr 1 (List.map (Value.int .u8) b)), (11, .v (.int .i64 s45)), (12, .v (.int .i64 v1)), (7, .v (.int .i64 v1))]) (init := [0, 1, 2, 3]) (fin := [0, 1, 2, 3, 7]) (sps := [⟨[0], [], [4], [(.slot 10)]⟩, ⟨[3], [], [5], [(.slot 11)]⟩, ⟨[4, 5], [], [6], [(.slot 12)]⟩, ⟨[6], [], [7], [(.slot 7)]⟩]) (es' := [(_, _), (_, _), (_, _), (_, _), (7, .v (.int .i64 v1))]) (by kernel_rfl) rfl rfl
    ⟨st_plain rfl (op_move _ _ _ _ rfl rfl),
    st_plain rfl (op_move _ _ _ _ rfl rfl),
    st_plain rfl (op_call _ _ 23 _ _ rfl Try.call23 rfl (ok_wherryref11_end b s45 _ hv1) rfl rfl),
    st_plain rfl (op_assign _ _ _ _ rfl rfl),
    trivial⟩ ?_
   refine pt_then ?_
   refine ht_seq ?_
   refine ht_seq ?_
   refine ht_joinS h (fun (s64 : Bool) => [(0, .fl .shr 1 (List.map (Value.int .u8) b)), (2, .box 24 [.v (.int .i64 0), .v (.slice none 0 0)]), (5, .box 24 [.v (.int .i64 s43), .fl (.own 9) 1 (List.map Value.string s44)]), (6, .v (.int .i64 s45)), (7, .v (.int .i64 v1)), (26, .v (.bool s64))]) ?_ ?_
   ·rintro s64 h
    refine pt_then ?_
    refine ht_cond _ rfl (fun hb68 => ?_) (fun hb68 => ?_)
    ·have h := cond_t hb68 h
     refine ht_seq ?_
     refine ht_seqR hn (El := [_, _, _, _, _, _, (27, .agg [.v (.int .i64 0), .v (.slice none 0 0)]), (2, .box 24 [.v (.int .i64 0), .v (.slice none 0 0)]), (3, .v (.int .i64 0)), (4, .v (.bool false))]) (init := [0, 1, 2, 3, 4, 5]) (fin := [7, 8, 9]) (sps := [⟨[], [], [6], [(.slot 27)]⟩, ⟨[], [6, 1], [7], [.cell 2 0, .cell 2 1]⟩, ⟨[], [], [8], [(.slot 3)]⟩, ⟨[], [], [9], [(.slot 4)]⟩]) (es' := [(2, .box 24 [.v (.int .i64 0), .v (.slice none 0 0)]), (3, .v (.int .i64 0)), (4, .v (.bool false))]) (by kernel_rfl) rfl rfl
      ⟨st_plain rfl (op_build _ _ _ _ [1, 1] _ _ Try.underlying24 zr24 (fs24 _ Try.underlying24) Src.nil rfl rfl rfl),
      st_plain rfl (op_store_self _ _ _ 27 2 2 sz24 rfl rfl rfl rfl rfl (.eq _ (.eq _ (.nil _))) rfl),
      st_plain rfl (op_assign _ _ _ _ rfl rfl),
      st_plain rfl (op_assign _ _ _ _ rfl rfl),
      trivial⟩ ?_
     refine pt_then ?_
     refine ht_ret ?_
     refine pt_sub (fs := [(2, .box 24 [.v (.int .i64 0), .fl (.own 9) 1 (List.map Value.string [])]), (3, .v (.int .i64 0)), (4, .v (.bool false))]) (.box _ _ (subs_cons (sub_refl _) (subs_cons (sub_nil 9 1) (subs_nil))) rfl (.same _ (.same _ .nil))) ?_
     refine pt_r_then ?_
     refine pt_r_in ?_
     refine pt_r_then ?_
     refine pt_r_in ?_
     have h := hr60 _ (ho61 _ (Option.some.inj h).symm).symm
     obtain rfl := Option.some.inj h
     exact pt_ret hio rfl (.cellA _ _ _ _ Try.underlying24 rfl sz24 (.tmp _ _ (.tmp _ _ .nil))) rfl rfl
    ·have h := cond_f hb68 h
     refine ht_skip ?_
     refine pt_then ?_
     refine ht_seq ?_
     obtain ⟨v8, hv8, h⟩ := bind_some h
     obtain ⟨v9, hv9, h⟩ := bind_some h
     refine ht_seqR hn (El := [_, _, _, _, _, _, (28, .fl .shr 1 (List.map (Value.int .u8) b)), (29, .v (.int .i64 s45)), (30, .v (.int .i64 v1)), (31, .fl .shr 1 (List.map (Value.int .u8) v8)), (32, .v (.string v9)), (8, .v (.string v9))]) (init := [0, 1, 2, 3, 4, 5]) (fin := [0, 1, 2, 4, 11]) (sps := [⟨[0], [], [6], [(.slot 28)]⟩, ⟨[3], [], [7], [(.slot 29)]⟩, ⟨[4], [], [8], [(.slot 30)]⟩, ⟨[6, 7, 8], [], [9], [(.slot 31)]⟩, ⟨[9], [], [10], [(.slot 32)]⟩, ⟨[10], [], [11], [(.slot 8)]⟩]) (es' := [(_, _), (_, _), (_, _), (_, _), (8, .v (.string v9))]) (by kernel_rfl) rfl rfl
      ⟨st_plain rfl (op_move _ _ _ _ rfl rfl),
      st_plain rfl (op_move _ _ _ _ rfl rfl),
      st_plain rfl (op_move _ _ _ _ rfl rfl),
      st_plain rfl (op_sl _ _ _ s45 v1 _ Try.underlying25 sz5 rfl rfl ⟨_, rfl⟩ ⟨_, rfl⟩ hv8),
      st_plain rfl ((Option.some.inj hv9) ▸ op_bytes_str _ _ _ v8 Try.underlying25 Try.underlying9 Try.underlying5 rfl),
      st_plain rfl (op_assign _ _ _ _ rfl rfl),
      trivial⟩ ?_
     refine pt_then ?_
     refine ht_seq ?_
     obtain ⟨v10, hv10, h⟩ := bind_some h
     obtain ⟨v11, hv11, h⟩ := bind_some h
     refine ht_seqR hn (El := [_, _, _, _, _, (33, .v (.string v9)), (34, .v (.string v10)), (35, .v (.int .i64 v11)), (9, .v (.int .i64 v11))]) (init := [0, 1, 2, 3, 4]) (fin := [0, 1, 2, 3, 4, 8]) (sps := [⟨[4], [], [5], [(.slot 33)]⟩, ⟨[5], [], [6], [(.slot 34)]⟩, ⟨[6], [], [7], [(.slot 35)]⟩, ⟨[7], [], [8], [(.slot 9)]⟩]) (es' := [(_, _), (_, _), (_, _), (_, _), (_, _), (9, .v (.int .i64 v11))]) (by kernel_rfl) rfl rfl
      ⟨st_plain rfl (op_move _ _ _ _ rfl rfl),
      st_plain rfl (op_substr _ _ _ 0 3 _ Try.underlying9 rfl rfl ⟨_, rfl⟩ hv10),
      st_plain rfl (op_call _ _ 24 _ _ rfl Try.call24 rfl (ok_wherryref11_number v10 3 _ hv11) rfl rfl),
      st_plain rfl (op_assign _ _ _ _ rfl rfl),
      trivial⟩ ?_
     refine pt_then ?_
     refine ht_seq ?_
     refine ht_seq ?_
     refine ht_joinS h (fun (s69 : Bool) => [(0, .fl .shr 1 (List.map (Value.int .u8) b)), (2, .box 24 [.v (.int .i64 0), .v (.slice none 0 0)]), (5, .box 24 [.v (.int .i64 s43), .fl (.own 9) 1 (List.map Value.string s44)]), (7, .v (.int .i64 v1)), (8, .v (.string v9)), (9, .v (.int .i64 v11)), (59, .v (.bool s69))]) ?_ ?_
     ·rintro s69 h
      refine pt_then ?_
      refine ht_cond _ rfl (fun hb73 => ?_) (fun hb73 => ?_)
      ·have h := cond_t hb73 h
       refine ht_seq ?_
       refine ht_seqR hn (El := [_, _, _, _, _, _, _, (60, .agg [.v (.int .i64 0), .v (.slice none 0 0)]), (2, .box 24 [.v (.int .i64 0), .v (.slice none 0 0)]), (3, .v (.int .i64 0)), (4, .v (.bool false))]) (init := [0, 1, 2, 3, 4, 5, 6]) (fin := [8, 9, 10]) (sps := [⟨[], [], [7], [(.slot 60)]⟩, ⟨[], [7, 1], [8], [.cell 2 0, .cell 2 1]⟩, ⟨[], [], [9], [(.slot 3)]⟩, ⟨[], [], [10], [(.slot 4)]⟩]) (es' := [(2, .box 24 [.v (.int .i64 0), .v (.slice none 0 0)]), (3, .v (.int .i64 0)), (4, .v (.bool false))]) (by kernel_rfl) rfl rfl
        ⟨st_plain rfl (op_build _ _ _ _ [1, 1] _ _ Try.underlying24 zr24 (fs24 _ Try.underlying24) Src.nil rfl rfl rfl),
        st_plain rfl (op_store_self _ _ _ 60 2 2 sz24 rfl rfl rfl rfl rfl (.eq _ (.eq _ (.nil _))) rfl),
        st_plain rfl (op_assign _ _ _ _ rfl rfl),
        st_plain rfl (op_assign _ _ _ _ rfl rfl),
        trivial⟩ ?_
       refine pt_then ?_
       refine ht_ret ?_
       refine pt_sub (fs := [(2, .box 24 [.v (.int .i64 0), .fl (.own 9) 1 (List.map Value.string [])]), (3, .v (.int .i64 0)), (4, .v (.bool false))]) (.box _ _ (subs_cons (sub_refl _) (subs_cons (sub_nil 9 1) (subs_nil))) rfl (.same _ (.same _ .nil))) ?_
       refine pt_r_then ?_
       refine pt_r_in ?_
       refine pt_r_then ?_
       refine pt_r_in ?_
       have h := hr60 _ (ho61 _ (Option.some.inj h).symm).symm
       obtain rfl := Option.some.inj h
       exact pt_ret hio rfl (.cellA _ _ _ _ Try.underlying24 rfl sz24 (.tmp _ _ (.tmp _ _ .nil))) rfl rfl
      ·have h := cond_f hb73 h
       refine ht_skip ?_
       refine pt_then ?_
       refine ht_seq ?_
       refine ht_seqR hn (El := [_, _, _, _, _, _, _, (61, .v (.int .i64 v11)), (62, .ptr 5 0), (5, .box 24 [.v (.int .i64 v11), .fl (.own 9) 1 (List.map Value.string s44)])]) (init := [0, 1, 2, 3, 4, 5, 6]) (fin := [0, 1, 9, 3, 4]) (sps := [⟨[5], [], [7], [(.slot 61)]⟩, ⟨[2], [], [8], [(.slot 62)]⟩, ⟨[8, 7], [2], [9], [.cell 5 0]⟩]) (es' := [(_, _), (_, _), (5, .box 24 [.v (.int .i64 v11), .fl (.own 9) 1 (List.map Value.string s44)]), (_, _), (_, _)]) (by kernel_rfl) rfl rfl
        ⟨st_plain rfl (op_move _ _ _ _ rfl rfl),
        st_plain rfl (op_fieldAddr _ _ _ _ 5 0 _ Try.underlying24 rfl sz3 rfl rfl (by decide)),
        st_plain rfl (op_store _ _ _ _ _ _ _ _ sz3 rfl rfl rfl rfl (Nat.le_of_ble_eq_true rfl) rfl rfl),
        trivial⟩ ?_
       refine pt_then ?_
       refine ht_seq ?_
       obtain ⟨v21, hv21, h⟩ := bind_some h
       obtain ⟨v22, hv22, h⟩ := bind_some h
       refine ht_anyR (by kernel_rfl) hn (El := [_, _, _, _, _, (63, .ptr 5 1), (64, .same (.cell 5 1)), (65, .v (.string v9)), (66, .v (.string v21)), (67, .fl (.own 9) 1 (List.map Value.string [v21])), (68, .fl (.own 9) 1 (List.map Value.string v22)), (5, .box 24 [.v (.int .i64 v11), .any]), (69, .ptr 5 1), (5, .box 24 [.v (.int .i64 v11), .fl (.own 9) 1 (List.map Value.string v22)])]) (init := [0, 1, 2, 3, 4]) (fin := [0, 1, 13, 3, 4]) (sps := [⟨[2], [], [5], [(.slot 63)]⟩, ⟨[5, 2], [], [6], [(.slot 64)]⟩, ⟨[4], [], [7], [(.slot 65)]⟩, ⟨[7], [], [8], [(.slot 66)]⟩, ⟨[8], [], [9], [(.slot 67)]⟩, ⟨[6, 9], [2], [11, 10], [(.slot 68)]⟩, ⟨[11], [], [12], [(.slot 69)]⟩, ⟨[12], [6, 10, 11], [13], [.cell 5 1]⟩]) (es' := [(_, _), (_, _), (5, .box 24 [.v (.int .i64 v11), .fl (.own 9) 1 (List.map Value.string v22)]), (_, _), (_, _)]) (by kernel_rfl) rfl rfl
        ⟨st_plain rfl (op_fieldAddr _ _ _ _ 5 0 _ Try.underlying24 rfl sz22 rfl rfl (by decide)),
        st_plain rfl (op_load _ _ _ _ _ _ Try.underlying22 rfl rfl rfl (Nat.le_of_ble_eq_true rfl) rfl rfl rfl),
        st_plain rfl (op_move _ _ _ _ rfl rfl),
        st_plain rfl (op_substr _ _ _ 4 (v9.size : Int) _ Try.underlying9 rfl ⟨_, rfl⟩ rfl hv21),
        st_plain rfl (op_buildSlice _ _ 1 (.string ByteArray.empty) (List.map Value.string [v21]) [(0, .string v21)] Try.underlying22 sz9 zr9 (fun _ V w o a hv hes => by have e0 := rd_v hv hes (x := .tmp 66) rfl; simp only [List.map_toArray, List.map_cons, List.map_nil, e0]; try rfl) (litfill (by simp [Instr.fill, Value.cells]; rfl) (by simp [List.range, List.range.loop])) (by simp [Value.oneCell']) rfl (by decide) (by decide) (by decide)),
        st_plain rfl (op_app_cell _ _ _ _ _ _ el22 rfl rfl (Nat.le_of_ble_eq_true rfl) rfl (map_len _) (map_len _) hv22 ((List.map_append).symm.trans (congrArg (List.map _) (app_eq hv22))) (by decide) rfl rfl),
        st_plain rfl (op_fieldAddr _ _ _ _ 5 0 _ Try.underlying24 rfl sz22 rfl rfl (by decide)),
        st_plain rfl (LOp.drop [_] (op_store_take _ _ _ _ _ _ _ _ sz22 rfl rfl rfl (Nat.le_of_ble_eq_true rfl) rfl rfl)),
        trivial⟩ ?_
       refine pt_then ?_
       refine ht_seq ?_
       obtain ⟨v23, hv23, h⟩ := bind_some h
       refine ht_seqR hn (El := [_, _, _, _, _, (70, .v (.int .i64 v1)), (71, .v (.int .i64 v23)), (6, .v (.int .i64 v23))]) (init := [0, 1, 2, 3, 4]) (fin := [0, 1, 2, 4, 7]) (sps := [⟨[3], [], [5], [(.slot 70)]⟩, ⟨[5], [], [6], [(.slot 71)]⟩, ⟨[6], [], [7], [(.slot 6)]⟩]) (es' := [(_, _), (_, _), (_, _), (_, _), (6, .v (.int .i64 v23))]) (by kernel_rfl) rfl rfl
        ⟨st_plain rfl (op_move _ _ _ _ rfl rfl),
        st_plain rfl (op_bin _ _ _ _ _ rfl rfl (ibind (f := Value.int .i64) (Option.some.inj hv23))),
        st_plain rfl (op_assign _ _ _ _ rfl rfl),
        trivial⟩ ?_
       refine pt_then ?_
       refine ht_seq ?_
       obtain ⟨v24, hv24, h⟩ := bind_some h
       refine ht_seqR hn (El := [_, _, _, _, _, (72, .v (.string v9)), (73, .v (.int .u8 v24)), (74, .v (.bool (v24 == 32)))]) (init := [0, 1, 2, 3, 4]) (fin := [0, 1, 2, 4, 7]) (sps := [⟨[3], [], [5], [(.slot 72)]⟩, ⟨[5], [], [6], [(.slot 73)]⟩, ⟨[6], [], [7], [(.slot 74)]⟩]) (es' := [(_, _), (_, _), (_, _), (_, _), (74, .v (.bool (v24 == 32)))]) (by kernel_rfl) rfl rfl
        ⟨st_plain rfl (op_move _ _ _ _ rfl rfl),
        st_plain rfl (op_chr _ _ _ 3 _ Try.underlying9 rfl rfl hv24),
        st_plain rfl (op_bin _ _ _ _ _ rfl rfl rfl),
        trivial⟩ ?_
       refine pt_then ?_
       refine ht_cond _ rfl (fun hb74 => ?_) (fun hb74 => ?_)
       ·have h := cond_t hb74 h
        refine ht_seq ?_
        refine ht_seq ?_
        obtain ⟨v26, hv26, h⟩ := bind_some h
        refine ht_seqR hn (El := [_, _, _, _, _, (75, .agg [.v (.int .i64 v11), .same (.cell 5 1)]), (76, .v (.bool v26)), (77, .v (.bool (!v26)))]) (init := [0, 1, 2, 3, 4]) (fin := [1, 2, 3, 7]) (sps := [⟨[2], [], [5], [(.slot 75)]⟩, ⟨[5, 2], [], [6], [(.slot 76)]⟩, ⟨[6], [], [7], [(.slot 77)]⟩]) (es' := [(_, _), (_, _), (_, _), (77, .v (.bool (!v26)))]) (by kernel_rfl) rfl rfl
         ⟨st_plain rfl (op_loadA _ _ _ _ _ _ _ Try.underlying24 rfl sz24 rfl rfl (Nat.le_of_ble_eq_true rfl) rfl rfl),
         st_plain rfl (op_call _ _ 13 _ _ rfl Try.call13 rfl (ok_wherryref11_Reply (T_Reply.mk v11 v22) _ hv26) rfl rfl),
         st_plain rfl (op_un _ _ _ _ rfl rfl),
         trivial⟩ ?_
        refine pt_then ?_
        refine ht_cond _ rfl (fun hb75 => ?_) (fun hb75 => ?_)
        ·have h := cond_t hb75 h
         refine ht_seq ?_
         refine ht_seqR hn (El := [_, _, _, _, (78, .agg [.v (.int .i64 0), .v (.slice none 0 0)]), (2, .box 24 [.v (.int .i64 0), .v (.slice none 0 0)]), (3, .v (.int .i64 0)), (4, .v (.bool false))]) (init := [0, 1, 2, 3]) (fin := [5, 6, 7]) (sps := [⟨[], [], [4], [(.slot 78)]⟩, ⟨[], [4, 0], [5], [.cell 2 0, .cell 2 1]⟩, ⟨[], [], [6], [(.slot 3)]⟩, ⟨[], [], [7], [(.slot 4)]⟩]) (es' := [(2, .box 24 [.v (.int .i64 0), .v (.slice none 0 0)]), (3, .v (.int .i64 0)), (4, .v (.bool false))]) (by kernel_rfl) rfl rfl
          ⟨st_plain rfl (op_build _ _ _ _ [1, 1] _ _ Try.underlying24 zr24 (fs24 _ Try.underlying24) Src.nil rfl rfl rfl),
          st_plain rfl (op_store_self _ _ _ 78 2 2 sz24 rfl rfl rfl rfl rfl (.eq _ (.eq _ (.nil _))) rfl),
          st_plain rfl (op_assign _ _ _ _ rfl rfl),
          st_plain rfl (op_assign _ _ _ _ rfl rfl),
          trivial⟩ ?_
         refine pt_then ?_
         refine ht_ret ?_
         refine pt_sub (fs := [(2, .box 24 [.v (.int .i64 0), .fl (.own 9) 1 (List.map Value.string [])]), (3, .v (.int .i64 0)), (4, .v (.bool false))]) (.box _ _ (subs_cons (sub_refl _) (subs_cons (sub_nil 9 1) (subs_nil))) rfl (.same _ (.same _ .nil))) ?_
         refine pt_r_then ?_
         refine pt_r_in ?_
         refine pt_r_then ?_
         refine pt_r_in ?_
         have h := hr60 _ (ho61 _ (Option.some.inj h).symm).symm
         obtain rfl := Option.some.inj h
         exact pt_ret hio rfl (.cellA _ _ _ _ Try.underlying24 rfl sz24 (.tmp _ _ (.tmp _ _ .nil))) rfl rfl
        ·have h := cond_f hb75 h
         refine ht_skip ?_
         refine pt_then ?_
         refine ht_seq ?_
         refine ht_seqR hn (El := [_, _, _, _, (79, .agg [.v (.int .i64 v11), .fl (.own 9) 1 (List.map Value.string v22)]), (80, .v (.int .i64 v23)), (2, .box 24 [.v (.int .i64 v11), .fl (.own 9) 1 (List.map Value.string v22)]), (3, .v (.int .i64 v23)), (4, .v (.bool true))]) (init := [0, 1, 2, 3]) (fin := [6, 7, 8]) (sps := [⟨[], [1], [4], [(.slot 79)]⟩, ⟨[2], [], [5], [(.slot 80)]⟩, ⟨[], [4, 0], [6], [.cell 2 0, .cell 2 1]⟩, ⟨[5], [], [7], [(.slot 3)]⟩, ⟨[], [], [8], [(.slot 4)]⟩]) (es' := [(2, .box 24 [.v (.int .i64 v11), .fl (.own 9) 1 (List.map Value.string v22)]), (3, .v (.int .i64 v23)), (4, .v (.bool true))]) (by kernel_rfl) rfl rfl
          ⟨st_plain rfl (op_loadA_take _ _ _ _ Try.underlying24 rfl sz24 rfl rfl),
          st_plain rfl (op_move _ _ _ _ rfl rfl),
          st_plain rfl (op_store_take _ _ _ _ _ _ _ _ sz24 rfl rfl rfl (Nat.le_of_ble_eq_true rfl) rfl rfl),
          st_plain rfl (op_assign _ _ _ _ rfl rfl),
          st_plain rfl (op_assign _ _ _ _ rfl rfl),
          trivial⟩ ?_
         refine pt_then ?_
         refine ht_ret ?_
         refine pt_r_in ?_
         refine pt_r_then ?_
         refine pt_r_in ?_
         have h := hr60 _ (ho61 _ (Option.some.inj h).symm).symm
         obtain rfl := Option.some.inj h
         exact pt_ret hio rfl (.cellA _ _ _ _ Try.underlying24 rfl sz24 (.tmp _ _ (.tmp _ _ .nil))) rfl rfl
       ·have h := cond_f hb74 h
        refine ht_skip ?_
        refine pt_inb ?_
        refine pt_pick [0, 1, 2, 3] (by kernel_rfl) (es' := [(_, _), (_, _), (_, _), (_, _)]) rfl ?_
        exact pt_next _ (Option.some.inj h).symm rfl
     ·intro u70 h hl71 hr72
      refine cond_some h (fun hg8_2 h => ?_) (fun hg8_2 h => ?_)
      ·refine ht_seqR hn (El := (_ :: _ :: _ :: _ :: _ :: _ :: (36, .v (.int .i64 v11)) :: (37, .v (.bool ((decide (v11 < 0))))) :: (38, .v (.bool true)) :: (39, .v undef) :: (40, .v undef) :: (41, .v undef) :: (42, .v undef) :: (43, .v undef) :: (44, .v undef) :: (45, .v undef) :: (46, .v undef) :: (47, .v undef) :: (48, .v undef) :: (49, .v (.bool true)) :: (50, .v (.bool true)) :: (51, .v undef) :: (52, .v undef) :: (53, .v undef) :: (54, .v undef) :: (55, .v undef) :: (56, .v undef) :: (57, .v undef) :: (58, .v undef) :: (59, .v (.bool true)) :: [])) (init := [0, 1, 2, 3, 4, 5]) (fin := [0, 1, 2, 3, 4, 5, 29]) (sps := (⟨[5], [], [6], [(.slot 36)]⟩ :: ⟨[6], [], [7], [(.slot 37)]⟩ :: ⟨[7], [], [8], [(.slot 38)]⟩ :: ⟨[8], [], [9], [(.slot 39)]⟩ :: ⟨[8], [], [10], [(.slot 40)]⟩ :: ⟨[8], [], [11], [(.slot 41)]⟩ :: ⟨[8], [], [12], [(.slot 42)]⟩ :: ⟨[8], [], [13], [(.slot 43)]⟩ :: ⟨[13], [], [14], [(.slot 44)]⟩ :: ⟨[13], [], [15], [(.slot 45)]⟩ :: ⟨[13], [], [16], [(.slot 46)]⟩ :: ⟨[13], [], [17], [(.slot 47)]⟩ :: ⟨[8], [], [18], [(.slot 48)]⟩ :: ⟨[8], [], [19], [(.slot 49)]⟩ :: ⟨[19], [], [20], [(.slot 50)]⟩ :: ⟨[20], [], [21], [(.slot 51)]⟩ :: ⟨[20], [], [22], [(.slot 52)]⟩ :: ⟨[20], [], [23], [(.slot 53)]⟩ :: ⟨[20], [], [24], [(.slot 54)]⟩ :: ⟨[24], [], [25], [(.slot 55)]⟩ :: ⟨[24], [], [26], [(.slot 56)]⟩ :: ⟨[24], [], [27], [(.slot 57)]⟩ :: ⟨[20], [], [28], [(.slot 58)]⟩ :: ⟨[20], [], [29], [(.slot 59)]⟩ :: [])) (es' := [(_, _), (_, _), (_, _), (_, _), (_, _), (_, _), (59, .v (.bool true))]) (by kernel_rfl) rfl rfl
        ⟨st_plain rfl (op_move _ _ _ _ rfl rfl),
        st_plain rfl (op_bin _ _ _ _ _ rfl rfl rfl),
        st_plain rfl (op_move _ _ _ _ (congrArg (fun b => AV.v (Value.bool b)) hg8_2) rfl),
        st_skip 2 38 _ false rfl rfl rfl rfl (List.Mem.head _),
        st_skip 2 38 _ false rfl rfl rfl rfl (List.Mem.head _),
        st_skip 2 38 _ false rfl rfl rfl rfl (List.Mem.head _),
        st_skip 2 38 _ false rfl rfl rfl rfl (List.Mem.head _),
        st_skip 2 38 _ false rfl rfl rfl rfl (List.Mem.head _),
        st_skipU 7 43 _ true rfl rfl rfl rfl (List.Mem.head _),
        st_skipU 7 43 _ true rfl rfl rfl rfl (List.Mem.head _),
        st_skipU 7 43 _ true rfl rfl rfl rfl (List.Mem.head _),
        st_skipU 7 43 _ true rfl rfl rfl rfl (List.Mem.head _),
        st_skip 2 38 _ false rfl rfl rfl rfl (List.Mem.head _),
        st_plain rfl (op_pick _ _ true _ rfl rfl),
        st_plain rfl (op_move _ _ _ _ rfl rfl),
        st_skip 14 50 _ false rfl rfl rfl rfl (List.Mem.head _),
        st_skip 14 50 _ false rfl rfl rfl rfl (List.Mem.head _),
        st_skip 14 50 _ false rfl rfl rfl rfl (List.Mem.head _),
        st_skip 14 50 _ false rfl rfl rfl rfl (List.Mem.head _),
        st_skipU 18 54 _ true rfl rfl rfl rfl (List.Mem.head _),
        st_skipU 18 54 _ true rfl rfl rfl rfl (List.Mem.head _),
        st_skipU 18 54 _ true rfl rfl rfl rfl (List.Mem.head _),
        st_skip 14 50 _ false rfl rfl rfl rfl (List.Mem.head _),
        st_plain rfl (op_pick _ _ true _ rfl rfl),
        trivial⟩ ?_
       exact hl71 _ (Option.some.inj h).symm
      ·refine cond_some h (fun hg8_7 h => ?_) (fun hg8_7 h => ?_)
       ·refine cond_some h (fun hg8_14 h => ?_) (fun hg8_14 h => ?_)
        ·refine ht_seqR hn (El := (_ :: _ :: _ :: _ :: _ :: _ :: (36, .v (.int .i64 v11)) :: (37, .v (.bool ((decide (v11 < 0))))) :: (38, .v (.bool false)) :: (39, .ptr 5 1) :: (40, .same (.cell 5 1)) :: (41, .v (.int .i64 (s44.length : Int))) :: (42, .v (.bool ((decide (0 < (s44.length : Int)))))) :: (43, .v (.bool true)) :: (44, .v (.int .i64 v11)) :: (45, .ptr 5 0) :: (46, .v (.int .i64 s43)) :: (47, .v (.bool (v11 != s43))) :: (48, .v (.bool (v11 != s43))) :: (49, .v (.bool (v11 != s43))) :: (50, .v (.bool true)) :: (51, .v undef) :: (52, .v undef) :: (53, .v undef) :: (54, .v undef) :: (55, .v undef) :: (56, .v undef) :: (57, .v undef) :: (58, .v undef) :: (59, .v (.bool true)) :: [])) (init := [0, 1, 2, 3, 4, 5]) (fin := [0, 1, 2, 3, 4, 5, 29]) (sps := (⟨[5], [], [6], [(.slot 36)]⟩ :: ⟨[6], [], [7], [(.slot 37)]⟩ :: ⟨[7], [], [8], [(.slot 38)]⟩ :: ⟨[8, 2], [], [9], [(.slot 39)]⟩ :: ⟨[8, 9, 2], [], [10], [(.slot 40)]⟩ :: ⟨[8, 10, 2], [], [11], [(.slot 41)]⟩ :: ⟨[8, 11], [], [12], [(.slot 42)]⟩ :: ⟨[8, 12], [], [13], [(.slot 43)]⟩ :: ⟨[13, 5], [], [14], [(.slot 44)]⟩ :: ⟨[13, 2], [], [15], [(.slot 45)]⟩ :: ⟨[13, 15, 2], [], [16], [(.slot 46)]⟩ :: ⟨[13, 14, 16], [], [17], [(.slot 47)]⟩ :: ⟨[8, 13, 17], [], [18], [(.slot 48)]⟩ :: ⟨[8, 18], [], [19], [(.slot 49)]⟩ :: ⟨[19], [], [20], [(.slot 50)]⟩ :: ⟨[20], [], [21], [(.slot 51)]⟩ :: ⟨[20], [], [22], [(.slot 52)]⟩ :: ⟨[20], [], [23], [(.slot 53)]⟩ :: ⟨[20], [], [24], [(.slot 54)]⟩ :: ⟨[24], [], [25], [(.slot 55)]⟩ :: ⟨[24], [], [26], [(.slot 56)]⟩ :: ⟨[24], [], [27], [(.slot 57)]⟩ :: ⟨[20], [], [28], [(.slot 58)]⟩ :: ⟨[20], [], [29], [(.slot 59)]⟩ :: [])) (es' := [(_, _), (_, _), (_, _), (_, _), (_, _), (_, _), (59, .v (.bool true))]) (by kernel_rfl) rfl rfl
          ⟨st_plain rfl (op_move _ _ _ _ rfl rfl),
          st_plain rfl (op_bin _ _ _ _ _ rfl rfl rfl),
          st_plain rfl (op_move _ _ _ _ (congrArg (fun b => AV.v (Value.bool b)) hg8_2) rfl),
          st_run 2 38 false rfl rfl rfl (List.Mem.head _) (op_fieldAddr _ _ _ _ 5 0 _ Try.underlying24 rfl sz22 rfl rfl (by decide)),
          st_run 2 38 false rfl rfl rfl (List.Mem.head _) (op_load _ _ _ _ _ _ Try.underlying22 rfl rfl rfl (Nat.le_of_ble_eq_true rfl) rfl rfl rfl),
          st_run 2 38 false rfl rfl rfl (List.Mem.head _) (op_len_fl _ _ _ Try.underlying22 rfl (by decide) (map_len _)),
          st_run 2 38 false rfl rfl rfl (List.Mem.head _) (op_bin _ _ _ _ _ rfl rfl rfl),
          st_run 2 38 false rfl rfl rfl (List.Mem.head _) (op_move _ _ _ _ (congrArg (fun b => AV.v (Value.bool b)) hg8_7) rfl),
          st_run 7 43 true rfl rfl rfl (List.Mem.head _) (op_move _ _ _ _ rfl rfl),
          st_run 7 43 true rfl rfl rfl (List.Mem.head _) (op_fieldAddr _ _ _ _ 5 0 _ Try.underlying24 rfl sz3 rfl rfl (by decide)),
          st_run 7 43 true rfl rfl rfl (List.Mem.head _) (op_load _ _ _ _ _ _ Try.underlying3 rfl rfl rfl (Nat.le_of_ble_eq_true rfl) rfl rfl rfl),
          st_run 7 43 true rfl rfl rfl (List.Mem.head _) (op_bin _ _ _ _ _ rfl rfl rfl),
          st_run 2 38 false rfl rfl rfl (List.Mem.head _) (op_pick _ _ true _ rfl rfl),
          st_plain rfl (op_pick _ _ false _ rfl rfl),
          st_plain rfl (op_move _ _ _ _ (congrArg (fun b => AV.v (Value.bool b)) hg8_14) rfl),
          st_skip 14 50 _ false rfl rfl rfl rfl (List.Mem.head _),
          st_skip 14 50 _ false rfl rfl rfl rfl (List.Mem.head _),
          st_skip 14 50 _ false rfl rfl rfl rfl (List.Mem.head _),
          st_skip 14 50 _ false rfl rfl rfl rfl (List.Mem.head _),
          st_skipU 18 54 _ true rfl rfl rfl rfl (List.Mem.head _),
          st_skipU 18 54 _ true rfl rfl rfl rfl (List.Mem.head _),
          st_skipU 18 54 _ true rfl rfl rfl rfl (List.Mem.head _),
          st_skip 14 50 _ false rfl rfl rfl rfl (List.Mem.head _),
          st_plain rfl (op_pick _ _ true _ rfl rfl),
          trivial⟩ ?_
         exact hl71 _ (Option.some.inj h).symm
        ·obtain ⟨v12, hv12, h⟩ := bind_some h
         refine cond_some h (fun hg8_18 h => ?_) (fun hg8_18 h => ?_)
         ·obtain ⟨v13, hv13, h⟩ := bind_some h
          refine ht_seqR hn (El := (_ :: _ :: _ :: _ :: _ :: _ :: (36, .v (.int .i64 v11)) :: (37, .v (.bool ((decide (v11 < 0))))) :: (38, .v (.bool false)) :: (39, .ptr 5 1) :: (40, .same (.cell 5 1)) :: (41, .v (.int .i64 (s44.length : Int))) :: (42, .v (.bool ((decide (0 < (s44.length : Int)))))) :: (43, .v (.bool true)) :: (44, .v (.int .i64 v11)) :: (45, .ptr 5 0) :: (46, .v (.int .i64 s43)) :: (47, .v (.bool (v11 != s43))) :: (48, .v (.bool (v11 != s43))) :: (49, .v (.bool (v11 != s43))) :: (50, .v (.bool false)) :: (51, .v (.string v9)) :: (52, .v (.int .u8 v12)) :: (53, .v (.bool (v12 != 45))) :: (54, .v (.bool true)) :: (55, .v (.string v9)) :: (56, .v (.int .u8 v13)) :: (57, .v (.bool (v13 != 32))) :: (58, .v (.bool (v13 != 32))) :: (59, .v (.bool (v13 != 32))) :: [])) (init := [0, 1, 2, 3, 4, 5]) (fin := [0, 1, 2, 3, 4, 5, 29]) (sps := (⟨[5], [], [6], [(.slot 36)]⟩ :: ⟨[6], [], [7], [(.slot 37)]⟩ :: ⟨[7], [], [8], [(.slot 38)]⟩ :: ⟨[8, 2], [], [9], [(.slot 39)]⟩ :: ⟨[8, 9, 2], [], [10], [(.slot 40)]⟩ :: ⟨[8, 10, 2], [], [11], [(.slot 41)]⟩ :: ⟨[8, 11], [], [12], [(.slot 42)]⟩ :: ⟨[8, 12], [], [13], [(.slot 43)]⟩ :: ⟨[13, 5], [], [14], [(.slot 44)]⟩ :: ⟨[13, 2], [], [15], [(.slot 45)]⟩ :: ⟨[13, 15, 2], [], [16], [(.slot 46)]⟩ :: ⟨[13, 14, 16], [], [17], [(.slot 47)]⟩ :: ⟨[8, 13, 17], [], [18], [(.slot 48)]⟩ :: ⟨[8, 18], [], [19], [(.slot 49)]⟩ :: ⟨[19], [], [20], [(.slot 50)]⟩ :: ⟨[20, 4], [], [21], [(.slot 51)]⟩ :: ⟨[20, 21], [], [22], [(.slot 52)]⟩ :: ⟨[20, 22], [], [23], [(.slot 53)]⟩ :: ⟨[20, 23], [], [24], [(.slot 54)]⟩ :: ⟨[24, 4], [], [25], [(.slot 55)]⟩ :: ⟨[24, 25], [], [26], [(.slot 56)]⟩ :: ⟨[24, 26], [], [27], [(.slot 57)]⟩ :: ⟨[20, 24, 27], [], [28], [(.slot 58)]⟩ :: ⟨[20, 28], [], [29], [(.slot 59)]⟩ :: [])) (es' := [(_, _), (_, _), (_, _), (_, _), (_, _), (_, _), (59, .v (.bool (v13 != 32)))]) (by kernel_rfl) rfl rfl
           ⟨st_plain rfl (op_move _ _ _ _ rfl rfl),
           st_plain rfl (op_bin _ _ _ _ _ rfl rfl rfl),
           st_plain rfl (op_move _ _ _ _ (congrArg (fun b => AV.v (Value.bool b)) hg8_2) rfl),
           st_run 2 38 false rfl rfl rfl (List.Mem.head _) (op_fieldAddr _ _ _ _ 5 0 _ Try.underlying24 rfl sz22 rfl rfl (by decide)),
           st_run 2 38 false rfl rfl rfl (List.Mem.head _) (op_load _ _ _ _ _ _ Try.underlying22 rfl rfl rfl (Nat.le_of_ble_eq_true rfl) rfl rfl rfl),
           st_run 2 38 false rfl rfl rfl (List.Mem.head _) (op_len_fl _ _ _ Try.underlying22 rfl (by decide) (map_len _)),
           st_run 2 38 false rfl rfl rfl (List.Mem.head _) (op_bin _ _ _ _ _ rfl rfl rfl),
           st_run 2 38 false rfl rfl rfl (List.Mem.head _) (op_move _ _ _ _ (congrArg (fun b => AV.v (Value.bool b)) hg8_7) rfl),
           st_run 7 43 true rfl rfl rfl (List.Mem.head _) (op_move _ _ _ _ rfl rfl),
           st_run 7 43 true rfl rfl rfl (List.Mem.head _) (op_fieldAddr _ _ _ _ 5 0 _ Try.underlying24 rfl sz3 rfl rfl (by decide)),
           st_run 7 43 true rfl rfl rfl (List.Mem.head _) (op_load _ _ _ _ _ _ Try.underlying3 rfl rfl rfl (Nat.le_of_ble_eq_true rfl) rfl rfl rfl),
           st_run 7 43 true rfl rfl rfl (List.Mem.head _) (op_bin _ _ _ _ _ rfl rfl rfl),
           st_run 2 38 false rfl rfl rfl (List.Mem.head _) (op_pick _ _ true _ rfl rfl),
           st_plain rfl (op_pick _ _ false _ rfl rfl),
           st_plain rfl (op_move _ _ _ _ (congrArg (fun b => AV.v (Value.bool b)) hg8_14) rfl),
           st_run 14 50 false rfl rfl rfl (List.Mem.head _) (op_move _ _ _ _ rfl rfl),
           st_run 14 50 false rfl rfl rfl (List.Mem.head _) (op_chr _ _ _ 3 _ Try.underlying9 rfl rfl hv12),
           st_run 14 50 false rfl rfl rfl (List.Mem.head _) (op_bin _ _ _ _ _ rfl rfl rfl),
           st_run 14 50 false rfl rfl rfl (List.Mem.head _) (op_move _ _ _ _ (congrArg (fun b => AV.v (Value.bool b)) hg8_18) rfl),
           st_run 18 54 true rfl rfl rfl (List.Mem.head _) (op_move _ _ _ _ rfl rfl),
           st_run 18 54 true rfl rfl rfl (List.Mem.head _) (op_chr _ _ _ 3 _ Try.underlying9 rfl rfl hv13),
           st_run 18 54 true rfl rfl rfl (List.Mem.head _) (op_bin _ _ _ _ _ rfl rfl rfl),
           st_run 14 50 false rfl rfl rfl (List.Mem.head _) (op_pick _ _ true _ rfl rfl),
           st_plain rfl (op_pick _ _ false _ rfl rfl),
           trivial⟩ ?_
          exact hl71 _ (Option.some.inj h).symm
         ·refine ht_seqR hn (El := (_ :: _ :: _ :: _ :: _ :: _ :: (36, .v (.int .i64 v11)) :: (37, .v (.bool ((decide (v11 < 0))))) :: (38, .v (.bool false)) :: (39, .ptr 5 1) :: (40, .same (.cell 5 1)) :: (41, .v (.int .i64 (s44.length : Int))) :: (42, .v (.bool ((decide (0 < (s44.length : Int)))))) :: (43, .v (.bool true)) :: (44, .v (.int .i64 v11)) :: (45, .ptr 5 0) :: (46, .v (.int .i64 s43)) :: (47, .v (.bool (v11 != s43))) :: (48, .v (.bool (v11 != s43))) :: (49, .v (.bool (v11 != s43))) :: (50, .v (.bool false)) :: (51, .v (.string v9)) :: (52, .v (.int .u8 v12)) :: (53, .v (.bool (v12 != 45))) :: (54, .v (.bool false)) :: (55, .v undef) :: (56, .v undef) :: (57, .v undef) :: (58, .v (.bool false)) :: (59, .v (.bool false)) :: [])) (init := [0, 1, 2, 3, 4, 5]) (fin := [0, 1, 2, 3, 4, 5, 29]) (sps := (⟨[5], [], [6], [(.slot 36)]⟩ :: ⟨[6], [], [7], [(.slot 37)]⟩ :: ⟨[7], [], [8], [(.slot 38)]⟩ :: ⟨[8, 2], [], [9], [(.slot 39)]⟩ :: ⟨[8, 9, 2], [], [10], [(.slot 40)]⟩ :: ⟨[8, 10, 2], [], [11], [(.slot 41)]⟩ :: ⟨[8, 11], [], [12], [(.slot 42)]⟩ :: ⟨[8, 12], [], [13], [(.slot 43)]⟩ :: ⟨[13, 5], [], [14], [(.slot 44)]⟩ :: ⟨[13, 2], [], [15], [(.slot 45)]⟩ :: ⟨[13, 15, 2], [], [16], [(.slot 46)]⟩ :: ⟨[13, 14, 16], [], [17], [(.slot 47)]⟩ :: ⟨[8, 13, 17], [], [18], [(.slot 48)]⟩ :: ⟨[8, 18], [], [19], [(.slot 49)]⟩ :: ⟨[19], [], [20], [(.slot 50)]⟩ :: ⟨[20, 4], [], [21], [(.slot 51)]⟩ :: ⟨[20, 21], [], [22], [(.slot 52)]⟩ :: ⟨[20, 22], [], [23], [(.slot 53)]⟩ :: ⟨[20, 23], [], [24], [(.slot 54)]⟩ :: ⟨[24], [], [25], [(.slot 55)]⟩ :: ⟨[24], [], [26], [(.slot 56)]⟩ :: ⟨[24], [], [27], [(.slot 57)]⟩ :: ⟨[20, 24], [], [28], [(.slot 58)]⟩ :: ⟨[20, 28], [], [29], [(.slot 59)]⟩ :: [])) (es' := [(_, _), (_, _), (_, _), (_, _), (_, _), (_, _), (59, .v (.bool false))]) (by kernel_rfl) rfl rfl
           ⟨st_plain rfl (op_move _ _ _ _ rfl rfl),
           st_plain rfl (op_bin _ _ _ _ _ rfl rfl rfl),
           st_plain rfl (op_move _ _ _ _ (congrArg (fun b => AV.v (Value.bool b)) hg8_2) rfl),
           st_run 2 38 false rfl rfl rfl (List.Mem.head _) (op_fieldAddr _ _ _ _ 5 0 _ Try.underlying24 rfl sz22 rfl rfl (by decide)),
           st_run 2 38 false rfl rfl rfl (List.Mem.head _) (op_load _ _ _ _ _ _ Try.underlying22 rfl rfl rfl (Nat.le_of_ble_eq_true rfl) rfl rfl rfl),
           st_run 2 38 false rfl rfl rfl (List.Mem.head _) (op_len_fl _ _ _ Try.underlying22 rfl (by decide) (map_len _)),
           st_run 2 38 false rfl rfl rfl (List.Mem.head _) (op_bin _ _ _ _ _ rfl rfl rfl),
           st_run 2 38 false rfl rfl rfl (List.Mem.head _) (op_move _ _ _ _ (congrArg (fun b => AV.v (Value.bool b)) hg8_7) rfl),
           st_run 7 43 true rfl rfl rfl (List.Mem.head _) (op_move _ _ _ _ rfl rfl),
           st_run 7 43 true rfl rfl rfl (List.Mem.head _) (op_fieldAddr _ _ _ _ 5 0 _ Try.underlying24 rfl sz3 rfl rfl (by decide)),
           st_run 7 43 true rfl rfl rfl (List.Mem.head _) (op_load _ _ _ _ _ _ Try.underlying3 rfl rfl rfl (Nat.le_of_ble_eq_true rfl) rfl rfl rfl),
           st_run 7 43 true rfl rfl rfl (List.Mem.head _) (op_bin _ _ _ _ _ rfl rfl rfl),
           st_run 2 38 false rfl rfl rfl (List.Mem.head _) (op_pick _ _ true _ rfl rfl),
           st_plain rfl (op_pick _ _ false _ rfl rfl),
           st_plain rfl (op_move _ _ _ _ (congrArg (fun b => AV.v (Value.bool b)) hg8_14) rfl),
           st_run 14 50 false rfl rfl rfl (List.Mem.head _) (op_move _ _ _ _ rfl rfl),
           st_run 14 50 false rfl rfl rfl (List.Mem.head _) (op_chr _ _ _ 3 _ Try.underlying9 rfl rfl hv12),
           st_run 14 50 false rfl rfl rfl (List.Mem.head _) (op_bin _ _ _ _ _ rfl rfl rfl),
           st_run 14 50 false rfl rfl rfl (List.Mem.head _) (op_move _ _ _ _ (congrArg (fun b => AV.v (Value.bool b)) hg8_18) rfl),
           st_skip 18 54 _ true rfl rfl rfl rfl (List.Mem.head _),
           st_skip 18 54 _ true rfl rfl rfl rfl (List.Mem.head _),
           st_skip 18 54 _ true rfl rfl rfl rfl (List.Mem.head _),
           st_run 14 50 false rfl rfl rfl (List.Mem.head _) (op_pick _ _ false _ rfl rfl),
           st_plain rfl (op_pick _ _ false _ rfl rfl),
           trivial⟩ ?_
          exact hl71 _ (Option.some.inj h).symm
       ·obtain ⟨v14, hv14, h⟩ := bind_some h
        refine cond_some h (fun hg8_18 h => ?_) (fun hg8_18 h => ?_)
        ·obtain ⟨v15, hv15, h⟩ := bind_some h
         refine ht_seqR hn (El := (_ :: _ :: _ :: _ :: _ :: _ :: (36, .v (.int .i64 v11)) :: (37, .v (.bool ((decide (v11 < 0))))) :: (38, .v (.bool false)) :: (39, .ptr 5 1) :: (40, .same (.cell 5 1)) :: (41, .v (.int .i64 (s44.length : Int))) :: (42, .v (.bool ((decide (0 < (s44.length : Int)))))) :: (43, .v (.bool false)) :: (44, .v undef) :: (45, .v undef) :: (46, .v undef) :: (47, .v undef) :: (48, .v (.bool false)) :: (49, .v (.bool false)) :: (50, .v (.bool false)) :: (51, .v (.string v9)) :: (52, .v (.int .u8 v14)) :: (53, .v (.bool (v14 != 45))) :: (54, .v (.bool true)) :: (55, .v (.string v9)) :: (56, .v (.int .u8 v15)) :: (57, .v (.bool (v15 != 32))) :: (58, .v (.bool (v15 != 32))) :: (59, .v (.bool (v15 != 32))) :: [])) (init := [0, 1, 2, 3, 4, 5]) (fin := [0, 1, 2, 3, 4, 5, 29]) (sps := (⟨[5], [], [6], [(.slot 36)]⟩ :: ⟨[6], [], [7], [(.slot 37)]⟩ :: ⟨[7], [], [8], [(.slot 38)]⟩ :: ⟨[8, 2], [], [9], [(.slot 39)]⟩ :: ⟨[8, 9, 2], [], [10], [(.slot 40)]⟩ :: ⟨[8, 10, 2], [], [11], [(.slot 41)]⟩ :: ⟨[8, 11], [], [12], [(.slot 42)]⟩ :: ⟨[8, 12], [], [13], [(.slot 43)]⟩ :: ⟨[13], [], [14], [(.slot 44)]⟩ :: ⟨[13], [], [15], [(.slot 45)]⟩ :: ⟨[13], [], [16], [(.slot 46)]⟩ :: ⟨[13], [], [17], [(.slot 47)]⟩ :: ⟨[8, 13], [], [18], [(.slot 48)]⟩ :: ⟨[8, 18], [], [19], [(.slot 49)]⟩ :: ⟨[19], [], [20], [(.slot 50)]⟩ :: ⟨[20, 4], [], [21], [(.slot 51)]⟩ :: ⟨[20, 21], [], [22], [(.slot 52)]⟩ :: ⟨[20, 22], [], [23], [(.slot 53)]⟩ :: ⟨[20, 23], [], [24], [(.slot 54)]⟩ :: ⟨[24, 4], [], [25], [(.slot 55)]⟩ :: ⟨[24, 25], [], [26], [(.slot 56)]⟩ :: ⟨[24, 26], [], [27], [(.slot 57)]⟩ :: ⟨[20, 24, 27], [], [28], [(.slot 58)]⟩ :: ⟨[20, 28], [], [29], [(.slot 59)]⟩ :: [])) (es' := [(_, _), (_, _), (_, _), (_, _), (_, _), (_, _), (59, .v (.bool (v15 != 32)))]) (by kernel_rfl) rfl rfl
          ⟨st_plain rfl (op_move _ _ _ _ rfl rfl),
          st_plain rfl (op_bin _ _ _ _ _ rfl rfl rfl),
          st_plain rfl (op_move _ _ _ _ (congrArg (fun b => AV.v (Value.bool b)) hg8_2) rfl),
          st_run 2 38 false rfl rfl rfl (List.Mem.head _) (op_fieldAddr _ _ _ _ 5 0 _ Try.underlying24 rfl sz22 rfl rfl (by decide)),
          st_run 2 38 false rfl rfl rfl (List.Mem.head _) (op_load _ _ _ _ _ _ Try.underlying22 rfl rfl rfl (Nat.le_of_ble_eq_true rfl) rfl rfl rfl),
          st_run 2 38 false rfl rfl rfl (List.Mem.head _) (op_len_fl _ _ _ Try.underlying22 rfl (by decide) (map_len _)),
          st_run 2 38 false rfl rfl rfl (List.Mem.head _) (op_bin _ _ _ _ _ rfl rfl rfl),
          st_run 2 38 false rfl rfl rfl (List.Mem.head _) (op_move _ _ _ _ (congrArg (fun b => AV.v (Value.bool b)) hg8_7) rfl),
          st_skip 7 43 _ true rfl rfl rfl rfl (List.Mem.head _),
          st_skip 7 43 _ true rfl rfl rfl rfl (List.Mem.head _),
          st_skip 7 43 _ true rfl rfl rfl rfl (List.Mem.head _),
          st_skip 7 43 _ true rfl rfl rfl rfl (List.Mem.head _),
          st_run 2 38 false rfl rfl rfl (List.Mem.head _) (op_pick _ _ false _ rfl rfl),
          st_plain rfl (op_pick _ _ false _ rfl rfl),
          st_plain rfl (op_move _ _ _ _ rfl rfl),
          st_run 14 50 false rfl rfl rfl (List.Mem.head _) (op_move _ _ _ _ rfl rfl),
          st_run 14 50 false rfl rfl rfl (List.Mem.head _) (op_chr _ _ _ 3 _ Try.underlying9 rfl rfl hv14),
          st_run 14 50 false rfl rfl rfl (List.Mem.head _) (op_bin _ _ _ _ _ rfl rfl rfl),
          st_run 14 50 false rfl rfl rfl (List.Mem.head _) (op_move _ _ _ _ (congrArg (fun b => AV.v (Value.bool b)) hg8_18) rfl),
          st_run 18 54 true rfl rfl rfl (List.Mem.head _) (op_move _ _ _ _ rfl rfl),
          st_run 18 54 true rfl rfl rfl (List.Mem.head _) (op_chr _ _ _ 3 _ Try.underlying9 rfl rfl hv15),
          st_run 18 54 true rfl rfl rfl (List.Mem.head _) (op_bin _ _ _ _ _ rfl rfl rfl),
          st_run 14 50 false rfl rfl rfl (List.Mem.head _) (op_pick _ _ true _ rfl rfl),
          st_plain rfl (op_pick _ _ false _ rfl rfl),
          trivial⟩ ?_
         exact hl71 _ (Option.some.inj h).symm
        ·refine ht_seqR hn (El := (_ :: _ :: _ :: _ :: _ :: _ :: (36, .v (.int .i64 v11)) :: (37, .v (.bool ((decide (v11 < 0))))) :: (38, .v (.bool false)) :: (39, .ptr 5 1) :: (40, .same (.cell 5 1)) :: (41, .v (.int .i64 (s44.length : Int))) :: (42, .v (.bool ((decide (0 < (s44.length : Int)))))) :: (43, .v (.bool false)) :: (44, .v undef) :: (45, .v undef) :: (46, .v undef) :: (47, .v undef) :: (48, .v (.bool false)) :: (49, .v (.bool false)) :: (50, .v (.bool false)) :: (51, .v (.string v9)) :: (52, .v (.int .u8 v14)) :: (53, .v (.bool (v14 != 45))) :: (54, .v (.bool false)) :: (55, .v undef) :: (56, .v undef) :: (57, .v undef) :: (58, .v (.bool false)) :: (59, .v (.bool false)) :: [])) (init := [0, 1, 2, 3, 4, 5]) (fin := [0, 1, 2, 3, 4, 5, 29]) (sps := (⟨[5], [], [6], [(.slot 36)]⟩ :: ⟨[6], [], [7], [(.slot 37)]⟩ :: ⟨[7], [], [8], [(.slot 38)]⟩ :: ⟨[8, 2], [], [9], [(.slot 39)]⟩ :: ⟨[8, 9, 2], [], [10], [(.slot 40)]⟩ :: ⟨[8, 10, 2], [], [11], [(.slot 41)]⟩ :: ⟨[8, 11], [], [12], [(.slot 42)]⟩ :: ⟨[8, 12], [], [13], [(.slot 43)]⟩ :: ⟨[13], [], [14], [(.slot 44)]⟩ :: ⟨[13], [], [15], [(.slot 45)]⟩ :: ⟨[13], [], [16], [(.slot 46)]⟩ :: ⟨[13], [], [17], [(.slot 47)]⟩ :: ⟨[8, 13], [], [18], [(.slot 48)]⟩ :: ⟨[8, 18], [], [19], [(.slot 49)]⟩ :: ⟨[19], [], [20], [(.slot 50)]⟩ :: ⟨[20, 4], [], [21], [(.slot 51)]⟩ :: ⟨[20, 21], [], [22], [(.slot 52)]⟩ :: ⟨[20, 22], [], [23], [(.slot 53)]⟩ :: ⟨[20, 23], [], [24], [(.slot 54)]⟩ :: ⟨[24], [], [25], [(.slot 55)]⟩ :: ⟨[24], [], [26], [(.slot 56)]⟩ :: ⟨[24], [], [27], [(.slot 57)]⟩ :: ⟨[20, 24], [], [28], [(.slot 58)]⟩ :: ⟨[20, 28], [], [29], [(.slot 59)]⟩ :: [])) (es' := [(_, _), (_, _), (_, _), (_, _), (_, _), (_, _), (59, .v (.bool false))]) (by kernel_rfl) rfl rfl
          ⟨st_plain rfl (op_move _ _ _ _ rfl rfl),
          st_plain rfl (op_bin _ _ _ _ _ rfl rfl rfl),
          st_plain rfl (op_move _ _ _ _ (congrArg (fun b => AV.v (Value.bool b)) hg8_2) rfl),
          st_run 2 38 false rfl rfl rfl (List.Mem.head _) (op_fieldAddr _ _ _ _ 5 0 _ Try.underlying24 rfl sz22 rfl rfl (by decide)),
          st_run 2 38 false rfl rfl rfl (List.Mem.head _) (op_load _ _ _ _ _ _ Try.underlying22 rfl rfl rfl (Nat.le_of_ble_eq_true rfl) rfl rfl rfl),
          st_run 2 38 false rfl rfl rfl (List.Mem.head _) (op_len_fl _ _ _ Try.underlying22 rfl (by decide) (map_len _)),
          st_run 2 38 false rfl rfl rfl (List.Mem.head _) (op_bin _ _ _ _ _ rfl rfl rfl),
          st_run 2 38 false rfl rfl rfl (List.Mem.head _) (op_move _ _ _ _ (congrArg (fun b => AV.v (Value.bool b)) hg8_7) rfl),
          st_skip 7 43 _ true rfl rfl rfl rfl (List.Mem.head _),
          st_skip 7 43 _ true rfl rfl rfl rfl (List.Mem.head _),
          st_skip 7 43 _ true rfl rfl rfl rfl (List.Mem.head _),
          st_skip 7 43 _ true rfl rfl rfl rfl (List.Mem.head _),
          st_run 2 38 false rfl rfl rfl (List.Mem.head _) (op_pick _ _ false _ rfl rfl),
          st_plain rfl (op_pick _ _ false _ rfl rfl),
          st_plain rfl (op_move _ _ _ _ rfl rfl),
          st_run 14 50 false rfl rfl rfl (List.Mem.head _) (op_move _ _ _ _ rfl rfl),
          st_run 14 50 false rfl rfl rfl (List.Mem.head _) (op_chr _ _ _ 3 _ Try.underlying9 rfl rfl hv14),
          st_run 14 50 false rfl rfl rfl (List.Mem.head _) (op_bin _ _ _ _ _ rfl rfl rfl),
          st_run 14 50 false rfl rfl rfl (List.Mem.head _) (op_move _ _ _ _ (congrArg (fun b => AV.v (Value.bool b)) hg8_18) rfl),
          st_skip 18 54 _ true rfl rfl rfl rfl (List.Mem.head _),
          st_skip 18 54 _ true rfl rfl rfl rfl (List.Mem.head _),
          st_skip 18 54 _ true rfl rfl rfl rfl (List.Mem.head _),
          st_run 14 50 false rfl rfl rfl (List.Mem.head _) (op_pick _ _ false _ rfl rfl),
          st_plain rfl (op_pick _ _ false _ rfl rfl),
          trivial⟩ ?_
         exact hl71 _ (Option.some.inj h).symm
   ·intro u65 h hl66 hr67
    refine cond_some h (fun hg4_2 h => ?_) (fun hg4_2 h => ?_)
    ·refine ht_seqR hn (El := (_ :: _ :: _ :: _ :: _ :: (13, .v (.int .i64 v1)) :: (14, .v (.bool ((decide (v1 < 0))))) :: (15, .v (.bool true)) :: (16, .v undef) :: (17, .v undef) :: (18, .v undef) :: (19, .v undef) :: (20, .v (.bool true)) :: (21, .v (.bool true)) :: (22, .v undef) :: (23, .v undef) :: (24, .v undef) :: (25, .v undef) :: (26, .v (.bool true)) :: [])) (init := [0, 1, 2, 3, 4]) (fin := [0, 1, 2, 3, 4, 18]) (sps := [⟨[4], [], [5], [(.slot 13)]⟩, ⟨[5], [], [6], [(.slot 14)]⟩, ⟨[6], [], [7], [(.slot 15)]⟩, ⟨[7], [], [8], [(.slot 16)]⟩, ⟨[7], [], [9], [(.slot 17)]⟩, ⟨[7], [], [10], [(.slot 18)]⟩, ⟨[7], [], [11], [(.slot 19)]⟩, ⟨[7], [], [12], [(.slot 20)]⟩, ⟨[12], [], [13], [(.slot 21)]⟩, ⟨[13], [], [14], [(.slot 22)]⟩, ⟨[13], [], [15], [(.slot 23)]⟩, ⟨[13], [], [16], [(.slot 24)]⟩, ⟨[13], [], [17], [(.slot 25)]⟩, ⟨[13], [], [18], [(.slot 26)]⟩]) (es' := [(_, _), (_, _), (_, _), (_, _), (_, _), (26, .v (.bool true))]) (by kernel_rfl) rfl rfl
      ⟨st_plain rfl (op_move _ _ _ _ rfl rfl),
      st_plain rfl (op_bin _ _ _ _ _ rfl rfl rfl),
      st_plain rfl (op_move _ _ _ _ (congrArg (fun b => AV.v (Value.bool b)) hg4_2) rfl),
      st_skip 2 15 _ false rfl rfl rfl rfl (List.Mem.head _),
      st_skip 2 15 _ false rfl rfl rfl rfl (List.Mem.head _),
      st_skip 2 15 _ false rfl rfl rfl rfl (List.Mem.head _),
      st_skip 2 15 _ false rfl rfl rfl rfl (List.Mem.head _),
      st_plain rfl (op_pick _ _ true _ rfl rfl),
      st_plain rfl (op_move _ _ _ _ rfl rfl),
      st_skip 8 21 _ false rfl rfl rfl rfl (List.Mem.head _),
      st_skip 8 21 _ false rfl rfl rfl rfl (List.Mem.head _),
      st_skip 8 21 _ false rfl rfl rfl rfl (List.Mem.head _),
      st_skip 8 21 _ false rfl rfl rfl rfl (List.Mem.head _),
      st_plain rfl (op_pick _ _ true _ rfl rfl),
      trivial⟩ ?_
     exact hl66 _ (Option.some.inj h).symm
    ·obtain ⟨v2, hv2, h⟩ := bind_some h
     refine cond_some h (fun hg4_8 h => ?_) (fun hg4_8 h => ?_)
     ·refine ht_seqR hn (El := (_ :: _ :: _ :: _ :: _ :: (13, .v (.int .i64 v1)) :: (14, .v (.bool ((decide (v1 < 0))))) :: (15, .v (.bool false)) :: (16, .v (.int .i64 v1)) :: (17, .v (.int .i64 s45)) :: (18, .v (.int .i64 v2)) :: (19, .v (.bool ((decide (v2 < 4))))) :: (20, .v (.bool ((decide (v2 < 4))))) :: (21, .v (.bool true)) :: (22, .v undef) :: (23, .v undef) :: (24, .v undef) :: (25, .v undef) :: (26, .v (.bool true)) :: [])) (init := [0, 1, 2, 3, 4]) (fin := [0, 1, 2, 3, 4, 18]) (sps := [⟨[4], [], [5], [(.slot 13)]⟩, ⟨[5], [], [6], [(.slot 14)]⟩, ⟨[6], [], [7], [(.slot 15)]⟩, ⟨[7, 4], [], [8], [(.slot 16)]⟩, ⟨[7, 3], [], [9], [(.slot 17)]⟩, ⟨[7, 8, 9], [], [10], [(.slot 18)]⟩, ⟨[7, 10], [], [11], [(.slot 19)]⟩, ⟨[7, 11], [], [12], [(.slot 20)]⟩, ⟨[12], [], [13], [(.slot 21)]⟩, ⟨[13], [], [14], [(.slot 22)]⟩, ⟨[13], [], [15], [(.slot 23)]⟩, ⟨[13], [], [16], [(.slot 24)]⟩, ⟨[13], [], [17], [(.slot 25)]⟩, ⟨[13], [], [18], [(.slot 26)]⟩]) (es' := [(_, _), (_, _), (_, _), (_, _), (_, _), (26, .v (.bool true))]) (by kernel_rfl) rfl rfl
       ⟨st_plain rfl (op_move _ _ _ _ rfl rfl),
       st_plain rfl (op_bin _ _ _ _ _ rfl rfl rfl),
       st_plain rfl (op_move _ _ _ _ (congrArg (fun b => AV.v (Value.bool b)) hg4_2) rfl),
       st_run 2 15 false rfl rfl rfl (List.Mem.head _) (op_move _ _ _ _ rfl rfl),
       st_run 2 15 false rfl rfl rfl (List.Mem.head _) (op_move _ _ _ _ rfl rfl),
       st_run 2 15 false rfl rfl rfl (List.Mem.head _) (op_bin _ _ _ _ _ rfl rfl (ibind (f := Value.int .i64) (Option.some.inj hv2))),
       st_run 2 15 false rfl rfl rfl (List.Mem.head _) (op_bin _ _ _ _ _ rfl rfl rfl),
       st_plain rfl (op_pick _ _ false _ rfl rfl),
       st_plain rfl (op_move _ _ _ _ (congrArg (fun b => AV.v (Value.bool b)) hg4_8) rfl),
       st_skip 8 21 _ false rfl rfl rfl rfl (List.Mem.head _),
       st_skip 8 21 _ false rfl rfl rfl rfl (List.Mem.head _),
       st_skip 8 21 _ false rfl rfl rfl rfl (List.Mem.head _),
       st_skip 8 21 _ false rfl rfl rfl rfl (List.Mem.head _),
       st_plain rfl (op_pick _ _ true _ rfl rfl),
       trivial⟩ ?_
      exact hl66 _ (Option.some.inj h).symm
     ·refine ht_seqR hn (El := (_ :: _ :: _ :: _ :: _ :: (13, .v (.int .i64 v1)) :: (14, .v (.bool ((decide (v1 < 0))))) :: (15, .v (.bool false)) :: (16, .v (.int .i64 v1)) :: (17, .v (.int .i64 s45)) :: (18, .v (.int .i64 v2)) :: (19, .v (.bool ((decide (v2 < 4))))) :: (20, .v (.bool ((decide (v2 < 4))))) :: (21, .v (.bool false)) :: (22, .ptr 5 1) :: (23, .same (.cell 5 1)) :: (24, .v (.int .i64 (s44.length : Int))) :: (25, .v (.bool ((decide (20 ≤ (s44.length : Int)))))) :: (26, .v (.bool ((decide (20 ≤ (s44.length : Int)))))) :: [])) (init := [0, 1, 2, 3, 4]) (fin := [0, 1, 2, 3, 4, 18]) (sps := [⟨[4], [], [5], [(.slot 13)]⟩, ⟨[5], [], [6], [(.slot 14)]⟩, ⟨[6], [], [7], [(.slot 15)]⟩, ⟨[7, 4], [], [8], [(.slot 16)]⟩, ⟨[7, 3], [], [9], [(.slot 17)]⟩, ⟨[7, 8, 9], [], [10], [(.slot 18)]⟩, ⟨[7, 10], [], [11], [(.slot 19)]⟩, ⟨[7, 11], [], [12], [(.slot 20)]⟩, ⟨[12], [], [13], [(.slot 21)]⟩, ⟨[13, 2], [], [14], [(.slot 22)]⟩, ⟨[13, 14, 2], [], [15], [(.slot 23)]⟩, ⟨[13, 15, 2], [], [16], [(.slot 24)]⟩, ⟨[13, 16], [], [17], [(.slot 25)]⟩, ⟨[13, 17], [], [18], [(.slot 26)]⟩]) (es' := [(_, _), (_, _), (_, _), (_, _), (_, _), (26, .v (.bool ((decide (20 ≤ (s44.length : Int))))))]) (by kernel_rfl) rfl rfl
       ⟨st_plain rfl (op_move _ _ _ _ rfl rfl),
       st_plain rfl (op_bin _ _ _ _ _ rfl rfl rfl),
       st_plain rfl (op_move _ _ _ _ (congrArg (fun b => AV.v (Value.bool b)) hg4_2) rfl),
       st_run 2 15 false rfl rfl rfl (List.Mem.head _) (op_move _ _ _ _ rfl rfl),
       st_run 2 15 false rfl rfl rfl (List.Mem.head _) (op_move _ _ _ _ rfl rfl),
       st_run 2 15 false rfl rfl rfl (List.Mem.head _) (op_bin _ _ _ _ _ rfl rfl (ibind (f := Value.int .i64) (Option.some.inj hv2))),
       st_run 2 15 false rfl rfl rfl (List.Mem.head _) (op_bin _ _ _ _ _ rfl rfl rfl),
       st_plain rfl (op_pick _ _ false _ rfl rfl),
       st_plain rfl (op_move _ _ _ _ (congrArg (fun b => AV.v (Value.bool b)) hg4_8) rfl),
       st_run 8 21 false rfl rfl rfl (List.Mem.head _) (op_fieldAddr _ _ _ _ 5 0 _ Try.underlying24 rfl sz22 rfl rfl (by decide)),
       st_run 8 21 false rfl rfl rfl (List.Mem.head _) (op_load _ _ _ _ _ _ Try.underlying22 rfl rfl rfl (Nat.le_of_ble_eq_true rfl) rfl rfl rfl),
       st_run 8 21 false rfl rfl rfl (List.Mem.head _) (op_len_fl _ _ _ Try.underlying22 rfl (by decide) (map_len _)),
       st_run 8 21 false rfl rfl rfl (List.Mem.head _) (op_bin _ _ _ _ _ rfl rfl rfl),
       st_plain rfl (op_pick _ _ false _ rfl rfl),
       trivial⟩ ?_
      exact hl66 _ (Option.some.inj h).symm

set_option maxHeartbeats 1000000 in
theorem ok_wherryref11_ReplyBytes (p_r : T_Reply) (r : (List Int)) (h : Sh.wherryref11_ReplyBytes p_r = some r) : FnOK Try.prog 16 [.agg [.v (.int .i64 p_r.Code), .fl .shr 1 (List.map Value.string p_r.Lines)]] (.fl .ro 1 (List.map (Value.int .u8) r)) := by
  unfold Sh.wherryref11_ReplyBytes at h
  refine fn_ok Try.func16 rfl (Nat.le_of_ble_eq_true rfl) rfl rfl fun g0 hn hio => ?_
  refine ht_seq ?_
  refine ht_seqR hn (El := [_, (1, .box 24 [.v (.int .i64 p_r.Code), .fl .shr 1 (List.map Value.string p_r.Lines)]), (2, .v (.slice none 0 0))]) (init := [0]) (fin := [1]) (sps := [⟨[0], [], [1], [(.slot 1)]⟩, ⟨[], [], [2], [(.slot 2)]⟩]) (es' := [(1, .box 24 [.v (.int .i64 p_r.Code), .fl .shr 1 (List.map Value.string p_r.Lines)])]) (by kernel_rfl) rfl rfl
   ⟨st_plain rfl (op_box _ _ _ _ rfl rfl rfl),
   st_plain rfl (op_assign _ _ _ _ rfl rfl),
   trivial⟩ ?_
  refine pt_then ?_
  refine ht_seq ?_
  refine ht_seqR hn (El := [_, (3, .v (.string (⟨#[]⟩ : ByteArray)))]) (init := [0]) (fin := [0, 1]) (sps := [⟨[], [], [1], [(.slot 3)]⟩]) (es' := [(_, _), (3, .v (.string (⟨#[]⟩ : ByteArray)))]) (by kernel_rfl) rfl rfl
   ⟨st_plain rfl (op_assign _ _ _ _ rfl rfl),
   trivial⟩ ?_
  refine pt_then ?_
  refine ht_seq ?_
  refine ht_seq ?_
  refine ht_seqR hn (El := [_, _, (4, .v (.int .i64 0))]) (init := [0, 1]) (fin := [0, 1, 2]) (sps := [⟨[], [], [2], [(.slot 4)]⟩]) (es' := [(_, _), (_, _), (4, .v (.int .i64 0))]) (by kernel_rfl) rfl rfl
   ⟨st_plain rfl (op_assign _ _ _ _ rfl rfl),
   trivial⟩ ?_
  refine pt_then ?_
  refine ht_loopS h (fun ((s66, s67) : ByteArray × Int) => [(1, .box 24 [.v (.int .i64 p_r.Code), .fl .shr 1 (List.map Value.string p_r.Lines)]), (3, .v (.string s66)), (4, .v (.int .i64 s67))]) (fun (s75 : ByteArray) => [(3, .v (.string s75))]) ?_ ?_
  ·rintro s75 h
   refine pt_then ?_
   refine ht_seq ?_
   obtain ⟨v49, hv49, h⟩ := bind_some h
   refine ht_seqR hn (El := [_, (33, .v (.string s75)), (34, .fl .ro 1 (List.map (Value.int .u8) v49)), (2, .fl .ro 1 (List.map (Value.int .u8) v49))]) (init := [0]) (fin := [3]) (sps := [⟨[0], [], [1], [(.slot 33)]⟩, ⟨[1], [], [2], [(.slot 34)]⟩, ⟨[2], [], [3], [(.slot 2)]⟩]) (es' := [(2, .fl .ro 1 (List.map (Value.int .u8) v49))]) (by kernel_rfl) rfl rfl
    ⟨st_plain rfl (op_move _ _ _ _ rfl rfl),
    st_plain rfl ((Option.some.inj hv49) ▸ op_str_bytes _ _ _ s75 Try.underlying9 Try.underlying25 Try.underlying5 rfl),
    st_plain rfl (op_assign _ _ _ _ rfl rfl),
    trivial⟩ ?_
   refine pt_then ?_
   refine ht_ret ?_
   obtain rfl := Option.some.inj h
   exact pt_ret hio rfl (.tmp _ _ .nil) rfl rfl
  ·rintro u76 hl77 hr78 ⟨s66, s67⟩ rr81 h ho79
   refine ht_seq ?_
   refine ht_seq ?_
   refine ht_seqR hn (El := [_, _, _, (6, .v (.int .i64 s67)), (7, .ptr 1 1), (8, .fl .shr 1 (List.map Value.string p_r.Lines)), (9, .v (.int .i64 (p_r.Lines.length : Int))), (10, .v (.bool ((decide (s67 < (p_r.Lines.length : Int))))))]) (init := [0, 1, 2]) (fin := [0, 1, 2, 7]) (sps := [⟨[2], [], [3], [(.slot 6)]⟩, ⟨[0], [], [4], [(.slot 7)]⟩, ⟨[4, 0], [], [5], [(.slot 8)]⟩, ⟨[5], [], [6], [(.slot 9)]⟩, ⟨[3, 6], [], [7], [(.slot 10)]⟩]) (es' := [(_, _), (_, _), (_, _), (10, .v (.bool ((decide (s67 < (p_r.Lines.length : Int))))))]) (by kernel_rfl) rfl rfl
    ⟨st_plain rfl (op_move _ _ _ _ rfl rfl),
    st_plain rfl (op_fieldAddr _ _ _ _ 1 0 _ Try.underlying24 rfl sz22 rfl rfl (by decide)),
    st_plain rfl (op_load _ _ _ _ _ _ Try.underlying22 rfl rfl rfl (Nat.le_of_ble_eq_true rfl) rfl rfl rfl),
    st_plain rfl (op_len_fl _ _ _ Try.underlying22 rfl (by decide) (map_len _)),
    st_plain rfl (op_bin _ _ _ _ _ rfl rfl rfl),
    trivial⟩ ?_
   refine pt_then ?_
   refine ht_cond _ rfl (fun hb82 => ?_) (fun hb82 => ?_)
   ·have h := cond_t hb82 h
    refine ht_skip ?_
    refine pt_then ?_
    refine ht_seq ?_
    refine ht_block ?_
    refine ht_seq ?_
    refine ht_seqR hn (El := [_, _, _, _, (5, .v (.string (⟨#[45]⟩ : ByteArray)))]) (init := [0, 1, 2, 3]) (fin := [0, 1, 2, 4]) (sps := [⟨[], [], [4], [(.slot 5)]⟩]) (es' := [(_, _), (_, _), (_, _), (5, .v (.string (⟨#[45]⟩ : ByteArray)))]) (by kernel_rfl) rfl rfl
     ⟨st_plain rfl (op_assign _ _ _ _ rfl rfl),
     trivial⟩ ?_
    refine pt_then ?_
    refine ht_seq ?_
    refine ht_joinS h (fun (s84 : ByteArray) => [(1, .box 24 [.v (.int .i64 p_r.Code), .fl .shr 1 (List.map Value.string p_r.Lines)]), (3, .v (.string s66)), (4, .v (.int .i64 s67)), (5, .v (.string s84))]) ?_ ?_
    ·rintro s84 h
     refine pt_then ?_
     obtain ⟨v9, hv9, h⟩ := bind_some h
     obtain ⟨v10, hv10, h⟩ := bind_some h
     obtain ⟨v11, hv11, h⟩ := bind_some h
     obtain ⟨v12, hv12, h⟩ := bind_some h
     obtain ⟨v13, hv13, h⟩ := bind_some h
     obtain ⟨v14, hv14, h⟩ := bind_some h
     obtain ⟨v15, hv15, h⟩ := bind_some h
     refine ht_anyR (by kernel_rfl) hn (El := (_ :: _ :: _ :: _ :: (19, .v (.string s66)) :: (20, .ptr 1 0) :: (21, .v (.int .i64 p_r.Code)) :: (22, .v (.string v9)) :: (23, .v (.string v10)) :: (24, .v (.string s84)) :: (25, .v (.string v11)) :: (26, .ptr 1 1) :: (27, .fl .shr 1 (List.map Value.string p_r.Lines)) :: (28, .v (.int .i64 s67)) :: (29, .eref (.slot 27) (v12 * 1)) :: (30, .v (.string v13)) :: (31, .v (.string v14)) :: (32, .v (.string v15)) :: (3, .v (.string v15)) :: [])) (init := [0, 1, 2, 3]) (fin := [0, 2, 18]) (sps := (⟨[1], [], [4], [(.slot 19)]⟩ :: ⟨[0], [], [5], [(.slot 20)]⟩ :: ⟨[5, 0], [], [6], [(.slot 21)]⟩ :: ⟨[6], [], [7], [(.slot 22)]⟩ :: ⟨[4, 7], [], [8], [(.slot 23)]⟩ :: ⟨[3], [], [9], [(.slot 24)]⟩ :: ⟨[8, 9], [], [10], [(.slot 25)]⟩ :: ⟨[0], [], [11], [(.slot 26)]⟩ :: ⟨[11, 0], [], [12], [(.slot 27)]⟩ :: ⟨[2], [], [13], [(.slot 28)]⟩ :: ⟨[12, 13], [], [14], [(.slot 29)]⟩ :: ⟨[14, 12], [], [15], [(.slot 30)]⟩ :: ⟨[10, 15], [], [16], [(.slot 31)]⟩ :: ⟨[16], [], [17], [(.slot 32)]⟩ :: ⟨[17], [1], [18], [(.slot 3)]⟩ :: [])) (es' := [(_, _), (_, _), (3, .v (.string v15))]) (by kernel_rfl) rfl rfl
      ⟨st_plain rfl (op_move _ _ _ _ rfl rfl),
      st_plain rfl (op_fieldAddr _ _ _ _ 1 0 _ Try.underlying24 rfl sz3 rfl rfl (by decide)),
      st_plain rfl (op_load _ _ _ _ _ _ Try.underlying3 rfl rfl rfl (Nat.le_of_ble_eq_true rfl) rfl rfl rfl),
      st_plain rfl (op_call _ _ 20 _ _ rfl Try.call20 rfl (ok_wherryref11_Digits p_r.Code _ hv9) rfl rfl),
      st_plain rfl (op_bin _ _ _ _ _ rfl rfl (cat_ok hv10)),
      st_plain rfl (op_move _ _ _ _ rfl rfl),
      st_plain rfl (op_bin _ _ _ _ _ rfl rfl (cat_ok hv11)),
      st_plain rfl (op_fieldAddr _ _ _ _ 1 0 _ Try.underlying24 rfl sz22 rfl rfl (by decide)),
      st_plain rfl (op_load _ _ _ _ _ _ Try.underlying22 rfl rfl rfl (Nat.le_of_ble_eq_true rfl) rfl rfl rfl),
      st_plain rfl (op_move _ _ _ _ rfl rfl),
      st_plain rfl (op_ix _ _ _ _ _ _ _ _ Try.underlying22 sz9 (by decide) rfl rfl rfl (ix_ok hv12).1 (map_lt (ix_ok hv12).2) rfl),
      st_plain rfl (op_load_e _ _ _ _ _ _ Try.underlying9 rfl rfl rfl (map_get hv13)),
      st_plain rfl (op_bin _ _ _ _ _ rfl rfl (cat_ok hv14)),
      st_plain rfl (op_bin _ _ _ _ _ rfl rfl (cat_ok hv15)),
      st_plain rfl (LOp.drop [_] (op_assign _ _ _ _ rfl rfl)),
      trivial⟩ ?_
     refine pt_inb ?_
     refine pt_then ?_
     obtain ⟨v16, hv16, h⟩ := bind_some h
     refine ht_seqR hn (El := [_, _, _, (11, .v (.int .i64 s67)), (12, .v (.int .i64 v16)), (4, .v (.int .i64 v16))]) (init := [0, 1, 2]) (fin := [0, 2, 5]) (sps := [⟨[1], [], [3], [(.slot 11)]⟩, ⟨[3], [], [4], [(.slot 12)]⟩, ⟨[4], [1], [5], [(.slot 4)]⟩]) (es' := [(_, _), (_, _), (4, .v (.int .i64 v16))]) (by kernel_rfl) rfl rfl
      ⟨st_plain rfl (op_move _ _ _ _ rfl rfl),
      st_plain rfl (op_bin _ _ _ _ _ rfl rfl (ibind (f := Value.int .i64) (Option.some.inj hv16))),
      st_plain rfl (LOp.drop [_] (op_assign _ _ _ _ rfl rfl)),
      trivial⟩ ?_
     exact pt_next _ (Option.some.inj h).symm rfl
    ·intro u85 h hl86 hr87
     refine ht_seq ?_
     obtain ⟨v2, hv2, h⟩ := bind_some h
     refine ht_seqR hn (El := [_, _, _, _, (13, .v (.int .i64 s67)), (14, .ptr 1 1), (15, .fl .shr 1 (List.map Value.string p_r.Lines)), (16, .v (.int .i64 (p_r.Lines.length : Int))), (17, .v (.int .i64 v2)), (18, .v (.bool (s67 == v2)))]) (init := [0, 1, 2, 3]) (fin := [0, 1, 2, 3, 9]) (sps := [⟨[2], [], [4], [(.slot 13)]⟩, ⟨[0], [], [5], [(.slot 14)]⟩, ⟨[5, 0], [], [6], [(.slot 15)]⟩, ⟨[6], [], [7], [(.slot 16)]⟩, ⟨[7], [], [8], [(.slot 17)]⟩, ⟨[4, 8], [], [9], [(.slot 18)]⟩]) (es' := [(_, _), (_, _), (_, _), (_, _), (18, .v (.bool (s67 == v2)))]) (by kernel_rfl) rfl rfl
      ⟨st_plain rfl (op_move _ _ _ _ rfl rfl),
      st_plain rfl (op_fieldAddr _ _ _ _ 1 0 _ Try.underlying24 rfl sz22 rfl rfl (by decide)),
      st_plain rfl (op_load _ _ _ _ _ _ Try.underlying22 rfl rfl rfl (Nat.le_of_ble_eq_true rfl) rfl rfl rfl),
      st_plain rfl (op_len_fl _ _ _ Try.underlying22 rfl (by decide) (map_len _)),
      st_plain rfl (op_bin _ _ _ _ _ rfl rfl (ibind (f := Value.int .i64) (Option.some.inj hv2))),
      st_plain rfl (op_bin _ _ _ _ _ rfl rfl rfl),
      trivial⟩ ?_
     refine pt_then ?_
     refine ht_cond _ rfl (fun hb88 => ?_) (fun hb88 => ?_)
     ·have h := cond_t hb88 h
      refine ht_seqR hn (El := [_, _, _, _, _, (5, .v (.string (⟨#[32]⟩ : ByteArray)))]) (init := [0, 1, 2, 3, 4]) (fin := [0, 1, 2, 5]) (sps := [⟨[], [3], [5], [(.slot 5)]⟩]) (es' := [(_, _), (_, _), (_, _), (5, .v (.string (⟨#[32]⟩ : ByteArray)))]) (by kernel_rfl) rfl rfl
       ⟨st_plain rfl (LOp.drop [_] (op_assign _ _ _ _ rfl rfl)),
       trivial⟩ ?_
      exact hl86 _ (Option.some.inj h).symm
     ·have h := cond_f hb88 h
      refine ht_skip ?_
      refine pt_pick [0, 1, 2, 3] (by kernel_rfl) (es' := [(_, _), (_, _), (_, _), (_, _)]) rfl ?_
      exact hl86 _ (Option.some.inj h).symm
   ·have h := cond_f hb82 h
    refine ht_exit ?_
    refine pt_x_then ?_
    refine pt_x_then ?_
    refine pt_x_in ?_
    refine pt_pick [1] (by kernel_rfl) (es' := [(_, _)]) rfl ?_
    exact hl77 _ (ho79 _ (Option.some.inj h).symm).symm

end Go.Proofs.Ytegjndibgnnpcaa
