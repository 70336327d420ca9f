/-
  The model's runs are what is told in Lean.
-/
import Derived.Test.YtadkeipbkbkneaaDoorProg
import Derived.KernelRfl
import Derived.Test.YtadkeipbkbkneaaDoorShelf
import Derived.Test.YtadkeipbkbkneaaDoorOkc1
set_option linter.unusedVariables false
set_option linter.unusedSimpArgs false
namespace Go.Proofs.YtadkeipbkbkneaaDoor
open Go.Abs Go.Abs.Sh

set_option maxHeartbeats 1000000 in
theorem ok_strings_TrimRight (mx : Int) (s : ByteArray) (cutset : ByteArray) (r : ByteArray) (h : Sh.strings_TrimRight s cutset = some r) : FnG Tryd.prog (GL mx) 23 [.v (.string s), .v (.string cutset)] (.v (.string r)) := by
  unfold Sh.strings_TrimRight at h
  refine fn_okG Tryd.func23 rfl (Nat.le_of_ble_eq_true rfl) rfl rfl fun g0 hn hio => ?_
  refine ht_seq ?_
  refine ht_seqR hn (El := [_, _, _, (4, .v (.string (⟨#[]⟩ : ByteArray)))]) (init := [0, 1, 2]) (fin := [0, 1, 2]) (sps := [⟨[], [], [3], [(.slot 4)]⟩]) (es' := [(_, _), (_, _), (_, _)]) (by kernel_rfl) rfl rfl
   ⟨st_plain rfl (op_assign _ _ _ _ rfl rfl),
   trivial⟩ ?_
  refine pt_then ?_
  refine ht_seq ?_
  refine ht_seq ?_
  refine ht_joinS h (fun (s1 : Bool) => [(0, .v (.string s)), (1, .v (.string cutset)), (37, .glob (GL mx)), (12, .v (.bool s1))]) ?_ ?_
  ·rintro s1 h
   refine pt_then ?_
   refine ht_cond _ rfl (fun hb5 => ?_) (fun hb5 => ?_)
   ·have h := cond_t hb5 h
    refine ht_seq ?_
    refine ht_seqR hn (El := [_, _, _, _, (13, .v (.string s)), (4, .v (.string s))]) (init := [0, 1, 2, 3]) (fin := [2, 5]) (sps := [⟨[0], [], [4], [(.slot 13)]⟩, ⟨[4], [], [5], [(.slot 4)]⟩]) (es' := [(_, _), (4, .v (.string s))]) (by kernel_rfl) rfl rfl
     ⟨st_plain rfl (op_move _ _ _ _ rfl rfl),
     st_plain rfl (op_assign _ _ _ _ rfl rfl),
     trivial⟩ ?_
    refine pt_then ?_
    refine ht_ret ?_
    refine pt_pick [1] (by kernel_rfl) (es' := [(_, _)]) rfl ?_
    refine pt_r_then ?_
    obtain rfl := Option.some.inj h
    exact pt_ret hio rfl (.tmp _ _ .nil) rfl rfl
   ·have h := cond_f hb5 h
    refine ht_skip ?_
    refine pt_then ?_
    refine ht_seq ?_
    refine ht_seq ?_
    refine ht_joinS h (fun (s7 : Bool) => [(0, .v (.string s)), (1, .v (.string cutset)), (37, .glob (GL mx)), (21, .v (.bool s7))]) ?_ ?_
    ·rintro s7 h
     refine pt_then ?_
     refine ht_cond _ rfl (fun hb11 => ?_) (fun hb11 => ?_)
     ·have h := cond_t hb11 h
      refine ht_seq ?_
      obtain ⟨v12, hv12, h⟩ := bind_some h
      obtain ⟨v13, hv13, h⟩ := bind_some h
      refine ht_seqR hn (El := [_, _, _, _, (22, .v (.string s)), (23, .v (.string cutset)), (24, .v (.int .u8 v12)), (25, .v (.string v13)), (4, .v (.string v13))]) (init := [0, 1, 2, 3]) (fin := [2, 8]) (sps := [⟨[0], [], [4], [(.slot 22)]⟩, ⟨[1], [], [5], [(.slot 23)]⟩, ⟨[5], [], [6], [(.slot 24)]⟩, ⟨[4, 6], [], [7], [(.slot 25)]⟩, ⟨[7], [], [8], [(.slot 4)]⟩]) (es' := [(_, _), (4, .v (.string v13))]) (by kernel_rfl) rfl rfl
       ⟨st_plain rfl (op_move _ _ _ _ rfl rfl),
       st_plain rfl (op_move _ _ _ _ rfl rfl),
       st_plain rfl (op_chr _ _ _ 0 _ Tryd.underlying9 rfl rfl hv12),
       st_plain rfl (op_call _ _ 33 _ _ rfl Tryd.call33 rfl (ok_strings_trimRightByte s v12 _ hv13) rfl rfl),
       st_plain rfl (op_assign _ _ _ _ rfl rfl),
       trivial⟩ ?_
      refine pt_then ?_
      refine ht_ret ?_
      refine pt_pick [1] (by kernel_rfl) (es' := [(_, _)]) rfl ?_
      refine pt_r_then ?_
      obtain rfl := Option.some.inj h
      exact pt_ret hio rfl (.tmp _ _ .nil) rfl rfl
     ·have h := cond_f hb11 h
      refine ht_skip ?_
      refine pt_then ?_
      refine ht_seq ?_
      refine ht_seq ?_
      obtain ⟨v14, hv14, h⟩ := bind_some h
      obtain ⟨v15, hv15, h⟩ := bind_some h
      obtain ⟨v16, hv16, h⟩ := bind_some h
      refine ht_seqR hn (El := [_, _, _, _, (27, .v (.string cutset)), (28, .tup [.v (.agg (List.map Value.bool v14.1).toArray), .v (.bool v14.2)]), (26, .tup [.v (.agg (List.map Value.bool v14.1).toArray), .v (.bool v14.2)]), (29, .v (.agg (List.map Value.bool v14.1).toArray)), (30, .v (.bool v14.2)), (5, .arr 62 (List.map Value.bool (List.replicate 256 false))), (5, .arr 62 (List.map Value.bool v14.1)), (6, .v (.bool v14.2))]) (init := [0, 1, 2, 3]) (fin := [0, 1, 2, 10, 11]) (sps := [⟨[1], [], [4], [(.slot 27)]⟩, ⟨[4], [], [5], [(.slot 28)]⟩, ⟨[], [5], [6], [(.slot 26)]⟩, ⟨[6], [], [7], [(.slot 29)]⟩, ⟨[6], [], [8], [(.slot 30)]⟩, ⟨[], [], [9], [(.slot 5)]⟩, ⟨[7], [9], [10], []⟩, ⟨[8], [], [11], [(.slot 6)]⟩]) (es' := [(_, _), (_, _), (_, _), (5, .arr 62 (List.map Value.bool v14.1)), (6, .v (.bool v14.2))]) (by kernel_rfl) rfl rfl
       ⟨st_plain rfl (op_move _ _ _ _ rfl rfl),
       st_plain rfl (op_call _ _ 34 _ _ rfl Tryd.call34 rfl (ok_strings_makeASCIISet cutset _ hv14) rfl rfl),
       st_plain rfl (op_move_take _ _ _ _ rfl),
       st_plain rfl (op_extract _ _ _ _ _ rfl rfl (Nat.le_of_ble_eq_true rfl) rfl rfl),
       st_plain rfl (op_extract _ _ _ _ _ rfl rfl (Nat.le_of_ble_eq_true rfl) rfl rfl),
       st_plain rfl (op_alloc_arr _ za62),
       st_plain rfl (op_storeA_arr _ _ _ _ (sz62.trans (congrArg some (ln_len hv16))) rfl rfl (ln_ones (fun _ => rfl) _) ((ln_len (f := Value.bool) hv15).symm.trans (ln_len (f := Value.bool) hv16))),
       st_plain rfl (op_assign _ _ _ _ rfl rfl),
       trivial⟩ ?_
      refine pt_then ?_
      refine ht_seq ?_
      refine ht_seqR hn (El := [_, _, _, _, _, (31, .v (.bool v14.2))]) (init := [0, 1, 2, 3, 4]) (fin := [0, 1, 2, 3, 5]) (sps := [⟨[4], [], [5], [(.slot 31)]⟩]) (es' := [(_, _), (_, _), (_, _), (_, _), (31, .v (.bool v14.2))]) (by kernel_rfl) rfl rfl
       ⟨st_plain rfl (op_move _ _ _ _ rfl rfl),
       trivial⟩ ?_
      refine pt_then ?_
      refine ht_cond _ rfl (fun hb17 => ?_) (fun hb17 => ?_)
      ·have h := cond_t hb17 h
       cases h
      ·have h := cond_f hb17 h
       refine ht_skip ?_
       refine pt_then ?_
       refine ht_seq ?_
       obtain ⟨v18, hv18, h⟩ := bind_some h
       refine ht_seqR hn (El := [_, _, _, _, _, (34, .v (.string s)), (35, .v (.string cutset)), (36, .v (.string v18)), (4, .v (.string v18))]) (init := [0, 1, 2, 3, 4]) (fin := [2, 8]) (sps := [⟨[0], [], [5], [(.slot 34)]⟩, ⟨[1], [], [6], [(.slot 35)]⟩, ⟨[5, 6, 2], [], [7], [(.slot 36)]⟩, ⟨[7], [], [8], [(.slot 4)]⟩]) (es' := [(_, _), (4, .v (.string v18))]) (by kernel_rfl) rfl rfl
        ⟨st_plain rfl (op_move _ _ _ _ rfl rfl),
        st_plain rfl (op_move _ _ _ _ rfl rfl),
        st_plain rfl (op_callG _ _ 37 36 _ _ rfl Tryd.call36 rfl rfl (fun _ h => h) (ok_strings_trimRightUnicode mx s cutset _ hv18) rfl rfl),
        st_plain rfl (op_assign _ _ _ _ rfl rfl),
        trivial⟩ ?_
       refine pt_then ?_
       refine ht_ret ?_
       refine pt_pick [1] (by kernel_rfl) (es' := [(_, _)]) rfl ?_
       obtain rfl := Option.some.inj h
       exact pt_ret hio rfl (.tmp _ _ .nil) rfl rfl
    ·intro u8 h hl9 hr10
     refine cond_some h (fun hg3_3 h => ?_) (fun hg3_3 h => ?_)
     ·obtain ⟨v6, hv6, h⟩ := bind_some h
      refine ht_seqR hn (El := [_, _, _, _, (14, .v (.string cutset)), (15, .v (.int .i64 (cutset.size : Int))), (16, .v (.bool (((cutset.size : Int) == 1)))), (17, .v (.bool true)), (18, .v (.string cutset)), (19, .v (.int .u8 v6)), (20, .v (.bool ((decide (v6 < 128))))), (21, .v (.bool ((decide (v6 < 128)))))]) (init := [0, 1, 2, 3]) (fin := [0, 1, 2, 11]) (sps := [⟨[1], [], [4], [(.slot 14)]⟩, ⟨[4], [], [5], [(.slot 15)]⟩, ⟨[5], [], [6], [(.slot 16)]⟩, ⟨[6], [], [7], [(.slot 17)]⟩, ⟨[7, 1], [], [8], [(.slot 18)]⟩, ⟨[7, 8], [], [9], [(.slot 19)]⟩, ⟨[7, 9], [], [10], [(.slot 20)]⟩, ⟨[7, 10], [], [11], [(.slot 21)]⟩]) (es' := [(_, _), (_, _), (_, _), (21, .v (.bool ((decide (v6 < 128)))))]) (by kernel_rfl) rfl rfl
       ⟨st_plain rfl (op_move _ _ _ _ rfl rfl),
       st_plain rfl (op_len_str _ _ _ Tryd.underlying9 rfl),
       st_plain rfl (op_bin _ _ _ _ _ rfl rfl rfl),
       st_plain rfl (op_move _ _ _ _ (congrArg (fun b => AV.v (Value.bool b)) hg3_3) rfl),
       st_run 3 17 true rfl rfl rfl (List.Mem.head _) (op_move _ _ _ _ rfl rfl),
       st_run 3 17 true rfl rfl rfl (List.Mem.head _) (op_chr _ _ _ 0 _ Tryd.underlying9 rfl rfl hv6),
       st_run 3 17 true rfl rfl rfl (List.Mem.head _) (op_bin _ _ _ _ _ rfl rfl rfl),
       st_plain rfl (op_pick _ _ true _ rfl rfl),
       trivial⟩ ?_
      exact hl9 _ (Option.some.inj h).symm
     ·refine ht_seqR hn (El := [_, _, _, _, (14, .v (.string cutset)), (15, .v (.int .i64 (cutset.size : Int))), (16, .v (.bool (((cutset.size : Int) == 1)))), (17, .v (.bool false)), (18, .v undef), (19, .v undef), (20, .v undef), (21, .v (.bool false))]) (init := [0, 1, 2, 3]) (fin := [0, 1, 2, 11]) (sps := [⟨[1], [], [4], [(.slot 14)]⟩, ⟨[4], [], [5], [(.slot 15)]⟩, ⟨[5], [], [6], [(.slot 16)]⟩, ⟨[6], [], [7], [(.slot 17)]⟩, ⟨[7], [], [8], [(.slot 18)]⟩, ⟨[7], [], [9], [(.slot 19)]⟩, ⟨[7], [], [10], [(.slot 20)]⟩, ⟨[7], [], [11], [(.slot 21)]⟩]) (es' := [(_, _), (_, _), (_, _), (21, .v (.bool false))]) (by kernel_rfl) rfl rfl
       ⟨st_plain rfl (op_move _ _ _ _ rfl rfl),
       st_plain rfl (op_len_str _ _ _ Tryd.underlying9 rfl),
       st_plain rfl (op_bin _ _ _ _ _ rfl rfl rfl),
       st_plain rfl (op_move _ _ _ _ (congrArg (fun b => AV.v (Value.bool b)) hg3_3) rfl),
       st_skip 3 17 _ true rfl rfl rfl rfl (List.Mem.head _),
       st_skip 3 17 _ true rfl rfl rfl rfl (List.Mem.head _),
       st_skip 3 17 _ true rfl rfl rfl rfl (List.Mem.head _),
       st_plain rfl (op_pick _ _ false _ rfl rfl),
       trivial⟩ ?_
      exact hl9 _ (Option.some.inj h).symm
  ·intro u2 h hl3 hr4
   refine cond_some h (fun hg1_2 h => ?_) (fun hg1_2 h => ?_)
   ·refine ht_seqR hn (El := [_, _, _, (7, .v (.string s)), (8, .v (.bool ((s.toList == (⟨#[]⟩ : ByteArray).toList)))), (9, .v (.bool true)), (10, .v undef), (11, .v undef), (12, .v (.bool true))]) (init := [0, 1, 2]) (fin := [0, 1, 2, 8]) (sps := [⟨[0], [], [3], [(.slot 7)]⟩, ⟨[3], [], [4], [(.slot 8)]⟩, ⟨[4], [], [5], [(.slot 9)]⟩, ⟨[5], [], [6], [(.slot 10)]⟩, ⟨[5], [], [7], [(.slot 11)]⟩, ⟨[5], [], [8], [(.slot 12)]⟩]) (es' := [(_, _), (_, _), (_, _), (12, .v (.bool true))]) (by kernel_rfl) rfl rfl
     ⟨st_plain rfl (op_move _ _ _ _ rfl rfl),
     st_plain rfl (op_bin _ _ _ _ _ rfl rfl rfl),
     st_plain rfl (op_move _ _ _ _ (congrArg (fun b => AV.v (Value.bool b)) hg1_2) rfl),
     st_skip 2 9 _ false rfl rfl rfl rfl (List.Mem.head _),
     st_skip 2 9 _ false rfl rfl rfl rfl (List.Mem.head _),
     st_plain rfl (op_pick _ _ true _ rfl rfl),
     trivial⟩ ?_
    exact hl3 _ (Option.some.inj h).symm
   ·refine ht_seqR hn (El := [_, _, _, (7, .v (.string s)), (8, .v (.bool ((s.toList == (⟨#[]⟩ : ByteArray).toList)))), (9, .v (.bool false)), (10, .v (.string cutset)), (11, .v (.bool ((cutset.toList == (⟨#[]⟩ : ByteArray).toList)))), (12, .v (.bool ((cutset.toList == (⟨#[]⟩ : ByteArray).toList))))]) (init := [0, 1, 2]) (fin := [0, 1, 2, 8]) (sps := [⟨[0], [], [3], [(.slot 7)]⟩, ⟨[3], [], [4], [(.slot 8)]⟩, ⟨[4], [], [5], [(.slot 9)]⟩, ⟨[5, 1], [], [6], [(.slot 10)]⟩, ⟨[5, 6], [], [7], [(.slot 11)]⟩, ⟨[5, 7], [], [8], [(.slot 12)]⟩]) (es' := [(_, _), (_, _), (_, _), (12, .v (.bool ((cutset.toList == (⟨#[]⟩ : ByteArray).toList))))]) (by kernel_rfl) rfl rfl
     ⟨st_plain rfl (op_move _ _ _ _ rfl rfl),
     st_plain rfl (op_bin _ _ _ _ _ rfl rfl rfl),
     st_plain rfl (op_move _ _ _ _ (congrArg (fun b => AV.v (Value.bool b)) hg1_2) rfl),
     st_run 2 9 false rfl rfl rfl (List.Mem.head _) (op_move _ _ _ _ rfl rfl),
     st_run 2 9 false rfl rfl rfl (List.Mem.head _) (op_bin _ _ _ _ _ rfl rfl rfl),
     st_plain rfl (op_pick _ _ false _ rfl rfl),
     trivial⟩ ?_
    exact hl3 _ (Option.some.inj h).symm

theorem ok_strings_IndexByte (s : ByteArray) (c r : Int) (h : Sh.strings_IndexByte s c = some r) : FnOK Tryd.prog 32 [.v (.string s), .v (.int .u8 c)] (.v (.int .i64 r)) := lib_strings_IndexByte Tryd.strings_IndexByte s c r h

set_option maxHeartbeats 1000000 in
theorem ok_cram_decodeGroup (s : ByteArray) (r : (List Int)) (h : Sh.cram_decodeGroup s = some r) : FnOK Tryd.prog 22 [.v (.string s)] (.fl (.own 5) 1 (List.map (Value.int .u8) r)) := by
  unfold Sh.cram_decodeGroup at h
  refine fn_ok Tryd.func22 rfl (Nat.le_of_ble_eq_true rfl) rfl rfl fun g0 hn hio => ?_
  refine ht_seq ?_
  refine ht_seqR hn (El := [_, (2, .v (.slice none 0 0))]) (init := [0]) (fin := [0]) (sps := [⟨[], [], [1], [(.slot 2)]⟩]) (es' := [(_, _)]) (by kernel_rfl) rfl rfl
   ⟨st_plain rfl (op_assign _ _ _ _ rfl rfl),
   trivial⟩ ?_
  refine pt_then ?_
  refine ht_seq ?_
  refine ht_seqR hn (El := [_, (3, .v (.int .u32 0))]) (init := [0]) (fin := [0, 1]) (sps := [⟨[], [], [1], [(.slot 3)]⟩]) (es' := [(_, _), (3, .v (.int .u32 0))]) (by kernel_rfl) rfl rfl
   ⟨st_plain rfl (op_assign _ _ _ _ rfl rfl),
   trivial⟩ ?_
  refine pt_then ?_
  refine ht_seq ?_
  refine ht_seq ?_
  refine ht_seqR hn (El := [_, _, (7, .v (.string s)), (8, .v (.int .i64 (s.size : Int))), (9, .v (.int .i64 0))]) (init := [0, 1]) (fin := [0, 1, 3, 4]) (sps := [⟨[0], [], [2], [(.slot 7)]⟩, ⟨[2], [], [3], [(.slot 8)]⟩, ⟨[], [], [4], [(.slot 9)]⟩]) (es' := [(_, _), (_, _), (8, .v (.int .i64 (s.size : Int))), (9, .v (.int .i64 0))]) (by kernel_rfl) rfl rfl
   ⟨st_plain rfl (op_move _ _ _ _ rfl rfl),
   st_plain rfl (op_len_str _ _ _ Tryd.underlying9 rfl),
   st_plain rfl (op_move _ _ _ _ rfl rfl),
   trivial⟩ ?_
  refine pt_then ?_
  refine ht_loopS h (fun ((s14, s15) : Int × Int) => [(0, .v (.string s)), (3, .v (.int .u32 s14)), (8, .v (.int .i64 (s.size : Int))), (9, .v (.int .i64 s15))]) (fun (s17 : Int) => [(0, .v (.string s)), (3, .v (.int .u32 s17))]) ?_ ?_
  ·rintro s17 h
   refine pt_then ?_
   refine ht_seq ?_
   refine ht_seqR hn (El := [_, _, (5, .v (.slice none 0 0))]) (init := [0, 1]) (fin := [0, 1, 2]) (sps := [⟨[], [], [2], [(.slot 5)]⟩]) (es' := [(_, _), (_, _), (5, .v (.slice none 0 0))]) (by kernel_rfl) rfl rfl
    ⟨st_plain rfl (op_assign _ _ _ _ rfl rfl),
    trivial⟩ ?_
   refine pt_then ?_
   refine ht_seq ?_
   refine ht_seq ?_
   obtain ⟨v25, hv25, h⟩ := bind_some h
   refine ht_seqR hn (El := [_, _, _, (25, .v (.string s)), (26, .v (.int .i64 (s.size : Int))), (27, .v (.int .i64 v25)), (28, .v (.int .i64 0))]) (init := [0, 1, 2]) (fin := [1, 2, 5, 6]) (sps := [⟨[0], [], [3], [(.slot 25)]⟩, ⟨[3], [], [4], [(.slot 26)]⟩, ⟨[4], [], [5], [(.slot 27)]⟩, ⟨[], [], [6], [(.slot 28)]⟩]) (es' := [(_, _), (_, _), (27, .v (.int .i64 v25)), (28, .v (.int .i64 0))]) (by kernel_rfl) rfl rfl
    ⟨st_plain rfl (op_move _ _ _ _ rfl rfl),
    st_plain rfl (op_len_str _ _ _ Tryd.underlying9 rfl),
    st_plain rfl (op_bin _ _ _ _ _ rfl rfl (ibind (f := Value.int .i64) (Option.some.inj hv25))),
    st_plain rfl (op_move _ _ _ _ rfl rfl),
    trivial⟩ ?_
   refine pt_then ?_
   refine ht_sub (fs := [(3, .v (.int .u32 s17)), (5, .fl (.own 5) 1 (List.map (Value.int .u8) [])), (27, .v (.int .i64 v25)), (28, .v (.int .i64 0))]) (.same _ (.sub _ (sub_nil 5 1) rfl (.same _ (.same _ .nil)))) ?_
   refine ht_loopS h (fun ((s36, s37) : (List Int) × Int) => [(3, .v (.int .u32 s17)), (5, .fl (.own 5) 1 (List.map (Value.int .u8) s36)), (27, .v (.int .i64 v25)), (28, .v (.int .i64 s37))]) (fun (s39 : (List Int)) => [(5, .fl (.own 5) 1 (List.map (Value.int .u8) s39))]) ?_ ?_
   ·rintro s39 h
    refine pt_then ?_
    refine ht_seq ?_
    refine ht_seqR hn (El := [_, (41, .fl (.own 5) 1 (List.map (Value.int .u8) s39)), (2, .fl (.own 5) 1 (List.map (Value.int .u8) s39))]) (init := [0]) (fin := [2]) (sps := [⟨[], [0], [1], [(.slot 41)]⟩, ⟨[], [1], [2], [(.slot 2)]⟩]) (es' := [(2, .fl (.own 5) 1 (List.map (Value.int .u8) s39))]) (by kernel_rfl) rfl rfl
     ⟨st_plain rfl (op_move_take _ _ _ _ rfl),
     st_plain rfl (op_assign_take _ _ _ _ rfl),
     trivial⟩ ?_
    refine pt_then ?_
    refine ht_ret ?_
    obtain rfl := Option.some.inj h
    exact pt_ret hio rfl (.tmp _ _ .nil) rfl rfl
   ·rintro u40 hl41 hr42 ⟨s36, s37⟩ rr45 h ho43
    refine ht_seq ?_
    refine ht_seqR hn (El := [_, _, _, _, (29, .v (.bool ((decide (s37 < v25)))))]) (init := [0, 1, 2, 3]) (fin := [0, 1, 2, 3, 4]) (sps := [⟨[3, 2], [], [4], [(.slot 29)]⟩]) (es' := [(_, _), (_, _), (_, _), (_, _), (29, .v (.bool ((decide (s37 < v25)))))]) (by kernel_rfl) rfl rfl
     ⟨st_plain rfl (op_bin _ _ _ _ _ rfl rfl rfl),
     trivial⟩ ?_
    refine pt_then ?_
    refine ht_seq ?_
    refine ht_cond _ rfl (fun hb46 => ?_) (fun hb46 => ?_)
    ·have h := cond_t hb46 h
     refine ht_skip ?_
     refine pt_then ?_
     refine ht_seq ?_
     refine ht_block ?_
     refine ht_seq ?_
     refine ht_seqR hn (El := [_, _, _, _, _, (30, .v (.int .i64 s37)), (6, .v (.int .i64 s37))]) (init := [0, 1, 2, 3, 4]) (fin := [0, 1, 2, 3, 6]) (sps := [⟨[3], [], [5], [(.slot 30)]⟩, ⟨[5], [], [6], [(.slot 6)]⟩]) (es' := [(_, _), (_, _), (_, _), (_, _), (6, .v (.int .i64 s37))]) (by kernel_rfl) rfl rfl
      ⟨st_plain rfl (op_move _ _ _ _ rfl rfl),
      st_plain rfl (op_assign _ _ _ _ rfl rfl),
      trivial⟩ ?_
     refine pt_then ?_
     obtain ⟨v27, hv27, h⟩ := bind_some h
     obtain ⟨v28, hv28, h⟩ := bind_some h
     obtain ⟨v29, hv29, h⟩ := bind_some h
     obtain ⟨v30, hv30, h⟩ := bind_some h
     obtain ⟨v31, hv31, h⟩ := bind_some h
     refine ht_seqR hn (El := (_ :: _ :: _ :: _ :: _ :: (31, .fl (.own 5) 1 (List.map (Value.int .u8) s36)) :: (32, .v (.int .u32 s17)) :: (33, .v (.int .i64 s37)) :: (34, .v (.int .i64 v27)) :: (35, .v (.int .i64 v28)) :: (36, .v (.int .u32 v29)) :: (37, .v (.int .u8 v30)) :: (38, .fl (.own 5) 1 (List.map (Value.int .u8) [v30])) :: (39, .fl (.own 5) 1 (List.map (Value.int .u8) v31)) :: (31, .any) :: (5, .fl (.own 5) 1 (List.map (Value.int .u8) v31)) :: [])) (init := [0, 1, 2, 3, 4]) (fin := [0, 2, 3, 15]) (sps := [⟨[], [1], [5], [(.slot 31)]⟩, ⟨[0], [], [6], [(.slot 32)]⟩, ⟨[4], [], [7], [(.slot 33)]⟩, ⟨[7], [], [8], [(.slot 34)]⟩, ⟨[8], [], [9], [(.slot 35)]⟩, ⟨[6, 9], [], [10], [(.slot 36)]⟩, ⟨[10], [], [11], [(.slot 37)]⟩, ⟨[11], [], [12], [(.slot 38)]⟩, ⟨[12], [5], [14, 13], [(.slot 39)]⟩, ⟨[], [13], [15], [(.slot 5)]⟩]) (es' := [(_, _), (_, _), (_, _), (5, .fl (.own 5) 1 (List.map (Value.int .u8) v31))]) (by kernel_rfl) rfl rfl
      ⟨st_plain rfl (op_move_take _ _ _ _ rfl),
      st_plain rfl (op_move _ _ _ _ rfl rfl),
      st_plain rfl (op_move _ _ _ _ rfl rfl),
      st_plain rfl (op_bin _ _ _ _ _ rfl rfl (ibind (f := Value.int .i64) (Option.some.inj hv27))),
      st_plain rfl (op_bin _ _ _ _ _ rfl rfl (ibind (f := Value.int .i64) (Option.some.inj hv28))),
      st_plain rfl (op_bin _ _ _ _ _ rfl rfl (shr_ok hv29)),
      st_plain rfl ((Option.some.inj hv30) ▸ op_conv _ _ _ Tryd.underlying49 Tryd.underlying5 rfl),
      st_plain rfl (op_buildSlice _ _ 1 (.int .u8 0) (List.map (Value.int .u8) [v30]) [(0, .int .u8 v30)] Tryd.underlying22 sz5 zr5 (fun _ V w o a hv hes => by have e0 := rd_v hv hes (x := .tmp 37) rfl; simp only [List.map_toArray, List.map_cons, List.map_nil, e0]; try rfl) (litfill (by simp [Instr.fill, Value.cells]; rfl) (by simp [List.range, List.range.loop] <;> rfl)) (by simp [Value.oneCell']) rfl (by decide) (by decide) (by decide)),
      st_plain rfl (op_app _ _ _ _ _ el22 rfl rfl (map_len _) (map_len _) hv31 ((List.map_append).symm.trans (congrArg (List.map _) (app_eq hv31)))),
      st_plain rfl (op_assign_take _ _ _ _ rfl),
      trivial⟩ ?_
     refine pt_inb ?_
     refine pt_then ?_
     obtain ⟨v32, hv32, h⟩ := bind_some h
     refine ht_seqR hn (El := [_, _, _, _, (40, .v (.int .i64 v32)), (28, .v (.int .i64 v32))]) (init := [0, 1, 2, 3]) (fin := [0, 1, 3, 5]) (sps := [⟨[2], [], [4], [(.slot 40)]⟩, ⟨[4], [2], [5], [(.slot 28)]⟩]) (es' := [(_, _), (_, _), (_, _), (28, .v (.int .i64 v32))]) (by kernel_rfl) rfl rfl
      ⟨st_plain rfl (op_bin _ _ _ _ _ rfl rfl (ibind (f := Value.int .i64) (Option.some.inj hv32))),
      st_plain rfl (LOp.drop [_] (op_move _ _ _ _ rfl rfl)),
      trivial⟩ ?_
     refine pt_pick [0, 2, 1, 3] (by kernel_rfl) (es' := [(_, _), (_, _), (_, _), (_, _)]) rfl ?_
     exact pt_next _ (Option.some.inj h).symm rfl
    ·have h := cond_f hb46 h
     refine ht_exit ?_
     refine pt_x_then ?_
     refine pt_x_then ?_
     refine pt_x_in ?_
     refine pt_pick [1] (by kernel_rfl) (es' := [(_, _)]) rfl ?_
     exact hl41 _ (ho43 _ (Option.some.inj h).symm).symm
  ·rintro u18 hl19 hr20 ⟨s14, s15⟩ rr23 h ho21
   refine ht_seq ?_
   refine ht_seqR hn (El := [_, _, _, _, (10, .v (.bool ((decide (s15 < (s.size : Int))))))]) (init := [0, 1, 2, 3]) (fin := [0, 1, 2, 3, 4]) (sps := [⟨[3, 2], [], [4], [(.slot 10)]⟩]) (es' := [(_, _), (_, _), (_, _), (_, _), (10, .v (.bool ((decide (s15 < (s.size : Int))))))]) (by kernel_rfl) rfl rfl
    ⟨st_plain rfl (op_bin _ _ _ _ _ rfl rfl rfl),
    trivial⟩ ?_
   refine pt_then ?_
   refine ht_seq ?_
   refine ht_cond _ rfl (fun hb24 => ?_) (fun hb24 => ?_)
   ·have h := cond_t hb24 h
    refine ht_skip ?_
    refine pt_then ?_
    refine ht_seq ?_
    refine ht_block ?_
    refine ht_seq ?_
    refine ht_seqR hn (El := [_, _, _, _, _, (11, .v (.int .i64 s15)), (4, .v (.int .i64 s15))]) (init := [0, 1, 2, 3, 4]) (fin := [0, 1, 2, 3, 6]) (sps := [⟨[3], [], [5], [(.slot 11)]⟩, ⟨[5], [], [6], [(.slot 4)]⟩]) (es' := [(_, _), (_, _), (_, _), (_, _), (4, .v (.int .i64 s15))]) (by kernel_rfl) rfl rfl
     ⟨st_plain rfl (op_move _ _ _ _ rfl rfl),
     st_plain rfl (op_assign _ _ _ _ rfl rfl),
     trivial⟩ ?_
    refine pt_then ?_
    obtain ⟨v2, hv2, h⟩ := bind_some h
    obtain ⟨v3, hv3, h⟩ := bind_some h
    obtain ⟨v4, hv4, h⟩ := bind_some h
    obtain ⟨v5, hv5, h⟩ := bind_some h
    obtain ⟨v6, hv6, h⟩ := bind_some h
    obtain ⟨v7, hv7, h⟩ := bind_some h
    obtain ⟨v8, hv8, h⟩ := bind_some h
    obtain ⟨v9, hv9, h⟩ := bind_some h
    refine ht_seqR hn (El := (_ :: _ :: _ :: _ :: _ :: (12, .v (.int .u32 s14)) :: (13, .v (.string s)) :: (14, .v (.int .i64 s15)) :: (15, .v (.int .u8 v2)) :: (16, .v (.int .i64 v3)) :: (17, .v (.int .i64 v4)) :: (18, .v (.int .u32 v5)) :: (19, .v (.int .i64 s15)) :: (20, .v (.int .i64 v6)) :: (21, .v (.int .i64 v7)) :: (22, .v (.int .u32 v8)) :: (23, .v (.int .u32 v9)) :: (3, .v (.int .u32 v9)) :: [])) (init := [0, 1, 2, 3, 4]) (fin := [0, 2, 3, 17]) (sps := [⟨[1], [], [5], [(.slot 12)]⟩, ⟨[0], [], [6], [(.slot 13)]⟩, ⟨[4], [], [7], [(.slot 14)]⟩, ⟨[6, 7], [], [8], [(.slot 15)]⟩, ⟨[8], [], [9], [(.slot 16)]⟩, ⟨[9], [], [10], [(.slot 17)]⟩, ⟨[10], [], [11], [(.slot 18)]⟩, ⟨[4], [], [12], [(.slot 19)]⟩, ⟨[12], [], [13], [(.slot 20)]⟩, ⟨[13], [], [14], [(.slot 21)]⟩, ⟨[11, 14], [], [15], [(.slot 22)]⟩, ⟨[5, 15], [], [16], [(.slot 23)]⟩, ⟨[16], [1], [17], [(.slot 3)]⟩]) (es' := [(_, _), (_, _), (_, _), (3, .v (.int .u32 v9))]) (by kernel_rfl) rfl rfl
     ⟨st_plain rfl (op_move _ _ _ _ rfl rfl),
     st_plain rfl (op_move _ _ _ _ rfl rfl),
     st_plain rfl (op_move _ _ _ _ rfl rfl),
     st_plain rfl (op_chr _ _ _ s15 _ Tryd.underlying9 rfl rfl hv2),
     st_plain rfl (op_call _ _ 32 _ _ rfl Tryd.call32 rfl (ok_strings_IndexByte (⟨#[65, 66, 67, 68, 69, 70, 71, 72, 73, 74, 75, 76, 77, 78, 79, 80, 81, 82, 83, 84, 85, 86, 87, 88, 89, 90, 97, 98, 99, 100, 101, 102, 103, 104, 105, 106, 107, 108, 109, 110, 111, 112, 113, 114, 115, 116, 117, 118, 119, 120, 121, 122, 48, 49, 50, 51, 52, 53, 54, 55, 56, 57, 43, 47]⟩ : ByteArray) v2 _ hv3) rfl rfl),
     st_plain rfl (op_bin _ _ _ _ _ rfl rfl (ibind (f := Value.int .i64) (Option.some.inj hv4))),
     st_plain rfl ((Option.some.inj hv5) ▸ op_conv _ _ _ Tryd.underlying3 Tryd.underlying49 rfl),
     st_plain rfl (op_move _ _ _ _ rfl rfl),
     st_plain rfl (op_bin _ _ _ _ _ rfl rfl (ibind (f := Value.int .i64) (Option.some.inj hv6))),
     st_plain rfl (op_bin _ _ _ _ _ rfl rfl (ibind (f := Value.int .i64) (Option.some.inj hv7))),
     st_plain rfl (op_bin _ _ _ _ _ rfl rfl (shl_ok hv8)),
     st_plain rfl (op_bin _ _ _ _ _ rfl rfl (ibind (f := Value.int .u32) (Option.some.inj hv9))),
     st_plain rfl (LOp.drop [_] (op_assign _ _ _ _ rfl rfl)),
     trivial⟩ ?_
    refine pt_inb ?_
    refine pt_then ?_
    obtain ⟨v10, hv10, h⟩ := bind_some h
    refine ht_seqR hn (El := [_, _, _, _, (24, .v (.int .i64 v10)), (9, .v (.int .i64 v10))]) (init := [0, 1, 2, 3]) (fin := [0, 1, 3, 5]) (sps := [⟨[2], [], [4], [(.slot 24)]⟩, ⟨[4], [2], [5], [(.slot 9)]⟩]) (es' := [(_, _), (_, _), (_, _), (9, .v (.int .i64 v10))]) (by kernel_rfl) rfl rfl
     ⟨st_plain rfl (op_bin _ _ _ _ _ rfl rfl (ibind (f := Value.int .i64) (Option.some.inj hv10))),
     st_plain rfl (LOp.drop [_] (op_move _ _ _ _ rfl rfl)),
     trivial⟩ ?_
    refine pt_pick [0, 2, 1, 3] (by kernel_rfl) (es' := [(_, _), (_, _), (_, _), (_, _)]) rfl ?_
    exact pt_next _ (Option.some.inj h).symm rfl
   ·have h := cond_f hb24 h
    refine ht_exit ?_
    refine pt_x_then ?_
    refine pt_x_then ?_
    refine pt_x_in ?_
    refine pt_pick [0, 1] (by kernel_rfl) (es' := [(_, _), (_, _)]) rfl ?_
    exact hl19 _ (ho21 _ (Option.some.inj h).symm).symm

set_option maxHeartbeats 1000000 in
theorem ok_cram_Decode (mx : Int) (s : ByteArray) (r : ((List Int) × Int)) (h : Sh.cram_Decode s = some r) : FnG Tryd.prog (GL mx) 9 [.v (.string s)] (.tup [.fl (.own 5) 1 (List.map (Value.int .u8) r.1), .v (.int .i64 r.2)]) := by
  unfold Sh.cram_Decode at h
  refine fn_okG Tryd.func9 rfl (Nat.le_of_ble_eq_true rfl) rfl rfl fun g0 hn hio => ?_
  refine ht_seq ?_
  refine ht_seqR hn (El := [_, _, (2, .v (.slice none 0 0)), (3, .v (.int .i64 0))]) (init := [0, 1]) (fin := [0, 1]) (sps := [⟨[], [], [2], [(.slot 2)]⟩, ⟨[], [], [3], [(.slot 3)]⟩]) (es' := [(_, _), (_, _)]) (by kernel_rfl) rfl rfl
   ⟨st_plain rfl (op_assign _ _ _ _ rfl rfl),
   st_plain rfl (op_assign _ _ _ _ rfl rfl),
   trivial⟩ ?_
  refine pt_then ?_
  refine ht_seq ?_
  refine ht_seqR hn (El := [_, _, (4, .v (.slice none 0 0))]) (init := [0, 1]) (fin := [0, 1, 2]) (sps := [⟨[], [], [2], [(.slot 4)]⟩]) (es' := [(_, _), (_, _), (4, .v (.slice none 0 0))]) (by kernel_rfl) rfl rfl
   ⟨st_plain rfl (op_assign _ _ _ _ rfl rfl),
   trivial⟩ ?_
  refine pt_then ?_
  refine ht_seq ?_
  refine ht_seq ?_
  refine ht_seqR hn (El := [_, _, _, (5, .v (.int .i64 0))]) (init := [0, 1, 2]) (fin := [0, 1, 2, 3]) (sps := [⟨[], [], [3], [(.slot 5)]⟩]) (es' := [(_, _), (_, _), (_, _), (5, .v (.int .i64 0))]) (by kernel_rfl) rfl rfl
   ⟨st_plain rfl (op_assign _ _ _ _ rfl rfl),
   trivial⟩ ?_
  refine pt_then ?_
  refine ht_sub (fs := [(0, .v (.string s)), (27, .glob (GL mx)), (4, .fl (.own 5) 1 (List.map (Value.int .u8) [])), (5, .v (.int .i64 0))]) (.same _ (.same _ (.sub _ (sub_nil 5 1) rfl (.same _ .nil)))) ?_
  refine ht_loopS h (fun ((s12, s13) : (List Int) × Int) => [(0, .v (.string s)), (27, .glob (GL mx)), (4, .fl (.own 5) 1 (List.map (Value.int .u8) s12)), (5, .v (.int .i64 s13))]) (fun (s15 : (List Int)) => [(0, .v (.string s)), (27, .glob (GL mx)), (4, .fl (.own 5) 1 (List.map (Value.int .u8) s15))]) ?_ ?_
  ·rintro s15 h
   refine pt_then ?_
   refine ht_seq ?_
   refine ht_seq ?_
   obtain ⟨v23, hv23, h⟩ := bind_some h
   refine ht_seqR hn (El := [_, _, _, (22, .same (.slot 4)), (23, .v (.string v23)), (24, .v (.string s)), (25, .v (.bool ((!(v23.toList == s.toList)))))]) (init := [0, 1, 2]) (fin := [1, 2, 6]) (sps := [⟨[2], [], [3], [(.slot 22)]⟩, ⟨[3, 2], [], [4], [(.slot 23)]⟩, ⟨[0], [], [5], [(.slot 24)]⟩, ⟨[4, 5], [], [6], [(.slot 25)]⟩]) (es' := [(_, _), (_, _), (25, .v (.bool ((!(v23.toList == s.toList)))))]) (by kernel_rfl) rfl rfl
    ⟨st_plain rfl (op_move _ _ _ _ rfl rfl),
    st_plain rfl (op_call _ _ 12 _ _ rfl Tryd.call12 rfl (ok_cram_Encode s15 _ hv23) rfl rfl),
    st_plain rfl (op_move _ _ _ _ rfl rfl),
    st_plain rfl (op_bin _ _ _ _ _ rfl rfl rfl),
    trivial⟩ ?_
   refine pt_then ?_
   refine ht_cond _ rfl (fun hb24 => ?_) (fun hb24 => ?_)
   ·have h := cond_t hb24 h
    refine ht_seq ?_
    refine ht_seqR hn (El := [_, _, _, (2, .v (.slice none 0 0)), (3, .v (.int .i64 5))]) (init := [0, 1, 2]) (fin := [0, 3, 4]) (sps := [⟨[], [], [3], [(.slot 2)]⟩, ⟨[], [], [4], [(.slot 3)]⟩]) (es' := [(_, _), (2, .v (.slice none 0 0)), (3, .v (.int .i64 5))]) (by kernel_rfl) rfl rfl
     ⟨st_plain rfl (op_assign _ _ _ _ rfl rfl),
     st_plain rfl (op_assign _ _ _ _ rfl rfl),
     trivial⟩ ?_
    refine pt_then ?_
    refine ht_ret ?_
    refine pt_pick [1, 2] (by kernel_rfl) (es' := [(_, _), (_, _)]) rfl ?_
    refine pt_sub (fs := [(2, .fl (.own 5) 1 (List.map (Value.int .u8) [])), (3, .v (.int .i64 5))]) (.sub _ (sub_nil 5 1) rfl (.same _ .nil)) ?_
    refine pt_r_then ?_
    obtain rfl := Option.some.inj h
    exact pt_ret hio rfl (.tmp _ _ (.tmp _ _ .nil)) rfl rfl
   ·have h := cond_f hb24 h
    refine ht_skip ?_
    refine pt_then ?_
    refine ht_seq ?_
    refine ht_seqR hn (El := [_, _, _, (26, .fl (.own 5) 1 (List.map (Value.int .u8) s15)), (2, .fl (.own 5) 1 (List.map (Value.int .u8) s15)), (3, .v (.int .i64 0))]) (init := [0, 1, 2]) (fin := [0, 4, 5]) (sps := [⟨[], [1], [3], [(.slot 26)]⟩, ⟨[], [3], [4], [(.slot 2)]⟩, ⟨[], [], [5], [(.slot 3)]⟩]) (es' := [(_, _), (2, .fl (.own 5) 1 (List.map (Value.int .u8) s15)), (3, .v (.int .i64 0))]) (by kernel_rfl) rfl rfl
     ⟨st_plain rfl (op_move_take _ _ _ _ rfl),
     st_plain rfl (op_assign_take _ _ _ _ rfl),
     st_plain rfl (op_assign _ _ _ _ rfl rfl),
     trivial⟩ ?_
    refine pt_then ?_
    refine ht_ret ?_
    refine pt_pick [1, 2] (by kernel_rfl) (es' := [(_, _), (_, _)]) rfl ?_
    obtain rfl := Option.some.inj h
    exact pt_ret hio rfl (.tmp _ _ (.tmp _ _ .nil)) rfl rfl
  ·rintro u16 hl17 hr18 ⟨s12, s13⟩ rr21 h ho19
   refine ht_seq ?_
   refine ht_seq ?_
   obtain ⟨v1, hv1, h⟩ := bind_some h
   refine ht_seqR hn (El := [_, _, _, _, (6, .v (.int .i64 s13)), (7, .v (.int .i64 v1)), (8, .v (.string s)), (9, .v (.int .i64 (s.size : Int))), (10, .v (.bool ((decide (v1 ≤ (s.size : Int))))))]) (init := [0, 1, 2, 3]) (fin := [0, 1, 2, 3, 8]) (sps := [⟨[3], [], [4], [(.slot 6)]⟩, ⟨[4], [], [5], [(.slot 7)]⟩, ⟨[0], [], [6], [(.slot 8)]⟩, ⟨[6], [], [7], [(.slot 9)]⟩, ⟨[5, 7], [], [8], [(.slot 10)]⟩]) (es' := [(_, _), (_, _), (_, _), (_, _), (10, .v (.bool ((decide (v1 ≤ (s.size : Int))))))]) (by kernel_rfl) rfl rfl
    ⟨st_plain rfl (op_move _ _ _ _ rfl rfl),
    st_plain rfl (op_bin _ _ _ _ _ rfl rfl (ibind (f := Value.int .i64) (Option.some.inj hv1))),
    st_plain rfl (op_move _ _ _ _ rfl rfl),
    st_plain rfl (op_len_str _ _ _ Tryd.underlying9 rfl),
    st_plain rfl (op_bin _ _ _ _ _ rfl rfl rfl),
    trivial⟩ ?_
   refine pt_then ?_
   refine ht_cond _ rfl (fun hb22 => ?_) (fun hb22 => ?_)
   ·have h := cond_t hb22 h
    refine ht_skip ?_
    refine pt_then ?_
    refine ht_seq ?_
    refine ht_block ?_
    obtain ⟨v3, hv3, h⟩ := bind_some h
    obtain ⟨v4, hv4, h⟩ := bind_some h
    obtain ⟨v5, hv5, h⟩ := bind_some h
    obtain ⟨v6, hv6, h⟩ := bind_some h
    obtain ⟨v7, hv7, h⟩ := bind_some h
    refine ht_seqR hn (El := (_ :: _ :: _ :: _ :: _ :: (13, .fl (.own 5) 1 (List.map (Value.int .u8) s12)) :: (14, .v (.string s)) :: (15, .v (.int .i64 s13)) :: (16, .v (.int .i64 s13)) :: (17, .v (.int .i64 v3)) :: (18, .v (.string v4)) :: (19, .v (.string v5)) :: (20, .fl (.own 5) 1 (List.map (Value.int .u8) v6)) :: (21, .fl (.own 5) 1 (List.map (Value.int .u8) v7)) :: (13, .any) :: (4, .fl (.own 5) 1 (List.map (Value.int .u8) v7)) :: [])) (init := [0, 1, 2, 3, 4]) (fin := [0, 1, 3, 15]) (sps := [⟨[], [2], [5], [(.slot 13)]⟩, ⟨[0], [], [6], [(.slot 14)]⟩, ⟨[3], [], [7], [(.slot 15)]⟩, ⟨[3], [], [8], [(.slot 16)]⟩, ⟨[8], [], [9], [(.slot 17)]⟩, ⟨[6, 7, 9], [], [10], [(.slot 18)]⟩, ⟨[10, 1], [], [11], [(.slot 19)]⟩, ⟨[11], [], [12], [(.slot 20)]⟩, ⟨[12], [5], [14, 13], [(.slot 21)]⟩, ⟨[], [13], [15], [(.slot 4)]⟩]) (es' := [(_, _), (_, _), (_, _), (4, .fl (.own 5) 1 (List.map (Value.int .u8) v7))]) (by kernel_rfl) rfl rfl
     ⟨st_plain rfl (op_move_take _ _ _ _ rfl),
     st_plain rfl (op_move _ _ _ _ rfl rfl),
     st_plain rfl (op_move _ _ _ _ rfl rfl),
     st_plain rfl (op_move _ _ _ _ rfl rfl),
     st_plain rfl (op_bin _ _ _ _ _ rfl rfl (ibind (f := Value.int .i64) (Option.some.inj hv3))),
     st_plain rfl (op_substr _ _ _ s13 v3 _ Tryd.underlying9 rfl ⟨_, rfl⟩ ⟨_, rfl⟩ hv4),
     st_plain rfl (op_callG _ _ 27 23 _ _ rfl Tryd.call23 rfl rfl (fun _ h => h) (ok_strings_TrimRight mx v4 (⟨#[61]⟩ : ByteArray) _ hv5) rfl rfl),
     st_plain rfl (op_call _ _ 22 _ _ rfl Tryd.call22 rfl (ok_cram_decodeGroup v5 _ hv6) rfl rfl),
     st_plain rfl (op_app _ _ _ _ _ el22 rfl rfl (map_len _) (map_len _) hv7 ((List.map_append).symm.trans (congrArg (List.map _) (app_eq hv7)))),
     st_plain rfl (op_assign_take _ _ _ _ rfl),
     trivial⟩ ?_
    refine pt_inb ?_
    refine pt_then ?_
    obtain ⟨v8, hv8, h⟩ := bind_some h
    refine ht_seqR hn (El := [_, _, _, _, (11, .v (.int .i64 s13)), (12, .v (.int .i64 v8)), (5, .v (.int .i64 v8))]) (init := [0, 1, 2, 3]) (fin := [0, 1, 3, 6]) (sps := [⟨[2], [], [4], [(.slot 11)]⟩, ⟨[4], [], [5], [(.slot 12)]⟩, ⟨[5], [2], [6], [(.slot 5)]⟩]) (es' := [(_, _), (_, _), (_, _), (5, .v (.int .i64 v8))]) (by kernel_rfl) rfl rfl
     ⟨st_plain rfl (op_move _ _ _ _ rfl rfl),
     st_plain rfl (op_bin _ _ _ _ _ rfl rfl (ibind (f := Value.int .i64) (Option.some.inj hv8))),
     st_plain rfl (LOp.drop [_] (op_assign _ _ _ _ rfl rfl)),
     trivial⟩ ?_
    exact pt_next _ (Option.some.inj h).symm rfl
   ·have h := cond_f hb22 h
    refine ht_exit ?_
    refine pt_x_then ?_
    refine pt_x_then ?_
    refine pt_x_in ?_
    refine pt_pick [0, 1, 2] (by kernel_rfl) (es' := [(_, _), (_, _), (_, _)]) rfl ?_
    exact hl17 _ (ho19 _ (Option.some.inj h).symm).symm

set_option maxHeartbeats 1000000 in
theorem ok_cram_Verify (mx : Int) (user : ByteArray) (secret : ByteArray) (challenge : ByteArray) (line : ByteArray) (r : Bool) (h : Sh.cram_Verify user secret challenge line = some r) : FnG Tryd.prog (GL mx) 18 [.v (.string user), .v (.string secret), .v (.string challenge), .v (.string line)] (.v (.bool r)) := by
  unfold Sh.cram_Verify at h
  refine fn_okG Tryd.func18 rfl (Nat.le_of_ble_eq_true rfl) rfl rfl fun g0 hn hio => ?_
  refine ht_seq ?_
  refine ht_seqR hn (El := [_, _, _, _, _, (8, .v (.bool false))]) (init := [0, 1, 2, 3, 4]) (fin := [0, 1, 2, 3, 4]) (sps := [⟨[], [], [5], [(.slot 8)]⟩]) (es' := [(_, _), (_, _), (_, _), (_, _), (_, _)]) (by kernel_rfl) rfl rfl
   ⟨st_plain rfl (op_assign _ _ _ _ rfl rfl),
   trivial⟩ ?_
  refine pt_then ?_
  refine ht_seq ?_
  obtain ⟨v1, hv1, h⟩ := bind_some h
  refine ht_seqR hn (El := [_, _, _, _, _, (9, .v (.string line)), (10, .v (.string user)), (11, .v (.string secret)), (12, .v (.string challenge)), (13, .v (.string v1)), (14, .v (.bool (line.toList == v1.toList))), (8, .v (.bool (line.toList == v1.toList)))]) (init := [0, 1, 2, 3, 4]) (fin := [4, 11]) (sps := [⟨[3], [], [5], [(.slot 9)]⟩, ⟨[0], [], [6], [(.slot 10)]⟩, ⟨[1], [], [7], [(.slot 11)]⟩, ⟨[2], [], [8], [(.slot 12)]⟩, ⟨[6, 7, 8, 4], [], [9], [(.slot 13)]⟩, ⟨[5, 9], [], [10], [(.slot 14)]⟩, ⟨[10], [], [11], [(.slot 8)]⟩]) (es' := [(_, _), (8, .v (.bool (line.toList == v1.toList)))]) (by kernel_rfl) rfl rfl
   ⟨st_plain rfl (op_move _ _ _ _ rfl rfl),
   st_plain rfl (op_move _ _ _ _ rfl rfl),
   st_plain rfl (op_move _ _ _ _ rfl rfl),
   st_plain rfl (op_move _ _ _ _ rfl rfl),
   st_plain rfl (op_callG _ _ 15 17 _ _ rfl Tryd.call17 rfl rfl (fun _ h => h) (ok_cram_Answer mx user secret challenge _ hv1) rfl rfl),
   st_plain rfl (op_bin _ _ _ _ _ rfl rfl rfl),
   st_plain rfl (op_assign _ _ _ _ rfl rfl),
   trivial⟩ ?_
  refine pt_then ?_
  refine ht_ret ?_
  refine pt_pick [1] (by kernel_rfl) (es' := [(_, _)]) rfl ?_
  obtain rfl := Option.some.inj h
  exact pt_ret hio rfl (.tmp _ _ .nil) rfl rfl

set_option maxHeartbeats 1000000 in
theorem ok_wherrykeep_Bytes (a : (List Int)) (b : (List Int)) (r : Bool) (h : Sh.wherrykeep_Bytes a b = some r) : FnOK Tryd.prog 16 [.fl .shr 1 (List.map (Value.int .u8) a), .fl .shr 1 (List.map (Value.int .u8) b)] (.v (.bool r)) := by
  unfold Sh.wherrykeep_Bytes at h
  refine fn_ok Tryd.func16 rfl (Nat.le_of_ble_eq_true rfl) rfl rfl fun g0 hn hio => ?_
  refine ht_seq ?_
  refine ht_seqR hn (El := [_, _, (4, .v (.bool false))]) (init := [0, 1]) (fin := [0, 1]) (sps := [⟨[], [], [2], [(.slot 4)]⟩]) (es' := [(_, _), (_, _)]) (by kernel_rfl) rfl rfl
   ⟨st_plain rfl (op_assign _ _ _ _ rfl rfl),
   trivial⟩ ?_
  refine pt_then ?_
  refine ht_seq ?_
  refine ht_seq ?_
  refine ht_seqR hn (El := [_, _, (6, .fl .shr 1 (List.map (Value.int .u8) a)), (7, .v (.int .i64 (a.length : Int))), (8, .fl .shr 1 (List.map (Value.int .u8) b)), (9, .v (.int .i64 (b.length : Int))), (10, .v (.bool (((a.length : Int) != (b.length : Int)))))]) (init := [0, 1]) (fin := [0, 1, 6]) (sps := [⟨[0], [], [2], [(.slot 6)]⟩, ⟨[2], [], [3], [(.slot 7)]⟩, ⟨[1], [], [4], [(.slot 8)]⟩, ⟨[4], [], [5], [(.slot 9)]⟩, ⟨[3, 5], [], [6], [(.slot 10)]⟩]) (es' := [(_, _), (_, _), (10, .v (.bool (((a.length : Int) != (b.length : Int)))))]) (by kernel_rfl) rfl rfl
   ⟨st_plain rfl (op_move _ _ _ _ rfl rfl),
   st_plain rfl (op_len_fl _ _ _ Tryd.underlying22 rfl (by decide) (map_len _)),
   st_plain rfl (op_move _ _ _ _ rfl rfl),
   st_plain rfl (op_len_fl _ _ _ Tryd.underlying22 rfl (by decide) (map_len _)),
   st_plain rfl (op_bin _ _ _ _ _ rfl rfl rfl),
   trivial⟩ ?_
  refine pt_then ?_
  refine ht_cond _ rfl (fun hb1 => ?_) (fun hb1 => ?_)
  ·have h := cond_t hb1 h
   refine ht_seq ?_
   refine ht_seqR hn (El := [_, _, _, (4, .v (.bool false))]) (init := [0, 1, 2]) (fin := [3]) (sps := [⟨[], [], [3], [(.slot 4)]⟩]) (es' := [(4, .v (.bool false))]) (by kernel_rfl) rfl rfl
    ⟨st_plain rfl (op_assign _ _ _ _ rfl rfl),
    trivial⟩ ?_
   refine pt_then ?_
   refine ht_ret ?_
   refine pt_r_then ?_
   obtain rfl := Option.some.inj h
   exact pt_ret hio rfl (.tmp _ _ .nil) rfl rfl
  ·have h := cond_f hb1 h
   refine ht_skip ?_
   refine pt_then ?_
   refine ht_seq ?_
   refine ht_seq ?_
   refine ht_seqR hn (El := [_, _, _, (5, .v (.int .i64 0))]) (init := [0, 1, 2]) (fin := [0, 1, 3]) (sps := [⟨[], [], [3], [(.slot 5)]⟩]) (es' := [(_, _), (_, _), (5, .v (.int .i64 0))]) (by kernel_rfl) rfl rfl
    ⟨st_plain rfl (op_assign _ _ _ _ rfl rfl),
    trivial⟩ ?_
   refine pt_then ?_
   refine ht_loopS h (fun (s12 : Int) => [(0, .fl .shr 1 (List.map (Value.int .u8) a)), (1, .fl .shr 1 (List.map (Value.int .u8) b)), (5, .v (.int .i64 s12))]) (fun (() : Unit) => []) ?_ ?_
   ·rintro ⟨⟩ h
    refine pt_then ?_
    refine ht_seq ?_
    refine ht_seqR hn (El := [(4, .v (.bool true))]) (init := []) (fin := [0]) (sps := [⟨[], [], [0], [(.slot 4)]⟩]) (es' := [(4, .v (.bool true))]) (by kernel_rfl) rfl rfl
     ⟨st_plain rfl (op_assign _ _ _ _ rfl rfl),
     trivial⟩ ?_
    refine pt_then ?_
    refine ht_ret ?_
    obtain rfl := Option.some.inj h
    exact pt_ret hio rfl (.tmp _ _ .nil) rfl rfl
   ·rintro u15 hl16 hr17 s12 rr20 h ho18
    refine ht_seq ?_
    refine ht_seq ?_
    refine ht_seqR hn (El := [_, _, _, (11, .v (.int .i64 s12)), (12, .fl .shr 1 (List.map (Value.int .u8) a)), (13, .v (.int .i64 (a.length : Int))), (14, .v (.bool ((decide (s12 < (a.length : Int))))))]) (init := [0, 1, 2]) (fin := [0, 1, 2, 6]) (sps := [⟨[2], [], [3], [(.slot 11)]⟩, ⟨[0], [], [4], [(.slot 12)]⟩, ⟨[4], [], [5], [(.slot 13)]⟩, ⟨[3, 5], [], [6], [(.slot 14)]⟩]) (es' := [(_, _), (_, _), (_, _), (14, .v (.bool ((decide (s12 < (a.length : Int))))))]) (by kernel_rfl) rfl rfl
     ⟨st_plain rfl (op_move _ _ _ _ rfl rfl),
     st_plain rfl (op_move _ _ _ _ rfl rfl),
     st_plain rfl (op_len_fl _ _ _ Tryd.underlying22 rfl (by decide) (map_len _)),
     st_plain rfl (op_bin _ _ _ _ _ rfl rfl rfl),
     trivial⟩ ?_
    refine pt_then ?_
    refine ht_cond _ rfl (fun hb21 => ?_) (fun hb21 => ?_)
    ·have h := cond_t hb21 h
     refine ht_skip ?_
     refine pt_then ?_
     refine ht_seq ?_
     refine ht_block ?_
     refine ht_seq ?_
     obtain ⟨v3, hv3, h⟩ := bind_some h
     obtain ⟨v4, hv4, h⟩ := bind_some h
     obtain ⟨v5, hv5, h⟩ := bind_some h
     obtain ⟨v6, hv6, h⟩ := bind_some h
     refine ht_anyR (by kernel_rfl) hn (El := [_, _, _, _, (17, .fl .shr 1 (List.map (Value.int .u8) a)), (18, .v (.int .i64 s12)), (19, .eref (.slot 17) (v3 * 1)), (20, .v (.int .u8 v4)), (21, .fl .shr 1 (List.map (Value.int .u8) b)), (22, .v (.int .i64 s12)), (23, .eref (.slot 21) (v5 * 1)), (24, .v (.int .u8 v6)), (25, .v (.bool (v4 != v6)))]) (init := [0, 1, 2, 3]) (fin := [0, 1, 2, 12]) (sps := [⟨[0], [], [4], [(.slot 17)]⟩, ⟨[2], [], [5], [(.slot 18)]⟩, ⟨[4, 5], [], [6], [(.slot 19)]⟩, ⟨[6, 4], [], [7], [(.slot 20)]⟩, ⟨[1], [], [8], [(.slot 21)]⟩, ⟨[2], [], [9], [(.slot 22)]⟩, ⟨[8, 9], [], [10], [(.slot 23)]⟩, ⟨[10, 8], [], [11], [(.slot 24)]⟩, ⟨[7, 11], [], [12], [(.slot 25)]⟩]) (es' := [(_, _), (_, _), (_, _), (25, .v (.bool (v4 != v6)))]) (by kernel_rfl) rfl rfl
      ⟨st_plain rfl (op_move _ _ _ _ rfl rfl),
      st_plain rfl (op_move _ _ _ _ rfl rfl),
      st_plain rfl (op_ix _ _ _ _ _ _ _ _ Tryd.underlying22 sz5 (by decide) rfl rfl rfl (ix_ok hv3).1 (map_lt (ix_ok hv3).2) rfl),
      st_plain rfl (op_load_e _ _ _ _ _ _ Tryd.underlying5 rfl rfl rfl (map_get hv4)),
      st_plain rfl (op_move _ _ _ _ rfl rfl),
      st_plain rfl (op_move _ _ _ _ rfl rfl),
      st_plain rfl (op_ix _ _ _ _ _ _ _ _ Tryd.underlying22 sz5 (by decide) rfl rfl rfl (ix_ok hv5).1 (map_lt (ix_ok hv5).2) rfl),
      st_plain rfl (op_load_e _ _ _ _ _ _ Tryd.underlying5 rfl rfl rfl (map_get hv6)),
      st_plain rfl (op_bin _ _ _ _ _ rfl rfl rfl),
      trivial⟩ ?_
     refine pt_then ?_
     refine ht_cond _ rfl (fun hb22 => ?_) (fun hb22 => ?_)
     ·have h := cond_t hb22 h
      refine ht_seq ?_
      refine ht_seqR hn (El := [_, _, _, _, (4, .v (.bool false))]) (init := [0, 1, 2, 3]) (fin := [4]) (sps := [⟨[], [], [4], [(.slot 4)]⟩]) (es' := [(4, .v (.bool false))]) (by kernel_rfl) rfl rfl
       ⟨st_plain rfl (op_assign _ _ _ _ rfl rfl),
       trivial⟩ ?_
      refine pt_then ?_
      refine ht_ret ?_
      refine pt_r_in ?_
      refine pt_r_then ?_
      refine pt_r_then ?_
      refine pt_r_in ?_
      refine pt_r_then ?_
      have h := hr17 _ (ho18 _ (Option.some.inj h).symm).symm
      obtain rfl := Option.some.inj h
      exact pt_ret hio rfl (.tmp _ _ .nil) rfl rfl
     ·have h := cond_f hb22 h
      refine ht_skip ?_
      refine pt_inb ?_
      refine pt_then ?_
      obtain ⟨v8, hv8, h⟩ := bind_some h
      refine ht_seqR hn (El := [_, _, _, _, (15, .v (.int .i64 s12)), (16, .v (.int .i64 v8)), (5, .v (.int .i64 v8))]) (init := [0, 1, 2, 3]) (fin := [0, 1, 6]) (sps := [⟨[2], [], [4], [(.slot 15)]⟩, ⟨[4], [], [5], [(.slot 16)]⟩, ⟨[5], [2], [6], [(.slot 5)]⟩]) (es' := [(_, _), (_, _), (5, .v (.int .i64 v8))]) (by kernel_rfl) rfl rfl
       ⟨st_plain rfl (op_move _ _ _ _ rfl rfl),
       st_plain rfl (op_bin _ _ _ _ _ rfl rfl (ibind (f := Value.int .i64) (Option.some.inj hv8))),
       st_plain rfl (LOp.drop [_] (op_assign _ _ _ _ rfl rfl)),
       trivial⟩ ?_
      exact pt_next _ (Option.some.inj h).symm rfl
    ·have h := cond_f hb21 h
     refine ht_exit ?_
     refine pt_x_then ?_
     refine pt_x_then ?_
     refine pt_x_in ?_
     refine pt_pick [] (by kernel_rfl) (es' := []) rfl ?_
     exact hl16 _ (ho18 _ (Option.some.inj h).symm).symm

end Go.Proofs.YtadkeipbkbkneaaDoor
