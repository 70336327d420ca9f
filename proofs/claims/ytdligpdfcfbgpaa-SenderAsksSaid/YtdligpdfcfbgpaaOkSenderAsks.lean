/-
  The model's runs are what is told in Lean.
-/
import Derived.Test.YtdligpdfcfbgpaaProg
import Derived.KernelRfl
import Derived.Test.YtdligpdfcfbgpaaOkc3
set_option linter.unusedVariables false
set_option linter.unusedSimpArgs false
namespace Go.Proofs.Ytdligpdfcfbgpaa
open Go.Abs Go.Abs.Sh

set_option maxHeartbeats 1000000 in
theorem ok_wherrylaw21_SenderAsks (s : T_Send) (ticks : Int) (r : Bool) (h : Sh.wherrylaw21_SenderAsks s ticks = some r) : FnOK Try.prog 6 [.agg [.v (.int .i64 s.Number), .fl .shr 1 (List.map (Value.int .u8) s.Data), .v (.bool s.Ready), .v (.int .i64 s.Base), .v (.int .i64 s.Next), .v (.int .i64 s.Wait), .v (.bool s.Over)], .v (.int .i64 ticks)] (.v (.bool r)) := by
  unfold Sh.wherrylaw21_SenderAsks at h
  refine fn_ok Try.func6 rfl (Nat.le_of_ble_eq_true rfl) rfl rfl fun g0 hn hio => ?_
  refine ht_seq ?_
  refine ht_seqR hn (El := [_, _, (2, .box 24 [.v (.int .i64 s.Number), .fl .shr 1 (List.map (Value.int .u8) s.Data), .v (.bool s.Ready), .v (.int .i64 s.Base), .v (.int .i64 s.Next), .v (.int .i64 s.Wait), .v (.bool s.Over)]), (4, .v (.bool false))]) (init := [0, 1]) (fin := [1, 2]) (sps := [⟨[0], [], [2], [(.slot 2)]⟩, ⟨[], [], [3], [(.slot 4)]⟩]) (es' := [(_, _), (2, .box 24 [.v (.int .i64 s.Number), .fl .shr 1 (List.map (Value.int .u8) s.Data), .v (.bool s.Ready), .v (.int .i64 s.Base), .v (.int .i64 s.Next), .v (.int .i64 s.Wait), .v (.bool s.Over)])]) (by kernel_rfl) rfl rfl
   ⟨st_plain rfl (op_box _ _ _ _ rfl rfl rfl),
   st_plain rfl (op_assign _ _ _ _ rfl rfl),
   trivial⟩ ?_
  refine pt_then ?_
  refine ht_seq ?_
  refine ht_seq ?_
  refine ht_joinS h (fun (s2 : Bool) => [(1, .v (.int .i64 ticks)), (2, .box 24 [.v (.int .i64 s.Number), .fl .shr 1 (List.map (Value.int .u8) s.Data), .v (.bool s.Ready), .v (.int .i64 s.Base), .v (.int .i64 s.Next), .v (.int .i64 s.Wait), .v (.bool s.Over)]), (19, .v (.bool s2))]) ?_ ?_
  ·rintro s2 h
   refine pt_then ?_
   refine ht_cond _ rfl (fun hb6 => ?_) (fun hb6 => ?_)
   ·have h := cond_t hb6 h
    refine ht_seq ?_
    refine ht_seqR hn (El := [_, _, _, (4, .v (.bool true))]) (init := [0, 1, 2]) (fin := [3]) (sps := [⟨[], [], [3], [(.slot 4)]⟩]) (es' := [(4, .v (.bool true))]) (by kernel_rfl) rfl rfl
     ⟨st_plain rfl (op_assign _ _ _ _ rfl rfl),
     trivial⟩ ?_
    refine pt_then ?_
    refine ht_ret ?_
    refine pt_r_then ?_
    obtain rfl := Option.some.inj h
    exact pt_ret hio rfl (.tmp _ _ .nil) rfl rfl
   ·have h := cond_f hb6 h
    refine ht_skip ?_
    refine pt_then ?_
    refine ht_seq ?_
    obtain ⟨v7, hv7, h⟩ := bind_some h
    obtain ⟨v8, hv8, h⟩ := bind_some h
    obtain ⟨v9, hv9, h⟩ := bind_some h
    obtain ⟨v10, hv10, h⟩ := bind_some h
    refine ht_seqR hn (El := [_, _, _, (20, .v (.int .i64 ticks)), (21, .v (.int .u64 v7)), (22, .v (.int .u64 v8)), (23, .v (.int .i64 v9)), (24, .v (.int .i64 v10)), (1, .v (.int .i64 v10))]) (init := [0, 1, 2]) (fin := [1, 8]) (sps := [⟨[0], [], [3], [(.slot 20)]⟩, ⟨[3], [], [4], [(.slot 21)]⟩, ⟨[4], [], [5], [(.slot 22)]⟩, ⟨[5], [], [6], [(.slot 23)]⟩, ⟨[6], [], [7], [(.slot 24)]⟩, ⟨[7], [0], [8], [(.slot 1)]⟩]) (es' := [(_, _), (1, .v (.int .i64 v10))]) (by kernel_rfl) rfl rfl
     ⟨st_plain rfl (op_move _ _ _ _ rfl rfl),
     st_plain rfl ((Option.some.inj hv7) ▸ op_conv _ _ _ Try.underlying3 Try.underlying51 rfl),
     st_plain rfl (op_bin _ _ _ _ _ rfl rfl (rem_ok hv8)),
     st_plain rfl ((Option.some.inj hv9) ▸ op_conv _ _ _ Try.underlying51 Try.underlying3 rfl),
     st_plain rfl (op_bin _ _ _ _ _ rfl rfl (ibind (f := Value.int .i64) (Option.some.inj hv10))),
     st_plain rfl (LOp.drop [_] (op_assign _ _ _ _ rfl rfl)),
     trivial⟩ ?_
    refine pt_then ?_
    refine ht_seq ?_
    refine ht_seqR hn (El := [_, _, (5, .v (.int .i64 0)), (6, .v (.bool false))]) (init := [0, 1]) (fin := [0, 1, 2, 3]) (sps := [⟨[], [], [2], [(.slot 5)]⟩, ⟨[], [], [3], [(.slot 6)]⟩]) (es' := [(_, _), (_, _), (5, .v (.int .i64 0)), (6, .v (.bool false))]) (by kernel_rfl) rfl rfl
     ⟨st_plain rfl (op_assign _ _ _ _ rfl rfl),
     st_plain rfl (op_assign _ _ _ _ rfl rfl),
     trivial⟩ ?_
    refine pt_then ?_
    refine ht_seq ?_
    refine ht_seq ?_
    refine ht_seqR hn (El := [_, _, _, _, (7, .v (.int .i64 0))]) (init := [0, 1, 2, 3]) (fin := [0, 1, 2, 3, 4]) (sps := [⟨[], [], [4], [(.slot 7)]⟩]) (es' := [(_, _), (_, _), (_, _), (_, _), (7, .v (.int .i64 0))]) (by kernel_rfl) rfl rfl
     ⟨st_plain rfl (op_assign _ _ _ _ rfl rfl),
     trivial⟩ ?_
    refine pt_then ?_
    refine ht_loopS h (fun ((s62, s63, s64, s65, s66, s67, s68, s69, s70, s71) : Int × (List Int) × Bool × Int × Int × Int × Bool × Int × Bool × Int) => [(2, .box 24 [.v (.int .i64 s62), .fl .shr 1 (List.map (Value.int .u8) s63), .v (.bool s64), .v (.int .i64 s65), .v (.int .i64 s66), .v (.int .i64 s67), .v (.bool s68)]), (1, .v (.int .i64 v10)), (5, .v (.int .i64 s69)), (6, .v (.bool s70)), (7, .v (.int .i64 s71))]) (fun ((s89, s90, s91, s92, s93, s94, s95, s96) : Int × (List Int) × Bool × Int × Int × Int × Bool × Bool) => [(2, .box 24 [.v (.int .i64 s89), .fl .shr 1 (List.map (Value.int .u8) s90), .v (.bool s91), .v (.int .i64 s92), .v (.int .i64 s93), .v (.int .i64 s94), .v (.bool s95)]), (1, .v (.int .i64 v10)), (6, .v (.bool s96))]) ?_ ?_
    ·rintro ⟨s89, s90, s91, s92, s93, s94, s95, s96⟩ h
     refine pt_then ?_
     refine ht_seq ?_
     refine ht_joinS h (fun (s123 : Bool) => [(4, .v (.bool s123))]) ?_ ?_
     ·rintro s123 h
      refine pt_then ?_
      refine ht_ret ?_
      obtain rfl := Option.some.inj h
      exact pt_ret hio rfl (.tmp _ _ .nil) rfl rfl
     ·intro u124 h hl125 hr126
      refine cond_some h (fun hg18_2 h => ?_) (fun hg18_2 h => ?_)
      ·obtain ⟨v120, hv120, h⟩ := bind_some h
       refine ht_seqR hn (El := (_ :: _ :: _ :: (73, .ptr 2 6) :: (74, .v (.bool s95)) :: (75, .v (.bool true)) :: (76, .v undef) :: (77, .v undef) :: (78, .v (.bool true)) :: (79, .v (.bool true)) :: (80, .v undef) :: (81, .v (.bool true)) :: (82, .v (.bool true)) :: (83, .v (.bool v120)) :: (84, .v (.bool v120)) :: (4, .v (.bool v120)) :: [])) (init := [0, 1, 2]) (fin := [15]) (sps := [⟨[0], [], [3], [(.slot 73)]⟩, ⟨[3, 0], [], [4], [(.slot 74)]⟩, ⟨[4], [], [5], [(.slot 75)]⟩, ⟨[5], [], [6], [(.slot 76)]⟩, ⟨[5], [], [7], [(.slot 77)]⟩, ⟨[5], [], [8], [(.slot 78)]⟩, ⟨[8], [], [9], [(.slot 79)]⟩, ⟨[9], [], [10], [(.slot 80)]⟩, ⟨[9], [], [11], [(.slot 81)]⟩, ⟨[11], [], [12], [(.slot 82)]⟩, ⟨[12], [], [13], [(.slot 83)]⟩, ⟨[12, 13], [], [14], [(.slot 84)]⟩, ⟨[14], [], [15], [(.slot 4)]⟩]) (es' := [(4, .v (.bool v120))]) (by kernel_rfl) rfl rfl
        ⟨st_plain rfl (op_fieldAddr _ _ _ _ 2 0 _ Try.underlying24 rfl sz4 rfl rfl (by decide)),
        st_plain rfl (op_load _ _ _ _ _ _ Try.underlying4 rfl rfl rfl (Nat.le_of_ble_eq_true rfl) rfl rfl rfl),
        st_plain rfl (op_move _ _ _ _ (congrArg (fun b => AV.v (Value.bool b)) hg18_2) rfl),
        st_skip 2 75 _ false rfl rfl rfl rfl (List.Mem.head _),
        st_skip 2 75 _ false rfl rfl rfl rfl (List.Mem.head _),
        st_plain rfl (op_pick _ _ true _ rfl rfl),
        st_plain rfl (op_move _ _ _ _ rfl rfl),
        st_skip 6 79 _ false rfl rfl rfl rfl (List.Mem.head _),
        st_plain rfl (op_pick _ _ true _ rfl rfl),
        st_plain rfl (op_move _ _ _ _ rfl rfl),
        st_run 9 82 true rfl rfl rfl (List.Mem.head _) (op_call _ _ 21 _ _ rfl Try.call21 rfl (ok_wherrylaw21_wakes  _ hv120) rfl rfl),
        st_plain rfl (op_pick _ _ true _ rfl rfl),
        st_plain rfl (op_assign _ _ _ _ rfl rfl),
        trivial⟩ ?_
       exact hl125 _ (Option.some.inj h).symm
      ·refine cond_some h (fun hg18_6 h => ?_) (fun hg18_6 h => ?_)
       ·obtain ⟨v121, hv121, h⟩ := bind_some h
        refine ht_seqR hn (El := (_ :: _ :: _ :: (73, .ptr 2 6) :: (74, .v (.bool s95)) :: (75, .v (.bool false)) :: (76, .v (.int .i64 v10)) :: (77, .v (.bool ((decide (v10 < 9))))) :: (78, .v (.bool ((decide (v10 < 9))))) :: (79, .v (.bool true)) :: (80, .v undef) :: (81, .v (.bool true)) :: (82, .v (.bool true)) :: (83, .v (.bool v121)) :: (84, .v (.bool v121)) :: (4, .v (.bool v121)) :: [])) (init := [0, 1, 2]) (fin := [15]) (sps := [⟨[0], [], [3], [(.slot 73)]⟩, ⟨[3, 0], [], [4], [(.slot 74)]⟩, ⟨[4], [], [5], [(.slot 75)]⟩, ⟨[5, 1], [], [6], [(.slot 76)]⟩, ⟨[5, 6], [], [7], [(.slot 77)]⟩, ⟨[5, 7], [], [8], [(.slot 78)]⟩, ⟨[8], [], [9], [(.slot 79)]⟩, ⟨[9], [], [10], [(.slot 80)]⟩, ⟨[9], [], [11], [(.slot 81)]⟩, ⟨[11], [], [12], [(.slot 82)]⟩, ⟨[12], [], [13], [(.slot 83)]⟩, ⟨[12, 13], [], [14], [(.slot 84)]⟩, ⟨[14], [], [15], [(.slot 4)]⟩]) (es' := [(4, .v (.bool v121))]) (by kernel_rfl) rfl rfl
         ⟨st_plain rfl (op_fieldAddr _ _ _ _ 2 0 _ Try.underlying24 rfl sz4 rfl rfl (by decide)),
         st_plain rfl (op_load _ _ _ _ _ _ Try.underlying4 rfl rfl rfl (Nat.le_of_ble_eq_true rfl) rfl rfl rfl),
         st_plain rfl (op_move _ _ _ _ (congrArg (fun b => AV.v (Value.bool b)) hg18_2) rfl),
         st_run 2 75 false rfl rfl rfl (List.Mem.head _) (op_move _ _ _ _ rfl rfl),
         st_run 2 75 false rfl rfl rfl (List.Mem.head _) (op_bin _ _ _ _ _ rfl rfl rfl),
         st_plain rfl (op_pick _ _ false _ rfl rfl),
         st_plain rfl (op_move _ _ _ _ (congrArg (fun b => AV.v (Value.bool b)) hg18_6) rfl),
         st_skip 6 79 _ false rfl rfl rfl rfl (List.Mem.head _),
         st_plain rfl (op_pick _ _ true _ rfl rfl),
         st_plain rfl (op_move _ _ _ _ rfl rfl),
         st_run 9 82 true rfl rfl rfl (List.Mem.head _) (op_call _ _ 21 _ _ rfl Try.call21 rfl (ok_wherrylaw21_wakes  _ hv121) rfl rfl),
         st_plain rfl (op_pick _ _ true _ rfl rfl),
         st_plain rfl (op_assign _ _ _ _ rfl rfl),
         trivial⟩ ?_
        exact hl125 _ (Option.some.inj h).symm
       ·refine cond_some h (fun hg18_9 h => ?_) (fun hg18_9 h => ?_)
        ·obtain ⟨v122, hv122, h⟩ := bind_some h
         refine ht_seqR hn (El := (_ :: _ :: _ :: (73, .ptr 2 6) :: (74, .v (.bool s95)) :: (75, .v (.bool false)) :: (76, .v (.int .i64 v10)) :: (77, .v (.bool ((decide (v10 < 9))))) :: (78, .v (.bool ((decide (v10 < 9))))) :: (79, .v (.bool false)) :: (80, .v (.bool s96)) :: (81, .v (.bool s96)) :: (82, .v (.bool true)) :: (83, .v (.bool v122)) :: (84, .v (.bool v122)) :: (4, .v (.bool v122)) :: [])) (init := [0, 1, 2]) (fin := [15]) (sps := [⟨[0], [], [3], [(.slot 73)]⟩, ⟨[3, 0], [], [4], [(.slot 74)]⟩, ⟨[4], [], [5], [(.slot 75)]⟩, ⟨[5, 1], [], [6], [(.slot 76)]⟩, ⟨[5, 6], [], [7], [(.slot 77)]⟩, ⟨[5, 7], [], [8], [(.slot 78)]⟩, ⟨[8], [], [9], [(.slot 79)]⟩, ⟨[9, 2], [], [10], [(.slot 80)]⟩, ⟨[9, 10], [], [11], [(.slot 81)]⟩, ⟨[11], [], [12], [(.slot 82)]⟩, ⟨[12], [], [13], [(.slot 83)]⟩, ⟨[12, 13], [], [14], [(.slot 84)]⟩, ⟨[14], [], [15], [(.slot 4)]⟩]) (es' := [(4, .v (.bool v122))]) (by kernel_rfl) rfl rfl
          ⟨st_plain rfl (op_fieldAddr _ _ _ _ 2 0 _ Try.underlying24 rfl sz4 rfl rfl (by decide)),
          st_plain rfl (op_load _ _ _ _ _ _ Try.underlying4 rfl rfl rfl (Nat.le_of_ble_eq_true rfl) rfl rfl rfl),
          st_plain rfl (op_move _ _ _ _ (congrArg (fun b => AV.v (Value.bool b)) hg18_2) rfl),
          st_run 2 75 false rfl rfl rfl (List.Mem.head _) (op_move _ _ _ _ rfl rfl),
          st_run 2 75 false rfl rfl rfl (List.Mem.head _) (op_bin _ _ _ _ _ rfl rfl rfl),
          st_plain rfl (op_pick _ _ false _ rfl rfl),
          st_plain rfl (op_move _ _ _ _ (congrArg (fun b => AV.v (Value.bool b)) hg18_6) rfl),
          st_run 6 79 false rfl rfl rfl (List.Mem.head _) (op_move _ _ _ _ rfl rfl),
          st_plain rfl (op_pick _ _ false _ rfl rfl),
          st_plain rfl (op_move _ _ _ _ (congrArg (fun b => AV.v (Value.bool b)) hg18_9) rfl),
          st_run 9 82 true rfl rfl rfl (List.Mem.head _) (op_call _ _ 21 _ _ rfl Try.call21 rfl (ok_wherrylaw21_wakes  _ hv122) rfl rfl),
          st_plain rfl (op_pick _ _ true _ rfl rfl),
          st_plain rfl (op_assign _ _ _ _ rfl rfl),
          trivial⟩ ?_
         exact hl125 _ (Option.some.inj h).symm
        ·refine ht_seqR hn (El := (_ :: _ :: _ :: (73, .ptr 2 6) :: (74, .v (.bool s95)) :: (75, .v (.bool false)) :: (76, .v (.int .i64 v10)) :: (77, .v (.bool ((decide (v10 < 9))))) :: (78, .v (.bool ((decide (v10 < 9))))) :: (79, .v (.bool false)) :: (80, .v (.bool s96)) :: (81, .v (.bool s96)) :: (82, .v (.bool false)) :: (83, .v undef) :: (84, .v (.bool false)) :: (4, .v (.bool false)) :: [])) (init := [0, 1, 2]) (fin := [15]) (sps := [⟨[0], [], [3], [(.slot 73)]⟩, ⟨[3, 0], [], [4], [(.slot 74)]⟩, ⟨[4], [], [5], [(.slot 75)]⟩, ⟨[5, 1], [], [6], [(.slot 76)]⟩, ⟨[5, 6], [], [7], [(.slot 77)]⟩, ⟨[5, 7], [], [8], [(.slot 78)]⟩, ⟨[8], [], [9], [(.slot 79)]⟩, ⟨[9, 2], [], [10], [(.slot 80)]⟩, ⟨[9, 10], [], [11], [(.slot 81)]⟩, ⟨[11], [], [12], [(.slot 82)]⟩, ⟨[12], [], [13], [(.slot 83)]⟩, ⟨[12], [], [14], [(.slot 84)]⟩, ⟨[14], [], [15], [(.slot 4)]⟩]) (es' := [(4, .v (.bool false))]) (by kernel_rfl) rfl rfl
          ⟨st_plain rfl (op_fieldAddr _ _ _ _ 2 0 _ Try.underlying24 rfl sz4 rfl rfl (by decide)),
          st_plain rfl (op_load _ _ _ _ _ _ Try.underlying4 rfl rfl rfl (Nat.le_of_ble_eq_true rfl) rfl rfl rfl),
          st_plain rfl (op_move _ _ _ _ (congrArg (fun b => AV.v (Value.bool b)) hg18_2) rfl),
          st_run 2 75 false rfl rfl rfl (List.Mem.head _) (op_move _ _ _ _ rfl rfl),
          st_run 2 75 false rfl rfl rfl (List.Mem.head _) (op_bin _ _ _ _ _ rfl rfl rfl),
          st_plain rfl (op_pick _ _ false _ rfl rfl),
          st_plain rfl (op_move _ _ _ _ (congrArg (fun b => AV.v (Value.bool b)) hg18_6) rfl),
          st_run 6 79 false rfl rfl rfl (List.Mem.head _) (op_move _ _ _ _ rfl rfl),
          st_plain rfl (op_pick _ _ false _ rfl rfl),
          st_plain rfl (op_move _ _ _ _ (congrArg (fun b => AV.v (Value.bool b)) hg18_9) rfl),
          st_skip 9 82 _ true rfl rfl rfl rfl (List.Mem.head _),
          st_plain rfl (op_pick _ _ false _ rfl rfl),
          st_plain rfl (op_assign _ _ _ _ rfl rfl),
          trivial⟩ ?_
         exact hl125 _ (Option.some.inj h).symm
    ·rintro u97 hl98 hr99 ⟨s62, s63, s64, s65, s66, s67, s68, s69, s70, s71⟩ rr102 h ho100
     refine ht_seq ?_
     refine ht_seq ?_
     refine ht_seqR hn (El := [_, _, _, _, _, (25, .v (.int .i64 s71)), (26, .v (.int .i64 v10)), (27, .v (.bool ((decide (s71 < v10)))))]) (init := [0, 1, 2, 3, 4]) (fin := [0, 1, 2, 3, 4, 7]) (sps := [⟨[4], [], [5], [(.slot 25)]⟩, ⟨[1], [], [6], [(.slot 26)]⟩, ⟨[5, 6], [], [7], [(.slot 27)]⟩]) (es' := [(_, _), (_, _), (_, _), (_, _), (_, _), (27, .v (.bool ((decide (s71 < v10)))))]) (by kernel_rfl) rfl rfl
      ⟨st_plain rfl (op_move _ _ _ _ rfl rfl),
      st_plain rfl (op_move _ _ _ _ rfl rfl),
      st_plain rfl (op_bin _ _ _ _ _ rfl rfl rfl),
      trivial⟩ ?_
     refine pt_then ?_
     refine ht_cond _ rfl (fun hb103 => ?_) (fun hb103 => ?_)
     ·have h := cond_t hb103 h
      refine ht_skip ?_
      refine pt_then ?_
      refine ht_seq ?_
      refine ht_block ?_
      refine ht_seq ?_
      obtain ⟨v12, hv12, h⟩ := bind_some h
      refine ht_seqR hn (El := (_ :: _ :: _ :: _ :: _ :: _ :: (31, .agg [.v (.int .i64 s62), .fl .shr 1 (List.map (Value.int .u8) s63), .v (.bool s64), .v (.int .i64 s65), .v (.int .i64 s66), .v (.int .i64 s67), .v (.bool s68)]) :: (32, .tup [.agg [.v (.int .i64 v12.1.Number), .fl (.own 5) 1 (List.map (Value.int .u8) v12.1.Data), .v (.bool v12.1.Ready), .v (.int .i64 v12.1.Base), .v (.int .i64 v12.1.Next), .v (.int .i64 v12.1.Wait), .v (.bool v12.1.Over)], .fr (.own 26) false 5 (List.flatten (List.map T_Frame.ienc v12.2.1)), .v (.int .i64 v12.2.2)]) :: (30, .tup [.agg [.v (.int .i64 v12.1.Number), .fl (.own 5) 1 (List.map (Value.int .u8) v12.1.Data), .v (.bool v12.1.Ready), .v (.int .i64 v12.1.Base), .v (.int .i64 v12.1.Next), .v (.int .i64 v12.1.Wait), .v (.bool v12.1.Over)], .fr (.own 26) false 5 (List.flatten (List.map T_Frame.ienc v12.2.1)), .v (.int .i64 v12.2.2)]) :: (33, .agg [.v (.int .i64 v12.1.Number), .fl (.own 5) 1 (List.map (Value.int .u8) v12.1.Data), .v (.bool v12.1.Ready), .v (.int .i64 v12.1.Base), .v (.int .i64 v12.1.Next), .v (.int .i64 v12.1.Wait), .v (.bool v12.1.Over)]) :: (30, .tup [.any, .fr (.own 26) false 5 (List.flatten (List.map T_Frame.ienc v12.2.1)), .v (.int .i64 v12.2.2)]) :: (34, .fr (.own 26) false 5 (List.flatten (List.map T_Frame.ienc v12.2.1))) :: (30, .tup [.any, .any, .v (.int .i64 v12.2.2)]) :: (35, .v (.int .i64 v12.2.2)) :: (8, .box 24 [.v (.int .i64 0), .v (.slice none 0 0), .v (.bool false), .v (.int .i64 0), .v (.int .i64 0), .v (.int .i64 0), .v (.bool false)]) :: (8, .box 24 [.v (.int .i64 v12.1.Number), .fl (.own 5) 1 (List.map (Value.int .u8) v12.1.Data), .v (.bool v12.1.Ready), .v (.int .i64 v12.1.Base), .v (.int .i64 v12.1.Next), .v (.int .i64 v12.1.Wait), .v (.bool v12.1.Over)]) :: (9, .fr (.own 26) false 5 (List.flatten (List.map T_Frame.ienc v12.2.1))) :: (10, .v (.int .i64 v12.2.2)) :: [])) (init := [0, 1, 2, 3, 4, 5]) (fin := [0, 1, 2, 3, 4, 15, 16, 17]) (sps := [⟨[0], [], [6], [(.slot 31)]⟩, ⟨[6], [], [7], [(.slot 32)]⟩, ⟨[], [7], [8], [(.slot 30)]⟩, ⟨[], [8], [10, 9], [(.slot 33)]⟩, ⟨[], [10], [12, 11], [(.slot 34)]⟩, ⟨[12], [], [13], [(.slot 35)]⟩, ⟨[], [], [14], [(.slot 8)]⟩, ⟨[], [9, 14], [15], [.cell 8 0, .cell 8 1, .cell 8 2, .cell 8 3, .cell 8 4, .cell 8 5, .cell 8 6]⟩, ⟨[], [11], [16], [(.slot 9)]⟩, ⟨[13], [], [17], [(.slot 10)]⟩]) (es' := [(_, _), (_, _), (_, _), (_, _), (_, _), (8, .box 24 [.v (.int .i64 v12.1.Number), .fl (.own 5) 1 (List.map (Value.int .u8) v12.1.Data), .v (.bool v12.1.Ready), .v (.int .i64 v12.1.Base), .v (.int .i64 v12.1.Next), .v (.int .i64 v12.1.Wait), .v (.bool v12.1.Over)]), (9, .fr (.own 26) false 5 (List.flatten (List.map T_Frame.ienc v12.2.1))), (10, .v (.int .i64 v12.2.2))]) (by kernel_rfl) rfl rfl
       ⟨st_plain rfl (op_loadA _ _ _ _ _ _ _ Try.underlying24 rfl sz24 rfl rfl (Nat.le_of_ble_eq_true rfl) rfl rfl),
       st_plain rfl (op_call _ _ 14 _ _ rfl Try.call14 rfl (ok_sender_Tick (T_Send.mk s62 s63 s64 s65 s66 s67 s68) _ hv12) rfl rfl),
       st_plain rfl (op_move_take _ _ _ _ rfl),
       st_plain rfl (op_extract_take _ _ _ _ _ rfl (Nat.le_of_ble_eq_true rfl) rfl rfl (by decide) rfl),
       st_plain rfl (op_extract_take _ _ _ _ _ rfl (Nat.le_of_ble_eq_true rfl) rfl rfl (by decide) rfl),
       st_plain rfl (op_extract _ _ _ _ _ rfl rfl (Nat.le_of_ble_eq_true rfl) rfl rfl),
       st_plain rfl (op_alloc _ _ zr24),
       st_plain rfl (op_store_take _ _ _ _ _ _ _ _ sz24 rfl rfl rfl (Nat.le_of_ble_eq_true rfl) rfl rfl),
       st_plain rfl (op_assign_take _ _ _ _ rfl),
       st_plain rfl (op_assign _ _ _ _ rfl rfl),
       trivial⟩ ?_
      refine pt_then ?_
      refine ht_seq ?_
      refine ht_seq ?_
      refine ht_seqR hn (El := [_, _, _, _, _, _, _, _, (36, .v (.int .i64 v12.2.2)), (37, .v (.bool (v12.2.2 != 0)))]) (init := [0, 1, 2, 3, 4, 5, 6, 7]) (fin := [0, 1, 2, 3, 4, 5, 6, 9]) (sps := [⟨[7], [], [8], [(.slot 36)]⟩, ⟨[8], [], [9], [(.slot 37)]⟩]) (es' := [(_, _), (_, _), (_, _), (_, _), (_, _), (_, _), (_, _), (37, .v (.bool (v12.2.2 != 0)))]) (by kernel_rfl) rfl rfl
       ⟨st_plain rfl (op_move _ _ _ _ rfl rfl),
       st_plain rfl (op_bin _ _ _ _ _ rfl rfl rfl),
       trivial⟩ ?_
      refine pt_then ?_
      refine ht_cond _ rfl (fun hb104 => ?_) (fun hb104 => ?_)
      ·have h := cond_t hb104 h
       refine ht_seq ?_
       refine ht_seqR hn (El := [_, _, _, _, _, _, _, _, (4, .v (.bool false))]) (init := [0, 1, 2, 3, 4, 5, 6, 7]) (fin := [8]) (sps := [⟨[], [], [8], [(.slot 4)]⟩]) (es' := [(4, .v (.bool false))]) (by kernel_rfl) rfl rfl
        ⟨st_plain rfl (op_assign _ _ _ _ rfl rfl),
        trivial⟩ ?_
       refine pt_then ?_
       refine ht_ret ?_
       refine pt_r_then ?_
       refine pt_r_in ?_
       refine pt_r_then ?_
       refine pt_r_then ?_
       refine pt_r_in ?_
       refine pt_r_then ?_
       have h := hr99 _ (ho100 _ (Option.some.inj h).symm).symm
       obtain rfl := Option.some.inj h
       exact pt_ret hio rfl (.tmp _ _ .nil) rfl rfl
      ·have h := cond_f hb104 h
       refine ht_skip ?_
       refine pt_then ?_
       refine ht_seq ?_
       obtain ⟨v14, hv14, h⟩ := bind_some h
       refine ht_seqR hn (El := [_, _, _, _, _, _, _, _, (38, .v (.int .i64 s69)), (39, .v (.int .i64 v14)), (5, .v (.int .i64 v14))]) (init := [0, 1, 2, 3, 4, 5, 6, 7]) (fin := [0, 1, 3, 4, 5, 6, 10]) (sps := [⟨[2], [], [8], [(.slot 38)]⟩, ⟨[8], [], [9], [(.slot 39)]⟩, ⟨[9], [2], [10], [(.slot 5)]⟩]) (es' := [(_, _), (_, _), (_, _), (_, _), (_, _), (_, _), (5, .v (.int .i64 v14))]) (by kernel_rfl) rfl rfl
        ⟨st_plain rfl (op_move _ _ _ _ rfl rfl),
        st_plain rfl (op_bin _ _ _ _ _ rfl rfl (ibind (f := Value.int .i64) (Option.some.inj hv14))),
        st_plain rfl (LOp.drop [_] (op_assign _ _ _ _ rfl rfl)),
        trivial⟩ ?_
       refine pt_then ?_
       refine ht_seq ?_
       refine ht_joinS h (fun (s106 : Int) => [(2, .box 24 [.v (.int .i64 s62), .fl .shr 1 (List.map (Value.int .u8) s63), .v (.bool s64), .v (.int .i64 s65), .v (.int .i64 s66), .v (.int .i64 s67), .v (.bool s68)]), (1, .v (.int .i64 v10)), (6, .v (.bool s70)), (7, .v (.int .i64 s71)), (8, .box 24 [.v (.int .i64 v12.1.Number), .fl (.own 5) 1 (List.map (Value.int .u8) v12.1.Data), .v (.bool v12.1.Ready), .v (.int .i64 v12.1.Base), .v (.int .i64 v12.1.Next), .v (.int .i64 v12.1.Wait), .v (.bool v12.1.Over)]), (9, .fr (.own 26) false 5 (List.flatten (List.map T_Frame.ienc v12.2.1))), (5, .v (.int .i64 s106))]) ?_ ?_
       ·rintro s106 h
        refine pt_then ?_
        refine ht_seq ?_
        refine ht_joinS h (fun (s111 : Bool) => [(2, .box 24 [.v (.int .i64 s62), .fl .shr 1 (List.map (Value.int .u8) s63), .v (.bool s64), .v (.int .i64 s65), .v (.int .i64 s66), .v (.int .i64 s67), .v (.bool s68)]), (1, .v (.int .i64 v10)), (7, .v (.int .i64 s71)), (8, .box 24 [.v (.int .i64 v12.1.Number), .fl (.own 5) 1 (List.map (Value.int .u8) v12.1.Data), .v (.bool v12.1.Ready), .v (.int .i64 v12.1.Base), .v (.int .i64 v12.1.Next), .v (.int .i64 v12.1.Wait), .v (.bool v12.1.Over)]), (9, .fr (.own 26) false 5 (List.flatten (List.map T_Frame.ienc v12.2.1))), (5, .v (.int .i64 s106)), (6, .v (.bool s111))]) ?_ ?_
        ·rintro s111 h
         refine pt_then ?_
         refine ht_seq ?_
         refine ht_seq ?_
         refine ht_joinS h (fun (s115 : Bool) => [(2, .box 24 [.v (.int .i64 s62), .fl .shr 1 (List.map (Value.int .u8) s63), .v (.bool s64), .v (.int .i64 s65), .v (.int .i64 s66), .v (.int .i64 s67), .v (.bool s68)]), (1, .v (.int .i64 v10)), (7, .v (.int .i64 s71)), (8, .box 24 [.v (.int .i64 v12.1.Number), .fl (.own 5) 1 (List.map (Value.int .u8) v12.1.Data), .v (.bool v12.1.Ready), .v (.int .i64 v12.1.Base), .v (.int .i64 v12.1.Next), .v (.int .i64 v12.1.Wait), .v (.bool v12.1.Over)]), (5, .v (.int .i64 s106)), (6, .v (.bool s111)), (71, .v (.bool s115))]) ?_ ?_
         ·rintro s115 h
          refine pt_then ?_
          refine ht_cond _ rfl (fun hb119 => ?_) (fun hb119 => ?_)
          ·have h := cond_t hb119 h
           refine ht_seq ?_
           refine ht_seqR hn (El := [_, _, _, _, _, _, _, (4, .v (.bool false))]) (init := [0, 1, 2, 3, 4, 5, 6]) (fin := [7]) (sps := [⟨[], [], [7], [(.slot 4)]⟩]) (es' := [(4, .v (.bool false))]) (by kernel_rfl) rfl rfl
            ⟨st_plain rfl (op_assign _ _ _ _ rfl rfl),
            trivial⟩ ?_
           refine pt_then ?_
           refine ht_ret ?_
           refine pt_r_then ?_
           refine pt_r_in ?_
           refine pt_r_then ?_
           refine pt_r_then ?_
           refine pt_r_in ?_
           refine pt_r_then ?_
           have h := hr99 _ (ho100 _ (Option.some.inj h).symm).symm
           obtain rfl := Option.some.inj h
           exact pt_ret hio rfl (.tmp _ _ .nil) rfl rfl
          ·have h := cond_f hb119 h
           refine ht_skip ?_
           refine pt_then ?_
           refine ht_seqR hn (El := [_, _, _, _, _, _, _, (72, .agg [.v (.int .i64 v12.1.Number), .fl (.own 5) 1 (List.map (Value.int .u8) v12.1.Data), .v (.bool v12.1.Ready), .v (.int .i64 v12.1.Base), .v (.int .i64 v12.1.Next), .v (.int .i64 v12.1.Wait), .v (.bool v12.1.Over)]), (2, .box 24 [.v (.int .i64 v12.1.Number), .fl (.own 5) 1 (List.map (Value.int .u8) v12.1.Data), .v (.bool v12.1.Ready), .v (.int .i64 v12.1.Base), .v (.int .i64 v12.1.Next), .v (.int .i64 v12.1.Wait), .v (.bool v12.1.Over)])]) (init := [0, 1, 2, 3, 4, 5, 6]) (fin := [8, 1, 2, 4, 5]) (sps := [⟨[], [3], [7], [(.slot 72)]⟩, ⟨[], [7, 0], [8], [.cell 2 0, .cell 2 1, .cell 2 2, .cell 2 3, .cell 2 4, .cell 2 5, .cell 2 6]⟩]) (es' := [(2, .box 24 [.v (.int .i64 v12.1.Number), .fl (.own 5) 1 (List.map (Value.int .u8) v12.1.Data), .v (.bool v12.1.Ready), .v (.int .i64 v12.1.Base), .v (.int .i64 v12.1.Next), .v (.int .i64 v12.1.Wait), .v (.bool v12.1.Over)]), (_, _), (_, _), (_, _), (_, _)]) (by kernel_rfl) rfl rfl
            ⟨st_plain rfl (op_loadA_take _ _ _ _ Try.underlying24 rfl sz24 rfl rfl),
            st_plain rfl (op_store_take _ _ _ _ _ _ _ _ sz24 rfl rfl rfl (Nat.le_of_ble_eq_true rfl) rfl rfl),
            trivial⟩ ?_
           refine pt_inb ?_
           refine pt_then ?_
           obtain ⟨v32, hv32, h⟩ := bind_some h
           refine ht_seqR hn (El := [_, _, _, _, _, (28, .v (.int .i64 s71)), (29, .v (.int .i64 v32)), (7, .v (.int .i64 v32))]) (init := [0, 1, 2, 3, 4]) (fin := [0, 1, 3, 4, 7]) (sps := [⟨[2], [], [5], [(.slot 28)]⟩, ⟨[5], [], [6], [(.slot 29)]⟩, ⟨[6], [2], [7], [(.slot 7)]⟩]) (es' := [(_, _), (_, _), (_, _), (_, _), (7, .v (.int .i64 v32))]) (by kernel_rfl) rfl rfl
            ⟨st_plain rfl (op_move _ _ _ _ rfl rfl),
            st_plain rfl (op_bin _ _ _ _ _ rfl rfl (ibind (f := Value.int .i64) (Option.some.inj hv32))),
            st_plain rfl (LOp.drop [_] (op_assign _ _ _ _ rfl rfl)),
            trivial⟩ ?_
           refine pt_frz 0 hio (es' := [(2, .box 24 [.v (.int .i64 v12.1.Number), .fl .ro 1 (List.map (Value.int .u8) v12.1.Data), .v (.bool v12.1.Ready), .v (.int .i64 v12.1.Base), .v (.int .i64 v12.1.Next), .v (.int .i64 v12.1.Wait), .v (.bool v12.1.Over)]), (1, .v (.int .i64 v10)), (5, .v (.int .i64 s106)), (6, .v (.bool s111)), (7, .v (.int .i64 v32))]) rfl ?_
           refine pt_sub (fs := [(2, .box 24 [.v (.int .i64 v12.1.Number), .fl .shr 1 (List.map (Value.int .u8) v12.1.Data), .v (.bool v12.1.Ready), .v (.int .i64 v12.1.Base), .v (.int .i64 v12.1.Next), .v (.int .i64 v12.1.Wait), .v (.bool v12.1.Over)]), (1, .v (.int .i64 v10)), (5, .v (.int .i64 s106)), (6, .v (.bool s111)), (7, .v (.int .i64 v32))]) (.box _ _ (subs_cons (sub_refl _) (subs_cons (sub_ro_shr _ _) (subs_cons (sub_refl _) (subs_cons (sub_refl _) (subs_cons (sub_refl _) (subs_cons (sub_refl _) (subs_cons (sub_refl _) (subs_nil)))))))) rfl (.same _ (.same _ (.same _ (.same _ .nil))))) ?_
           exact pt_next _ (Option.some.inj h).symm rfl
         ·intro u116 h hl117 hr118
          refine cond_some h (fun hg15_2 h => ?_) (fun hg15_2 h => ?_)
          ·refine cond_some h (fun hg15_7 h => ?_) (fun hg15_7 h => ?_)
           ·refine ht_seqR hn (El := (_ :: _ :: _ :: _ :: _ :: _ :: _ :: (56, .v (.int .i64 s106)) :: (57, .v (.bool ((decide (3 < s106))))) :: (58, .v (.bool true)) :: (59, .ptr 2 6) :: (60, .v (.bool s68)) :: (61, .v (.bool (!s68))) :: (62, .v (.bool (!s68))) :: (63, .v (.bool true)) :: (64, .v undef) :: (65, .v undef) :: (66, .v undef) :: (67, .v undef) :: (68, .v undef) :: (69, .v undef) :: (70, .v undef) :: (71, .v (.bool true)) :: [])) (init := [0, 1, 2, 3, 4, 5, 6]) (fin := [0, 1, 2, 3, 5, 6, 22]) (sps := (⟨[5], [], [7], [(.slot 56)]⟩ :: ⟨[7], [], [8], [(.slot 57)]⟩ :: ⟨[8], [], [9], [(.slot 58)]⟩ :: ⟨[9, 0], [], [10], [(.slot 59)]⟩ :: ⟨[9, 10, 0], [], [11], [(.slot 60)]⟩ :: ⟨[9, 11], [], [12], [(.slot 61)]⟩ :: ⟨[9, 12], [], [13], [(.slot 62)]⟩ :: ⟨[13], [], [14], [(.slot 63)]⟩ :: ⟨[14], [], [15], [(.slot 64)]⟩ :: ⟨[14], [], [16], [(.slot 65)]⟩ :: ⟨[14], [], [17], [(.slot 66)]⟩ :: ⟨[17], [], [18], [(.slot 67)]⟩ :: ⟨[17], [], [19], [(.slot 68)]⟩ :: ⟨[17], [], [20], [(.slot 69)]⟩ :: ⟨[14], [], [21], [(.slot 70)]⟩ :: ⟨[14], [], [22], [(.slot 71)]⟩ :: [])) (es' := [(_, _), (_, _), (_, _), (_, _), (_, _), (_, _), (71, .v (.bool true))]) (by kernel_rfl) rfl rfl
             ⟨st_plain rfl (op_move _ _ _ _ rfl rfl),
             st_plain rfl (op_bin _ _ _ _ _ rfl rfl rfl),
             st_plain rfl (op_move _ _ _ _ (congrArg (fun b => AV.v (Value.bool b)) hg15_2) rfl),
             st_run 2 58 true rfl rfl rfl (List.Mem.head _) (op_fieldAddr _ _ _ _ 2 0 _ Try.underlying24 rfl sz4 rfl rfl (by decide)),
             st_run 2 58 true rfl rfl rfl (List.Mem.head _) (op_load _ _ _ _ _ _ Try.underlying4 rfl rfl rfl (Nat.le_of_ble_eq_true rfl) rfl rfl rfl),
             st_run 2 58 true rfl rfl rfl (List.Mem.head _) (op_un _ _ _ _ rfl rfl),
             st_plain rfl (op_pick _ _ true _ rfl rfl),
             st_plain rfl (op_move _ _ _ _ (congrArg (fun b => AV.v (Value.bool b)) hg15_7) rfl),
             st_skip 7 63 _ false rfl rfl rfl rfl (List.Mem.head _),
             st_skip 7 63 _ false rfl rfl rfl rfl (List.Mem.head _),
             st_skip 7 63 _ false rfl rfl rfl rfl (List.Mem.head _),
             st_skipU 10 66 _ true rfl rfl rfl rfl (List.Mem.head _),
             st_skipU 10 66 _ true rfl rfl rfl rfl (List.Mem.head _),
             st_skipU 10 66 _ true rfl rfl rfl rfl (List.Mem.head _),
             st_skip 7 63 _ false rfl rfl rfl rfl (List.Mem.head _),
             st_plain rfl (op_pick _ _ true _ rfl rfl),
             trivial⟩ ?_
            exact hl117 _ (Option.some.inj h).symm
           ·refine cond_some h (fun hg15_10 h => ?_) (fun hg15_10 h => ?_)
            ·refine ht_seqR hn (El := (_ :: _ :: _ :: _ :: _ :: _ :: _ :: (56, .v (.int .i64 s106)) :: (57, .v (.bool ((decide (3 < s106))))) :: (58, .v (.bool true)) :: (59, .ptr 2 6) :: (60, .v (.bool s68)) :: (61, .v (.bool (!s68))) :: (62, .v (.bool (!s68))) :: (63, .v (.bool false)) :: (64, .ptr 2 6) :: (65, .v (.bool s68)) :: (66, .v (.bool true)) :: (67, .fr (.own 26) false 5 (List.flatten (List.map T_Frame.ienc v12.2.1))) :: (68, .v (.int .i64 (v12.2.1.length : Int))) :: (69, .v (.bool ((decide (0 < (v12.2.1.length : Int)))))) :: (70, .v (.bool ((decide (0 < (v12.2.1.length : Int)))))) :: (71, .v (.bool ((decide (0 < (v12.2.1.length : Int)))))) :: [])) (init := [0, 1, 2, 3, 4, 5, 6]) (fin := [0, 1, 2, 3, 5, 6, 22]) (sps := (⟨[5], [], [7], [(.slot 56)]⟩ :: ⟨[7], [], [8], [(.slot 57)]⟩ :: ⟨[8], [], [9], [(.slot 58)]⟩ :: ⟨[9, 0], [], [10], [(.slot 59)]⟩ :: ⟨[9, 10, 0], [], [11], [(.slot 60)]⟩ :: ⟨[9, 11], [], [12], [(.slot 61)]⟩ :: ⟨[9, 12], [], [13], [(.slot 62)]⟩ :: ⟨[13], [], [14], [(.slot 63)]⟩ :: ⟨[14, 0], [], [15], [(.slot 64)]⟩ :: ⟨[14, 15, 0], [], [16], [(.slot 65)]⟩ :: ⟨[14, 16], [], [17], [(.slot 66)]⟩ :: ⟨[17], [4], [18], [(.slot 67)]⟩ :: ⟨[17, 18], [], [19], [(.slot 68)]⟩ :: ⟨[17, 19], [], [20], [(.slot 69)]⟩ :: ⟨[14, 17, 20], [], [21], [(.slot 70)]⟩ :: ⟨[14, 21], [], [22], [(.slot 71)]⟩ :: [])) (es' := [(_, _), (_, _), (_, _), (_, _), (_, _), (_, _), (71, .v (.bool ((decide (0 < (v12.2.1.length : Int))))))]) (by kernel_rfl) rfl rfl
              ⟨st_plain rfl (op_move _ _ _ _ rfl rfl),
              st_plain rfl (op_bin _ _ _ _ _ rfl rfl rfl),
              st_plain rfl (op_move _ _ _ _ (congrArg (fun b => AV.v (Value.bool b)) hg15_2) rfl),
              st_run 2 58 true rfl rfl rfl (List.Mem.head _) (op_fieldAddr _ _ _ _ 2 0 _ Try.underlying24 rfl sz4 rfl rfl (by decide)),
              st_run 2 58 true rfl rfl rfl (List.Mem.head _) (op_load _ _ _ _ _ _ Try.underlying4 rfl rfl rfl (Nat.le_of_ble_eq_true rfl) rfl rfl rfl),
              st_run 2 58 true rfl rfl rfl (List.Mem.head _) (op_un _ _ _ _ rfl rfl),
              st_plain rfl (op_pick _ _ true _ rfl rfl),
              st_plain rfl (op_move _ _ _ _ (congrArg (fun b => AV.v (Value.bool b)) hg15_7) rfl),
              st_run 7 63 false rfl rfl rfl (List.Mem.head _) (op_fieldAddr _ _ _ _ 2 0 _ Try.underlying24 rfl sz4 rfl rfl (by decide)),
              st_run 7 63 false rfl rfl rfl (List.Mem.head _) (op_load _ _ _ _ _ _ Try.underlying4 rfl rfl rfl (Nat.le_of_ble_eq_true rfl) rfl rfl rfl),
              st_run 7 63 false rfl rfl rfl (List.Mem.head _) (op_move _ _ _ _ (congrArg (fun b => AV.v (Value.bool b)) hg15_10) rfl),
              st_run 10 66 true rfl rfl rfl (List.Mem.head _) (op_move_take _ _ _ _ rfl),
              st_run 10 66 true rfl rfl rfl (List.Mem.head _) (op_len_fr _ _ _ Try.underlying31 rfl (by decide) (gflat_len T_Frame.ilen _)),
              st_run 10 66 true rfl rfl rfl (List.Mem.head _) (op_bin _ _ _ _ _ rfl rfl rfl),
              st_run 7 63 false rfl rfl rfl (List.Mem.head _) (op_pick _ _ true _ rfl rfl),
              st_plain rfl (op_pick _ _ false _ rfl rfl),
              trivial⟩ ?_
             exact hl117 _ (Option.some.inj h).symm
            ·refine ht_seqR hn (El := (_ :: _ :: _ :: _ :: _ :: _ :: _ :: (56, .v (.int .i64 s106)) :: (57, .v (.bool ((decide (3 < s106))))) :: (58, .v (.bool true)) :: (59, .ptr 2 6) :: (60, .v (.bool s68)) :: (61, .v (.bool (!s68))) :: (62, .v (.bool (!s68))) :: (63, .v (.bool false)) :: (64, .ptr 2 6) :: (65, .v (.bool s68)) :: (66, .v (.bool false)) :: (67, .v undef) :: (68, .v undef) :: (69, .v undef) :: (70, .v (.bool false)) :: (71, .v (.bool false)) :: [])) (init := [0, 1, 2, 3, 4, 5, 6]) (fin := [0, 1, 2, 3, 5, 6, 22]) (sps := (⟨[5], [], [7], [(.slot 56)]⟩ :: ⟨[7], [], [8], [(.slot 57)]⟩ :: ⟨[8], [], [9], [(.slot 58)]⟩ :: ⟨[9, 0], [], [10], [(.slot 59)]⟩ :: ⟨[9, 10, 0], [], [11], [(.slot 60)]⟩ :: ⟨[9, 11], [], [12], [(.slot 61)]⟩ :: ⟨[9, 12], [], [13], [(.slot 62)]⟩ :: ⟨[13], [], [14], [(.slot 63)]⟩ :: ⟨[14, 0], [], [15], [(.slot 64)]⟩ :: ⟨[14, 15, 0], [], [16], [(.slot 65)]⟩ :: ⟨[14, 16], [], [17], [(.slot 66)]⟩ :: ⟨[17], [], [18], [(.slot 67)]⟩ :: ⟨[17], [], [19], [(.slot 68)]⟩ :: ⟨[17], [], [20], [(.slot 69)]⟩ :: ⟨[14, 17], [], [21], [(.slot 70)]⟩ :: ⟨[14, 21], [], [22], [(.slot 71)]⟩ :: [])) (es' := [(_, _), (_, _), (_, _), (_, _), (_, _), (_, _), (71, .v (.bool false))]) (by kernel_rfl) rfl rfl
              ⟨st_plain rfl (op_move _ _ _ _ rfl rfl),
              st_plain rfl (op_bin _ _ _ _ _ rfl rfl rfl),
              st_plain rfl (op_move _ _ _ _ (congrArg (fun b => AV.v (Value.bool b)) hg15_2) rfl),
              st_run 2 58 true rfl rfl rfl (List.Mem.head _) (op_fieldAddr _ _ _ _ 2 0 _ Try.underlying24 rfl sz4 rfl rfl (by decide)),
              st_run 2 58 true rfl rfl rfl (List.Mem.head _) (op_load _ _ _ _ _ _ Try.underlying4 rfl rfl rfl (Nat.le_of_ble_eq_true rfl) rfl rfl rfl),
              st_run 2 58 true rfl rfl rfl (List.Mem.head _) (op_un _ _ _ _ rfl rfl),
              st_plain rfl (op_pick _ _ true _ rfl rfl),
              st_plain rfl (op_move _ _ _ _ (congrArg (fun b => AV.v (Value.bool b)) hg15_7) rfl),
              st_run 7 63 false rfl rfl rfl (List.Mem.head _) (op_fieldAddr _ _ _ _ 2 0 _ Try.underlying24 rfl sz4 rfl rfl (by decide)),
              st_run 7 63 false rfl rfl rfl (List.Mem.head _) (op_load _ _ _ _ _ _ Try.underlying4 rfl rfl rfl (Nat.le_of_ble_eq_true rfl) rfl rfl rfl),
              st_run 7 63 false rfl rfl rfl (List.Mem.head _) (op_move _ _ _ _ (congrArg (fun b => AV.v (Value.bool b)) hg15_10) rfl),
              st_skip 10 66 _ true rfl rfl rfl rfl (List.Mem.head _),
              st_skip 10 66 _ true rfl rfl rfl rfl (List.Mem.head _),
              st_skip 10 66 _ true rfl rfl rfl rfl (List.Mem.head _),
              st_run 7 63 false rfl rfl rfl (List.Mem.head _) (op_pick _ _ false _ rfl rfl),
              st_plain rfl (op_pick _ _ false _ rfl rfl),
              trivial⟩ ?_
             exact hl117 _ (Option.some.inj h).symm
          ·refine cond_some h (fun hg15_10 h => ?_) (fun hg15_10 h => ?_)
           ·refine ht_seqR hn (El := (_ :: _ :: _ :: _ :: _ :: _ :: _ :: (56, .v (.int .i64 s106)) :: (57, .v (.bool ((decide (3 < s106))))) :: (58, .v (.bool false)) :: (59, .v undef) :: (60, .v undef) :: (61, .v undef) :: (62, .v (.bool false)) :: (63, .v (.bool false)) :: (64, .ptr 2 6) :: (65, .v (.bool s68)) :: (66, .v (.bool true)) :: (67, .fr (.own 26) false 5 (List.flatten (List.map T_Frame.ienc v12.2.1))) :: (68, .v (.int .i64 (v12.2.1.length : Int))) :: (69, .v (.bool ((decide (0 < (v12.2.1.length : Int)))))) :: (70, .v (.bool ((decide (0 < (v12.2.1.length : Int)))))) :: (71, .v (.bool ((decide (0 < (v12.2.1.length : Int)))))) :: [])) (init := [0, 1, 2, 3, 4, 5, 6]) (fin := [0, 1, 2, 3, 5, 6, 22]) (sps := (⟨[5], [], [7], [(.slot 56)]⟩ :: ⟨[7], [], [8], [(.slot 57)]⟩ :: ⟨[8], [], [9], [(.slot 58)]⟩ :: ⟨[9], [], [10], [(.slot 59)]⟩ :: ⟨[9], [], [11], [(.slot 60)]⟩ :: ⟨[9], [], [12], [(.slot 61)]⟩ :: ⟨[9], [], [13], [(.slot 62)]⟩ :: ⟨[13], [], [14], [(.slot 63)]⟩ :: ⟨[14, 0], [], [15], [(.slot 64)]⟩ :: ⟨[14, 15, 0], [], [16], [(.slot 65)]⟩ :: ⟨[14, 16], [], [17], [(.slot 66)]⟩ :: ⟨[17], [4], [18], [(.slot 67)]⟩ :: ⟨[17, 18], [], [19], [(.slot 68)]⟩ :: ⟨[17, 19], [], [20], [(.slot 69)]⟩ :: ⟨[14, 17, 20], [], [21], [(.slot 70)]⟩ :: ⟨[14, 21], [], [22], [(.slot 71)]⟩ :: [])) (es' := [(_, _), (_, _), (_, _), (_, _), (_, _), (_, _), (71, .v (.bool ((decide (0 < (v12.2.1.length : Int))))))]) (by kernel_rfl) rfl rfl
             ⟨st_plain rfl (op_move _ _ _ _ rfl rfl),
             st_plain rfl (op_bin _ _ _ _ _ rfl rfl rfl),
             st_plain rfl (op_move _ _ _ _ (congrArg (fun b => AV.v (Value.bool b)) hg15_2) rfl),
             st_skip 2 58 _ true rfl rfl rfl rfl (List.Mem.head _),
             st_skip 2 58 _ true rfl rfl rfl rfl (List.Mem.head _),
             st_skip 2 58 _ true rfl rfl rfl rfl (List.Mem.head _),
             st_plain rfl (op_pick _ _ false _ rfl rfl),
             st_plain rfl (op_move _ _ _ _ rfl rfl),
             st_run 7 63 false rfl rfl rfl (List.Mem.head _) (op_fieldAddr _ _ _ _ 2 0 _ Try.underlying24 rfl sz4 rfl rfl (by decide)),
             st_run 7 63 false rfl rfl rfl (List.Mem.head _) (op_load _ _ _ _ _ _ Try.underlying4 rfl rfl rfl (Nat.le_of_ble_eq_true rfl) rfl rfl rfl),
             st_run 7 63 false rfl rfl rfl (List.Mem.head _) (op_move _ _ _ _ (congrArg (fun b => AV.v (Value.bool b)) hg15_10) rfl),
             st_run 10 66 true rfl rfl rfl (List.Mem.head _) (op_move_take _ _ _ _ rfl),
             st_run 10 66 true rfl rfl rfl (List.Mem.head _) (op_len_fr _ _ _ Try.underlying31 rfl (by decide) (gflat_len T_Frame.ilen _)),
             st_run 10 66 true rfl rfl rfl (List.Mem.head _) (op_bin _ _ _ _ _ rfl rfl rfl),
             st_run 7 63 false rfl rfl rfl (List.Mem.head _) (op_pick _ _ true _ rfl rfl),
             st_plain rfl (op_pick _ _ false _ rfl rfl),
             trivial⟩ ?_
            exact hl117 _ (Option.some.inj h).symm
           ·refine ht_seqR hn (El := (_ :: _ :: _ :: _ :: _ :: _ :: _ :: (56, .v (.int .i64 s106)) :: (57, .v (.bool ((decide (3 < s106))))) :: (58, .v (.bool false)) :: (59, .v undef) :: (60, .v undef) :: (61, .v undef) :: (62, .v (.bool false)) :: (63, .v (.bool false)) :: (64, .ptr 2 6) :: (65, .v (.bool s68)) :: (66, .v (.bool false)) :: (67, .v undef) :: (68, .v undef) :: (69, .v undef) :: (70, .v (.bool false)) :: (71, .v (.bool false)) :: [])) (init := [0, 1, 2, 3, 4, 5, 6]) (fin := [0, 1, 2, 3, 5, 6, 22]) (sps := (⟨[5], [], [7], [(.slot 56)]⟩ :: ⟨[7], [], [8], [(.slot 57)]⟩ :: ⟨[8], [], [9], [(.slot 58)]⟩ :: ⟨[9], [], [10], [(.slot 59)]⟩ :: ⟨[9], [], [11], [(.slot 60)]⟩ :: ⟨[9], [], [12], [(.slot 61)]⟩ :: ⟨[9], [], [13], [(.slot 62)]⟩ :: ⟨[13], [], [14], [(.slot 63)]⟩ :: ⟨[14, 0], [], [15], [(.slot 64)]⟩ :: ⟨[14, 15, 0], [], [16], [(.slot 65)]⟩ :: ⟨[14, 16], [], [17], [(.slot 66)]⟩ :: ⟨[17], [], [18], [(.slot 67)]⟩ :: ⟨[17], [], [19], [(.slot 68)]⟩ :: ⟨[17], [], [20], [(.slot 69)]⟩ :: ⟨[14, 17], [], [21], [(.slot 70)]⟩ :: ⟨[14, 21], [], [22], [(.slot 71)]⟩ :: [])) (es' := [(_, _), (_, _), (_, _), (_, _), (_, _), (_, _), (71, .v (.bool false))]) (by kernel_rfl) rfl rfl
             ⟨st_plain rfl (op_move _ _ _ _ rfl rfl),
             st_plain rfl (op_bin _ _ _ _ _ rfl rfl rfl),
             st_plain rfl (op_move _ _ _ _ (congrArg (fun b => AV.v (Value.bool b)) hg15_2) rfl),
             st_skip 2 58 _ true rfl rfl rfl rfl (List.Mem.head _),
             st_skip 2 58 _ true rfl rfl rfl rfl (List.Mem.head _),
             st_skip 2 58 _ true rfl rfl rfl rfl (List.Mem.head _),
             st_plain rfl (op_pick _ _ false _ rfl rfl),
             st_plain rfl (op_move _ _ _ _ rfl rfl),
             st_run 7 63 false rfl rfl rfl (List.Mem.head _) (op_fieldAddr _ _ _ _ 2 0 _ Try.underlying24 rfl sz4 rfl rfl (by decide)),
             st_run 7 63 false rfl rfl rfl (List.Mem.head _) (op_load _ _ _ _ _ _ Try.underlying4 rfl rfl rfl (Nat.le_of_ble_eq_true rfl) rfl rfl rfl),
             st_run 7 63 false rfl rfl rfl (List.Mem.head _) (op_move _ _ _ _ (congrArg (fun b => AV.v (Value.bool b)) hg15_10) rfl),
             st_skip 10 66 _ true rfl rfl rfl rfl (List.Mem.head _),
             st_skip 10 66 _ true rfl rfl rfl rfl (List.Mem.head _),
             st_skip 10 66 _ true rfl rfl rfl rfl (List.Mem.head _),
             st_run 7 63 false rfl rfl rfl (List.Mem.head _) (op_pick _ _ false _ rfl rfl),
             st_plain rfl (op_pick _ _ false _ rfl rfl),
             trivial⟩ ?_
            exact hl117 _ (Option.some.inj h).symm
        ·intro u112 h hl113 hr114
         refine cond_some h (fun hg14_1 h => ?_) (fun hg14_1 h => ?_)
         ·refine ht_seqR hn (El := (_ :: _ :: _ :: _ :: _ :: _ :: _ :: (43, .v (.bool s70)) :: (44, .v (.bool true)) :: (45, .v undef) :: (46, .v undef) :: (47, .v undef) :: (48, .v undef) :: (49, .v undef) :: (50, .v undef) :: (51, .v undef) :: (52, .v undef) :: (53, .v undef) :: (54, .v undef) :: (55, .v (.bool true)) :: (6, .v (.bool true)) :: [])) (init := [0, 1, 2, 3, 4, 5, 6]) (fin := [0, 1, 3, 4, 5, 6, 20]) (sps := [⟨[2], [], [7], [(.slot 43)]⟩, ⟨[7], [], [8], [(.slot 44)]⟩, ⟨[8], [], [9], [(.slot 45)]⟩, ⟨[8], [], [10], [(.slot 46)]⟩, ⟨[8], [], [11], [(.slot 47)]⟩, ⟨[8], [], [12], [(.slot 48)]⟩, ⟨[12], [], [13], [(.slot 49)]⟩, ⟨[12], [], [14], [(.slot 50)]⟩, ⟨[12], [], [15], [(.slot 51)]⟩, ⟨[12], [], [16], [(.slot 52)]⟩, ⟨[12], [], [17], [(.slot 53)]⟩, ⟨[8], [], [18], [(.slot 54)]⟩, ⟨[8], [], [19], [(.slot 55)]⟩, ⟨[19], [2], [20], [(.slot 6)]⟩]) (es' := [(_, _), (_, _), (_, _), (_, _), (_, _), (_, _), (6, .v (.bool true))]) (by kernel_rfl) rfl rfl
           ⟨st_plain rfl (op_move _ _ _ _ rfl rfl),
           st_plain rfl (op_move _ _ _ _ (congrArg (fun b => AV.v (Value.bool b)) hg14_1) rfl),
           st_skip 1 44 _ false rfl rfl rfl rfl (List.Mem.head _),
           st_skip 1 44 _ false rfl rfl rfl rfl (List.Mem.head _),
           st_skip 1 44 _ false rfl rfl rfl rfl (List.Mem.head _),
           st_skip 1 44 _ false rfl rfl rfl rfl (List.Mem.head _),
           st_skipU 5 48 _ true rfl rfl rfl rfl (List.Mem.head _),
           st_skipU 5 48 _ true rfl rfl rfl rfl (List.Mem.head _),
           st_skipU 5 48 _ true rfl rfl rfl rfl (List.Mem.head _),
           st_skipU 5 48 _ true rfl rfl rfl rfl (List.Mem.head _),
           st_skipU 5 48 _ true rfl rfl rfl rfl (List.Mem.head _),
           st_skip 1 44 _ false rfl rfl rfl rfl (List.Mem.head _),
           st_plain rfl (op_pick _ _ true _ rfl rfl),
           st_plain rfl (LOp.drop [_] (op_assign _ _ _ _ rfl rfl)),
           trivial⟩ ?_
          exact hl113 _ (Option.some.inj h).symm
         ·refine cond_some h (fun hg14_5 h => ?_) (fun hg14_5 h => ?_)
          ·obtain ⟨v51, hv51, h⟩ := bind_some h
           obtain ⟨v52, hv52, h⟩ := bind_some h
           refine ht_seqR hn (El := (_ :: _ :: _ :: _ :: _ :: _ :: _ :: (43, .v (.bool s70)) :: (44, .v (.bool false)) :: (45, .same (.slot 9)) :: (46, .v (.int .i64 (v12.2.1.length : Int))) :: (47, .v (.bool (((v12.2.1.length : Int) == 1)))) :: (48, .v (.bool true)) :: (49, .same (.slot 9)) :: (50, .eref (.slot 9) (v51 * 5)) :: (51, .eref (.slot 9) (v51 * 5 + 0)) :: (52, .v (.int .i64 v52.Kind)) :: (53, .v (.bool (v52.Kind == 1))) :: (54, .v (.bool (v52.Kind == 1))) :: (55, .v (.bool (v52.Kind == 1))) :: (6, .v (.bool (v52.Kind == 1))) :: [])) (init := [0, 1, 2, 3, 4, 5, 6]) (fin := [0, 1, 3, 4, 5, 6, 20]) (sps := [⟨[2], [], [7], [(.slot 43)]⟩, ⟨[7], [], [8], [(.slot 44)]⟩, ⟨[8, 5], [], [9], [(.slot 45)]⟩, ⟨[8, 9, 5], [], [10], [(.slot 46)]⟩, ⟨[8, 10], [], [11], [(.slot 47)]⟩, ⟨[8, 11], [], [12], [(.slot 48)]⟩, ⟨[12, 5], [], [13], [(.slot 49)]⟩, ⟨[12, 13, 5], [], [14], [(.slot 50)]⟩, ⟨[12, 14, 5], [], [15], [(.slot 51)]⟩, ⟨[12, 15, 5], [], [16], [(.slot 52)]⟩, ⟨[12, 16], [], [17], [(.slot 53)]⟩, ⟨[8, 12, 17], [], [18], [(.slot 54)]⟩, ⟨[8, 18], [], [19], [(.slot 55)]⟩, ⟨[19], [2], [20], [(.slot 6)]⟩]) (es' := [(_, _), (_, _), (_, _), (_, _), (_, _), (_, _), (6, .v (.bool (v52.Kind == 1)))]) (by kernel_rfl) rfl rfl
            ⟨st_plain rfl (op_move _ _ _ _ rfl rfl),
            st_plain rfl (op_move _ _ _ _ (congrArg (fun b => AV.v (Value.bool b)) hg14_1) rfl),
            st_run 1 44 false rfl rfl rfl (List.Mem.head _) (op_move _ _ _ _ rfl rfl),
            st_run 1 44 false rfl rfl rfl (List.Mem.head _) (op_len_fr _ _ _ Try.underlying31 rfl (by decide) (gflat_len T_Frame.ilen _)),
            st_run 1 44 false rfl rfl rfl (List.Mem.head _) (op_bin _ _ _ _ _ rfl rfl rfl),
            st_run 1 44 false rfl rfl rfl (List.Mem.head _) (op_move _ _ _ _ (congrArg (fun b => AV.v (Value.bool b)) hg14_5) rfl),
            st_run 5 48 true rfl rfl rfl (List.Mem.head _) (op_move _ _ _ _ rfl rfl),
            st_run 5 48 true rfl rfl rfl (List.Mem.head _) (op_ix_fr _ _ _ _ _ _ _ _ Try.underlying31 sz26 (by decide) rfl rfl rfl (ix_ok hv51).1 (gflat_lt T_Frame.ilen (ix_ok hv51).2) rfl),
            st_run 5 48 true rfl rfl rfl (List.Mem.head _) (op_fieldAddr_e _ _ _ _ _ _ _ Try.underlying26 rfl sz3 rfl rfl rfl),
            st_run 5 48 true rfl rfl rfl (List.Mem.head _) (op_load_fr _ _ _ _ _ _ _ Try.underlying3 rfl rfl rfl (gflat_cell T_Frame.ilen hv52 rfl) (.v _)),
            st_run 5 48 true rfl rfl rfl (List.Mem.head _) (op_bin _ _ _ _ _ rfl rfl rfl),
            st_run 1 44 false rfl rfl rfl (List.Mem.head _) (op_pick _ _ true _ rfl rfl),
            st_plain rfl (op_pick _ _ false _ rfl rfl),
            st_plain rfl (LOp.drop [_] (op_assign _ _ _ _ rfl rfl)),
            trivial⟩ ?_
           exact hl113 _ (Option.some.inj h).symm
          ·refine ht_seqR hn (El := (_ :: _ :: _ :: _ :: _ :: _ :: _ :: (43, .v (.bool s70)) :: (44, .v (.bool false)) :: (45, .same (.slot 9)) :: (46, .v (.int .i64 (v12.2.1.length : Int))) :: (47, .v (.bool (((v12.2.1.length : Int) == 1)))) :: (48, .v (.bool false)) :: (49, .v undef) :: (50, .v undef) :: (51, .v undef) :: (52, .v undef) :: (53, .v undef) :: (54, .v (.bool false)) :: (55, .v (.bool false)) :: (6, .v (.bool false)) :: [])) (init := [0, 1, 2, 3, 4, 5, 6]) (fin := [0, 1, 3, 4, 5, 6, 20]) (sps := [⟨[2], [], [7], [(.slot 43)]⟩, ⟨[7], [], [8], [(.slot 44)]⟩, ⟨[8, 5], [], [9], [(.slot 45)]⟩, ⟨[8, 9, 5], [], [10], [(.slot 46)]⟩, ⟨[8, 10], [], [11], [(.slot 47)]⟩, ⟨[8, 11], [], [12], [(.slot 48)]⟩, ⟨[12], [], [13], [(.slot 49)]⟩, ⟨[12], [], [14], [(.slot 50)]⟩, ⟨[12], [], [15], [(.slot 51)]⟩, ⟨[12], [], [16], [(.slot 52)]⟩, ⟨[12], [], [17], [(.slot 53)]⟩, ⟨[8, 12], [], [18], [(.slot 54)]⟩, ⟨[8, 18], [], [19], [(.slot 55)]⟩, ⟨[19], [2], [20], [(.slot 6)]⟩]) (es' := [(_, _), (_, _), (_, _), (_, _), (_, _), (_, _), (6, .v (.bool false))]) (by kernel_rfl) rfl rfl
            ⟨st_plain rfl (op_move _ _ _ _ rfl rfl),
            st_plain rfl (op_move _ _ _ _ (congrArg (fun b => AV.v (Value.bool b)) hg14_1) rfl),
            st_run 1 44 false rfl rfl rfl (List.Mem.head _) (op_move _ _ _ _ rfl rfl),
            st_run 1 44 false rfl rfl rfl (List.Mem.head _) (op_len_fr _ _ _ Try.underlying31 rfl (by decide) (gflat_len T_Frame.ilen _)),
            st_run 1 44 false rfl rfl rfl (List.Mem.head _) (op_bin _ _ _ _ _ rfl rfl rfl),
            st_run 1 44 false rfl rfl rfl (List.Mem.head _) (op_move _ _ _ _ (congrArg (fun b => AV.v (Value.bool b)) hg14_5) rfl),
            st_skip 5 48 _ true rfl rfl rfl rfl (List.Mem.head _),
            st_skip 5 48 _ true rfl rfl rfl rfl (List.Mem.head _),
            st_skip 5 48 _ true rfl rfl rfl rfl (List.Mem.head _),
            st_skip 5 48 _ true rfl rfl rfl rfl (List.Mem.head _),
            st_skip 5 48 _ true rfl rfl rfl rfl (List.Mem.head _),
            st_run 1 44 false rfl rfl rfl (List.Mem.head _) (op_pick _ _ false _ rfl rfl),
            st_plain rfl (op_pick _ _ false _ rfl rfl),
            st_plain rfl (LOp.drop [_] (op_assign _ _ _ _ rfl rfl)),
            trivial⟩ ?_
           exact hl113 _ (Option.some.inj h).symm
       ·intro u107 h hl108 hr109
        refine ht_seq ?_
        refine ht_seqR hn (El := [_, _, _, _, _, _, _, (40, .same (.slot 9)), (41, .v (.int .i64 (v12.2.1.length : Int))), (42, .v (.bool ((decide (0 < (v12.2.1.length : Int))))))]) (init := [0, 1, 2, 3, 4, 5, 6]) (fin := [0, 1, 2, 3, 4, 5, 6, 9]) (sps := [⟨[5], [], [7], [(.slot 40)]⟩, ⟨[7, 5], [], [8], [(.slot 41)]⟩, ⟨[8], [], [9], [(.slot 42)]⟩]) (es' := [(_, _), (_, _), (_, _), (_, _), (_, _), (_, _), (_, _), (42, .v (.bool ((decide (0 < (v12.2.1.length : Int))))))]) (by kernel_rfl) rfl rfl
         ⟨st_plain rfl (op_move _ _ _ _ rfl rfl),
         st_plain rfl (op_len_fr _ _ _ Try.underlying31 rfl (by decide) (gflat_len T_Frame.ilen _)),
         st_plain rfl (op_bin _ _ _ _ _ rfl rfl rfl),
         trivial⟩ ?_
        refine pt_then ?_
        refine ht_cond _ rfl (fun hb110 => ?_) (fun hb110 => ?_)
        ·have h := cond_t hb110 h
         refine ht_seqR hn (El := [_, _, _, _, _, _, _, _, (5, .v (.int .i64 0))]) (init := [0, 1, 2, 3, 4, 5, 6, 7]) (fin := [0, 1, 2, 3, 4, 5, 8]) (sps := [⟨[], [6], [8], [(.slot 5)]⟩]) (es' := [(_, _), (_, _), (_, _), (_, _), (_, _), (_, _), (5, .v (.int .i64 0))]) (by kernel_rfl) rfl rfl
          ⟨st_plain rfl (LOp.drop [_] (op_assign _ _ _ _ rfl rfl)),
          trivial⟩ ?_
         exact hl108 _ (Option.some.inj h).symm
        ·have h := cond_f hb110 h
         refine ht_skip ?_
         refine pt_pick [0, 1, 2, 3, 4, 5, 6] (by kernel_rfl) (es' := [(_, _), (_, _), (_, _), (_, _), (_, _), (_, _), (_, _)]) rfl ?_
         exact hl108 _ (Option.some.inj h).symm
     ·have h := cond_f hb103 h
      refine ht_exit ?_
      refine pt_x_then ?_
      refine pt_x_then ?_
      refine pt_x_in ?_
      refine pt_pick [0, 1, 3] (by kernel_rfl) (es' := [(_, _), (_, _), (_, _)]) rfl ?_
      exact hl98 _ (ho100 _ (Option.some.inj h).symm).symm
  ·intro u3 h hl4 hr5
   refine cond_some h (fun hg1_4 h => ?_) (fun hg1_4 h => ?_)
   ·refine ht_seqR hn (El := [_, _, (11, .ptr 2 1), (12, .fl .shr 1 (List.map (Value.int .u8) s.Data)), (13, .v (.int .i64 (s.Data.length : Int))), (14, .v (.bool ((decide (5100 < (s.Data.length : Int)))))), (15, .v (.bool true)), (16, .v undef), (17, .v undef), (18, .v undef), (19, .v (.bool true))]) (init := [0, 1]) (fin := [0, 1, 10]) (sps := [⟨[1], [], [2], [(.slot 11)]⟩, ⟨[2, 1], [], [3], [(.slot 12)]⟩, ⟨[3], [], [4], [(.slot 13)]⟩, ⟨[4], [], [5], [(.slot 14)]⟩, ⟨[5], [], [6], [(.slot 15)]⟩, ⟨[6], [], [7], [(.slot 16)]⟩, ⟨[6], [], [8], [(.slot 17)]⟩, ⟨[6], [], [9], [(.slot 18)]⟩, ⟨[6], [], [10], [(.slot 19)]⟩]) (es' := [(_, _), (_, _), (19, .v (.bool true))]) (by kernel_rfl) rfl rfl
     ⟨st_plain rfl (op_fieldAddr _ _ _ _ 2 0 _ Try.underlying24 rfl sz22 rfl rfl (by decide)),
     st_plain rfl (op_load _ _ _ _ _ _ Try.underlying22 rfl rfl rfl (Nat.le_of_ble_eq_true rfl) rfl rfl rfl),
     st_plain rfl (op_len_fl _ _ _ Try.underlying22 rfl (by decide) (map_len _)),
     st_plain rfl (op_bin _ _ _ _ _ rfl rfl rfl),
     st_plain rfl (op_move _ _ _ _ (congrArg (fun b => AV.v (Value.bool b)) hg1_4) rfl),
     st_skip 4 15 _ false rfl rfl rfl rfl (List.Mem.head _),
     st_skip 4 15 _ false rfl rfl rfl rfl (List.Mem.head _),
     st_skip 4 15 _ false rfl rfl rfl rfl (List.Mem.head _),
     st_plain rfl (op_pick _ _ true _ rfl rfl),
     trivial⟩ ?_
    exact hl4 _ (Option.some.inj h).symm
   ·obtain ⟨v1, hv1, h⟩ := bind_some h
    refine ht_seqR hn (El := [_, _, (11, .ptr 2 1), (12, .fl .shr 1 (List.map (Value.int .u8) s.Data)), (13, .v (.int .i64 (s.Data.length : Int))), (14, .v (.bool ((decide (5100 < (s.Data.length : Int)))))), (15, .v (.bool false)), (16, .agg [.v (.int .i64 s.Number), .fl .shr 1 (List.map (Value.int .u8) s.Data), .v (.bool s.Ready), .v (.int .i64 s.Base), .v (.int .i64 s.Next), .v (.int .i64 s.Wait), .v (.bool s.Over)]), (17, .v (.bool v1)), (18, .v (.bool (!v1))), (19, .v (.bool (!v1)))]) (init := [0, 1]) (fin := [0, 1, 10]) (sps := [⟨[1], [], [2], [(.slot 11)]⟩, ⟨[2, 1], [], [3], [(.slot 12)]⟩, ⟨[3], [], [4], [(.slot 13)]⟩, ⟨[4], [], [5], [(.slot 14)]⟩, ⟨[5], [], [6], [(.slot 15)]⟩, ⟨[6, 1], [], [7], [(.slot 16)]⟩, ⟨[6, 7], [], [8], [(.slot 17)]⟩, ⟨[6, 8], [], [9], [(.slot 18)]⟩, ⟨[6, 9], [], [10], [(.slot 19)]⟩]) (es' := [(_, _), (_, _), (19, .v (.bool (!v1)))]) (by kernel_rfl) rfl rfl
     ⟨st_plain rfl (op_fieldAddr _ _ _ _ 2 0 _ Try.underlying24 rfl sz22 rfl rfl (by decide)),
     st_plain rfl (op_load _ _ _ _ _ _ Try.underlying22 rfl rfl rfl (Nat.le_of_ble_eq_true rfl) rfl rfl rfl),
     st_plain rfl (op_len_fl _ _ _ Try.underlying22 rfl (by decide) (map_len _)),
     st_plain rfl (op_bin _ _ _ _ _ rfl rfl rfl),
     st_plain rfl (op_move _ _ _ _ (congrArg (fun b => AV.v (Value.bool b)) hg1_4) rfl),
     st_run 4 15 false rfl rfl rfl (List.Mem.head _) (op_loadA _ _ _ _ _ _ _ Try.underlying24 rfl sz24 rfl rfl (Nat.le_of_ble_eq_true rfl) rfl rfl),
     st_run 4 15 false rfl rfl rfl (List.Mem.head _) (op_call _ _ 13 _ _ rfl Try.call13 rfl (ok_wherryref18_Send s _ hv1) rfl rfl),
     st_run 4 15 false rfl rfl rfl (List.Mem.head _) (op_un _ _ _ _ rfl rfl),
     st_plain rfl (op_pick _ _ false _ rfl rfl),
     trivial⟩ ?_
    exact hl4 _ (Option.some.inj h).symm

end Go.Proofs.Ytdligpdfcfbgpaa
