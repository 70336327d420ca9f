/-
  The model's runs are what is told in Lean.
-/
import Derived.Test.YtpmngahekkagpaaDoorProg
import Derived.KernelRfl
import Derived.Test.YtpmngahekkagpaaDoorShelf
import Derived.Test.YtpmngahekkagpaaDoorOkc3
set_option linter.unusedVariables false
set_option linter.unusedSimpArgs false
namespace Go.Proofs.YtpmngahekkagpaaDoor
open Go.Abs Go.Abs.Sh

set_option maxHeartbeats 1000000 in
theorem ok_wherrylaw11_PathBack (mx : Int) (p : T_Path) (s : ByteArray) (r : Bool) (h : Sh.wherrylaw11_PathBack p s = some r) : FnG Tryd.prog (GL mx) 4 [.agg [.v (.bool p.Null), .v (.string p.Local), .v (.string p.Domain)], .v (.string s)] (.v (.bool r)) := by
  unfold Sh.wherrylaw11_PathBack at h
  refine fn_okG Tryd.func4 rfl (Nat.le_of_ble_eq_true rfl) rfl rfl fun g0 hn hio => ?_
  refine ht_seq ?_
  refine ht_seqR hn (El := [_, _, _, (2, .box 23 [.v (.bool p.Null), .v (.string p.Local), .v (.string p.Domain)]), (4, .v (.bool false))]) (init := [0, 1, 2]) (fin := [1, 2, 3]) (sps := [⟨[0], [], [3], [(.slot 2)]⟩, ⟨[], [], [4], [(.slot 4)]⟩]) (es' := [(_, _), (_, _), (2, .box 23 [.v (.bool p.Null), .v (.string p.Local), .v (.string p.Domain)])]) (by kernel_rfl) rfl rfl
   ⟨st_plain rfl (op_box _ _ _ _ rfl rfl rfl),
   st_plain rfl (op_assign _ _ _ _ rfl rfl),
   trivial⟩ ?_
  refine pt_then ?_
  refine ht_seq ?_
  refine ht_seq ?_
  obtain ⟨v1, hv1, h⟩ := bind_some h
  obtain ⟨v2, hv2, h⟩ := bind_some h
  refine ht_seqR hn (El := [_, _, _, (13, .ptr 2 1), (14, .v (.string p.Local)), (15, .v (.int .i64 (p.Local.size : Int))), (16, .ptr 2 2), (17, .v (.string p.Domain)), (18, .v (.int .i64 (p.Domain.size : Int))), (19, .v (.int .i64 v1)), (20, .v (.string s)), (21, .v (.int .i64 (s.size : Int))), (22, .v (.int .i64 v2)), (23, .v (.bool ((decide (2000 < v2)))))]) (init := [0, 1, 2]) (fin := [0, 1, 2, 13]) (sps := [⟨[2], [], [3], [(.slot 13)]⟩, ⟨[3, 2], [], [4], [(.slot 14)]⟩, ⟨[4], [], [5], [(.slot 15)]⟩, ⟨[2], [], [6], [(.slot 16)]⟩, ⟨[6, 2], [], [7], [(.slot 17)]⟩, ⟨[7], [], [8], [(.slot 18)]⟩, ⟨[5, 8], [], [9], [(.slot 19)]⟩, ⟨[0], [], [10], [(.slot 20)]⟩, ⟨[10], [], [11], [(.slot 21)]⟩, ⟨[9, 11], [], [12], [(.slot 22)]⟩, ⟨[12], [], [13], [(.slot 23)]⟩]) (es' := [(_, _), (_, _), (_, _), (23, .v (.bool ((decide (2000 < v2)))))]) (by kernel_rfl) rfl rfl
   ⟨st_plain rfl (op_fieldAddr _ _ _ _ 2 0 _ Tryd.underlying23 rfl sz9 rfl rfl (by decide)),
   st_plain rfl (op_load _ _ _ _ _ _ Tryd.underlying9 rfl rfl rfl (Nat.le_of_ble_eq_true rfl) rfl rfl rfl),
   st_plain rfl (op_len_str _ _ _ Tryd.underlying9 rfl),
   st_plain rfl (op_fieldAddr _ _ _ _ 2 0 _ Tryd.underlying23 rfl sz9 rfl rfl (by decide)),
   st_plain rfl (op_load _ _ _ _ _ _ Tryd.underlying9 rfl rfl rfl (Nat.le_of_ble_eq_true rfl) rfl rfl rfl),
   st_plain rfl (op_len_str _ _ _ Tryd.underlying9 rfl),
   st_plain rfl (op_bin _ _ _ _ _ rfl rfl (ibind (f := Value.int .i64) (Option.some.inj hv1))),
   st_plain rfl (op_move _ _ _ _ rfl rfl),
   st_plain rfl (op_len_str _ _ _ Tryd.underlying9 rfl),
   st_plain rfl (op_bin _ _ _ _ _ rfl rfl (ibind (f := Value.int .i64) (Option.some.inj hv2))),
   st_plain rfl (op_bin _ _ _ _ _ rfl rfl rfl),
   trivial⟩ ?_
  refine pt_then ?_
  refine ht_cond _ rfl (fun hb3 => ?_) (fun hb3 => ?_)
  ·have h := cond_t hb3 h
   refine ht_seq ?_
   refine ht_seqR hn (El := [_, _, _, _, (4, .v (.bool true))]) (init := [0, 1, 2, 3]) (fin := [1, 4]) (sps := [⟨[], [], [4], [(.slot 4)]⟩]) (es' := [(_, _), (4, .v (.bool true))]) (by kernel_rfl) rfl rfl
    ⟨st_plain rfl (op_assign _ _ _ _ rfl rfl),
    trivial⟩ ?_
   refine pt_then ?_
   refine ht_ret ?_
   refine pt_pick [1] (by kernel_rfl) (es' := [(_, _)]) rfl ?_
   refine pt_r_then ?_
   obtain rfl := Option.some.inj h
   exact pt_ret hio rfl (.tmp _ _ .nil) rfl rfl
  ·have h := cond_f hb3 h
   refine ht_skip ?_
   refine pt_then ?_
   refine ht_seq ?_
   refine ht_joinS h (fun (() : Unit) => [(1, .v (.string s)), (77, .glob (GL mx))]) ?_ ?_
   ·rintro ⟨⟩ h
    refine pt_then ?_
    refine ht_seq ?_
    obtain ⟨v23, hv23, h⟩ := bind_some h
    refine ht_seqR hn (El := [_, _, (50, .v (.string s)), (51, .tup [.agg [.v (.bool v23.1.Null), .v (.string v23.1.Local), .v (.string v23.1.Domain)], .v (.int .i64 v23.2)]), (49, .tup [.agg [.v (.bool v23.1.Null), .v (.string v23.1.Local), .v (.string v23.1.Domain)], .v (.int .i64 v23.2)]), (52, .agg [.v (.bool v23.1.Null), .v (.string v23.1.Local), .v (.string v23.1.Domain)]), (53, .v (.int .i64 v23.2)), (9, .box 23 [.v (.bool false), .v (.string (⟨#[]⟩ : ByteArray)), .v (.string (⟨#[]⟩ : ByteArray))]), (9, .box 23 [.v (.bool v23.1.Null), .v (.string v23.1.Local), .v (.string v23.1.Domain)]), (10, .v (.int .i64 v23.2))]) (init := [0, 1]) (fin := [0, 1, 8, 9]) (sps := [⟨[0], [], [2], [(.slot 50)]⟩, ⟨[2, 1], [], [3], [(.slot 51)]⟩, ⟨[], [3], [4], [(.slot 49)]⟩, ⟨[4], [], [5], [(.slot 52)]⟩, ⟨[4], [], [6], [(.slot 53)]⟩, ⟨[], [], [7], [(.slot 9)]⟩, ⟨[5], [7], [8], [.cell 9 0, .cell 9 1, .cell 9 2]⟩, ⟨[6], [], [9], [(.slot 10)]⟩]) (es' := [(_, _), (_, _), (9, .box 23 [.v (.bool v23.1.Null), .v (.string v23.1.Local), .v (.string v23.1.Domain)]), (10, .v (.int .i64 v23.2))]) (by kernel_rfl) rfl rfl
     ⟨st_plain rfl (op_move _ _ _ _ rfl rfl),
     st_plain rfl (op_callG _ _ 77 9 _ _ rfl Tryd.call9 rfl rfl (fun _ h => h) (ok_path_Parse mx s _ hv23) rfl rfl),
     st_plain rfl (op_move_take _ _ _ _ rfl),
     st_plain rfl (op_extract_no _ _ _ _ _ _ rfl rfl (Nat.le_of_ble_eq_true rfl) rfl rfl),
     st_plain rfl (op_extract _ _ _ _ _ rfl rfl (Nat.le_of_ble_eq_true rfl) rfl rfl),
     st_plain rfl (op_alloc _ _ zr23),
     st_plain rfl (op_store _ _ _ _ _ _ _ _ sz23 rfl rfl rfl rfl (Nat.le_of_ble_eq_true rfl) rfl rfl),
     st_plain rfl (op_assign _ _ _ _ rfl rfl),
     trivial⟩ ?_
    refine pt_then ?_
    refine ht_seq ?_
    refine ht_seq ?_
    refine ht_seqR hn (El := [_, _, _, _, (54, .v (.int .i64 v23.2)), (55, .v (.bool (v23.2 != 0)))]) (init := [0, 1, 2, 3]) (fin := [0, 1, 2, 5]) (sps := [⟨[3], [], [4], [(.slot 54)]⟩, ⟨[4], [], [5], [(.slot 55)]⟩]) (es' := [(_, _), (_, _), (_, _), (55, .v (.bool (v23.2 != 0)))]) (by kernel_rfl) rfl rfl
     ⟨st_plain rfl (op_move _ _ _ _ rfl rfl),
     st_plain rfl (op_bin _ _ _ _ _ rfl rfl rfl),
     trivial⟩ ?_
    refine pt_then ?_
    refine ht_cond _ rfl (fun hb24 => ?_) (fun hb24 => ?_)
    ·have h := cond_t hb24 h
     refine ht_seq ?_
     obtain ⟨v25, hv25, h⟩ := bind_some h
     refine ht_seqR hn (El := [_, _, _, _, (56, .v (.bool v25)), (4, .v (.bool v25))]) (init := [0, 1, 2, 3]) (fin := [1, 5]) (sps := [⟨[1], [], [4], [(.slot 56)]⟩, ⟨[4], [], [5], [(.slot 4)]⟩]) (es' := [(_, _), (4, .v (.bool v25))]) (by kernel_rfl) rfl rfl
      ⟨st_plain rfl (op_callG _ _ 77 24 _ _ rfl Tryd.call24 rfl rfl (fun _ h => h) (ok_wherrylaw11_wakes mx  _ hv25) rfl rfl),
      st_plain rfl (op_assign _ _ _ _ rfl rfl),
      trivial⟩ ?_
     refine pt_then ?_
     refine ht_ret ?_
     refine pt_pick [1] (by kernel_rfl) (es' := [(_, _)]) rfl ?_
     refine pt_r_then ?_
     obtain rfl := Option.some.inj h
     exact pt_ret hio rfl (.tmp _ _ .nil) rfl rfl
    ·have h := cond_f hb24 h
     refine ht_skip ?_
     refine pt_then ?_
     refine ht_seq ?_
     obtain ⟨v26, hv26, h⟩ := bind_some h
     refine ht_seqR hn (El := [_, _, _, _, (58, .agg [.v (.bool v23.1.Null), .v (.string v23.1.Local), .v (.string v23.1.Domain)]), (59, .tup [.v (.string v26.1), .v (.int .i64 v26.2)]), (57, .tup [.v (.string v26.1), .v (.int .i64 v26.2)]), (60, .v (.string v26.1)), (61, .v (.int .i64 v26.2)), (11, .v (.string v26.1)), (12, .v (.int .i64 v26.2))]) (init := [0, 1, 2, 3]) (fin := [0, 1, 2, 9, 10]) (sps := [⟨[2], [], [4], [(.slot 58)]⟩, ⟨[4, 1], [], [5], [(.slot 59)]⟩, ⟨[], [5], [6], [(.slot 57)]⟩, ⟨[6], [], [7], [(.slot 60)]⟩, ⟨[6], [], [8], [(.slot 61)]⟩, ⟨[7], [], [9], [(.slot 11)]⟩, ⟨[8], [], [10], [(.slot 12)]⟩]) (es' := [(_, _), (_, _), (_, _), (11, .v (.string v26.1)), (12, .v (.int .i64 v26.2))]) (by kernel_rfl) rfl rfl
      ⟨st_plain rfl (op_loadA _ _ _ _ _ _ _ Tryd.underlying23 rfl sz23 rfl rfl (Nat.le_of_ble_eq_true rfl) rfl rfl),
      st_plain rfl (op_callG _ _ 77 11 _ _ rfl Tryd.call11 rfl rfl (fun _ h => h) (ok_path_Text mx v23.1 _ hv26) rfl rfl),
      st_plain rfl (op_move_take _ _ _ _ rfl),
      st_plain rfl (op_extract _ _ _ _ _ rfl rfl (Nat.le_of_ble_eq_true rfl) rfl rfl),
      st_plain rfl (op_extract _ _ _ _ _ rfl rfl (Nat.le_of_ble_eq_true rfl) rfl rfl),
      st_plain rfl (op_assign _ _ _ _ rfl rfl),
      st_plain rfl (op_assign _ _ _ _ rfl rfl),
      trivial⟩ ?_
     refine pt_then ?_
     refine ht_seq ?_
     refine ht_joinS h (fun (s29 : Bool) => [(77, .glob (GL mx)), (4, .v (.bool s29))]) ?_ ?_
     ·rintro s29 h
      refine pt_then ?_
      refine ht_ret ?_
      refine pt_pick [1] (by kernel_rfl) (es' := [(_, _)]) rfl ?_
      obtain rfl := Option.some.inj h
      exact pt_ret hio rfl (.tmp _ _ .nil) rfl rfl
     ·intro u30 h hl31 hr32
      refine cond_some h (fun hg12_2 h => ?_) (fun hg12_2 h => ?_)
      ·refine cond_some h (fun hg12_7 h => ?_) (fun hg12_7 h => ?_)
       ·obtain ⟨v27, hv27, h⟩ := bind_some h
        refine cond_some h (fun hg12_12 h => ?_) (fun hg12_12 h => ?_)
        ·obtain ⟨v28, hv28, h⟩ := bind_some h
         refine ht_seqR hn (El := (_ :: _ :: _ :: _ :: _ :: (62, .v (.int .i64 v26.2)) :: (63, .v (.bool (v26.2 == 0))) :: (64, .v (.bool true)) :: (65, .v (.string v26.1)) :: (66, .v (.string s)) :: (67, .v (.bool (v26.1.toList == s.toList))) :: (68, .v (.bool (v26.1.toList == s.toList))) :: (69, .v (.bool true)) :: (70, .agg [.v (.bool v23.1.Null), .v (.string v23.1.Local), .v (.string v23.1.Domain)]) :: (71, .v (.int .i64 v27)) :: (72, .v (.bool (v27 == 0))) :: (73, .v (.bool (v27 == 0))) :: (74, .v (.bool true)) :: (75, .v (.bool v28)) :: (76, .v (.bool v28)) :: (4, .v (.bool v28)) :: [])) (init := [0, 1, 2, 3, 4]) (fin := [1, 20]) (sps := (⟨[4], [], [5], [(.slot 62)]⟩ :: ⟨[5], [], [6], [(.slot 63)]⟩ :: ⟨[6], [], [7], [(.slot 64)]⟩ :: ⟨[7, 3], [], [8], [(.slot 65)]⟩ :: ⟨[7, 0], [], [9], [(.slot 66)]⟩ :: ⟨[7, 8, 9], [], [10], [(.slot 67)]⟩ :: ⟨[7, 10], [], [11], [(.slot 68)]⟩ :: ⟨[11], [], [12], [(.slot 69)]⟩ :: ⟨[12, 2], [], [13], [(.slot 70)]⟩ :: ⟨[12, 13, 1], [], [14], [(.slot 71)]⟩ :: ⟨[12, 14], [], [15], [(.slot 72)]⟩ :: ⟨[12, 15], [], [16], [(.slot 73)]⟩ :: ⟨[16], [], [17], [(.slot 74)]⟩ :: ⟨[17, 1], [], [18], [(.slot 75)]⟩ :: ⟨[17, 18], [], [19], [(.slot 76)]⟩ :: ⟨[19], [], [20], [(.slot 4)]⟩ :: [])) (es' := [(_, _), (4, .v (.bool v28))]) (by kernel_rfl) rfl rfl
          ⟨st_plain rfl (op_move _ _ _ _ rfl rfl),
          st_plain rfl (op_bin _ _ _ _ _ rfl rfl rfl),
          st_plain rfl (op_move _ _ _ _ (congrArg (fun b => AV.v (Value.bool b)) hg12_2) rfl),
          st_run 2 64 true rfl rfl rfl (List.Mem.head _) (op_move _ _ _ _ rfl rfl),
          st_run 2 64 true rfl rfl rfl (List.Mem.head _) (op_move _ _ _ _ rfl rfl),
          st_run 2 64 true rfl rfl rfl (List.Mem.head _) (op_bin _ _ _ _ _ rfl rfl rfl),
          st_plain rfl (op_pick _ _ true _ rfl rfl),
          st_plain rfl (op_move _ _ _ _ (congrArg (fun b => AV.v (Value.bool b)) hg12_7) rfl),
          st_run 7 69 true rfl rfl rfl (List.Mem.head _) (op_loadA _ _ _ _ _ _ _ Tryd.underlying23 rfl sz23 rfl rfl (Nat.le_of_ble_eq_true rfl) rfl rfl),
          st_run 7 69 true rfl rfl rfl (List.Mem.head _) (op_callG _ _ 77 13 _ _ rfl Tryd.call13 rfl rfl (fun _ h => h) (ok_path_Check mx v23.1 _ hv27) rfl rfl),
          st_run 7 69 true rfl rfl rfl (List.Mem.head _) (op_bin _ _ _ _ _ rfl rfl rfl),
          st_plain rfl (op_pick _ _ true _ rfl rfl),
          st_plain rfl (op_move _ _ _ _ (congrArg (fun b => AV.v (Value.bool b)) hg12_12) rfl),
          st_run 12 74 true rfl rfl rfl (List.Mem.head _) (op_callG _ _ 77 24 _ _ rfl Tryd.call24 rfl rfl (fun _ h => h) (ok_wherrylaw11_wakes mx  _ hv28) rfl rfl),
          st_plain rfl (op_pick _ _ true _ rfl rfl),
          st_plain rfl (op_assign _ _ _ _ rfl rfl),
          trivial⟩ ?_
         exact hl31 _ (Option.some.inj h).symm
        ·refine ht_seqR hn (El := (_ :: _ :: _ :: _ :: _ :: (62, .v (.int .i64 v26.2)) :: (63, .v (.bool (v26.2 == 0))) :: (64, .v (.bool true)) :: (65, .v (.string v26.1)) :: (66, .v (.string s)) :: (67, .v (.bool (v26.1.toList == s.toList))) :: (68, .v (.bool (v26.1.toList == s.toList))) :: (69, .v (.bool true)) :: (70, .agg [.v (.bool v23.1.Null), .v (.string v23.1.Local), .v (.string v23.1.Domain)]) :: (71, .v (.int .i64 v27)) :: (72, .v (.bool (v27 == 0))) :: (73, .v (.bool (v27 == 0))) :: (74, .v (.bool false)) :: (75, .v undef) :: (76, .v (.bool false)) :: (4, .v (.bool false)) :: [])) (init := [0, 1, 2, 3, 4]) (fin := [1, 20]) (sps := (⟨[4], [], [5], [(.slot 62)]⟩ :: ⟨[5], [], [6], [(.slot 63)]⟩ :: ⟨[6], [], [7], [(.slot 64)]⟩ :: ⟨[7, 3], [], [8], [(.slot 65)]⟩ :: ⟨[7, 0], [], [9], [(.slot 66)]⟩ :: ⟨[7, 8, 9], [], [10], [(.slot 67)]⟩ :: ⟨[7, 10], [], [11], [(.slot 68)]⟩ :: ⟨[11], [], [12], [(.slot 69)]⟩ :: ⟨[12, 2], [], [13], [(.slot 70)]⟩ :: ⟨[12, 13, 1], [], [14], [(.slot 71)]⟩ :: ⟨[12, 14], [], [15], [(.slot 72)]⟩ :: ⟨[12, 15], [], [16], [(.slot 73)]⟩ :: ⟨[16], [], [17], [(.slot 74)]⟩ :: ⟨[17], [], [18], [(.slot 75)]⟩ :: ⟨[17], [], [19], [(.slot 76)]⟩ :: ⟨[19], [], [20], [(.slot 4)]⟩ :: [])) (es' := [(_, _), (4, .v (.bool false))]) (by kernel_rfl) rfl rfl
          ⟨st_plain rfl (op_move _ _ _ _ rfl rfl),
          st_plain rfl (op_bin _ _ _ _ _ rfl rfl rfl),
          st_plain rfl (op_move _ _ _ _ (congrArg (fun b => AV.v (Value.bool b)) hg12_2) rfl),
          st_run 2 64 true rfl rfl rfl (List.Mem.head _) (op_move _ _ _ _ rfl rfl),
          st_run 2 64 true rfl rfl rfl (List.Mem.head _) (op_move _ _ _ _ rfl rfl),
          st_run 2 64 true rfl rfl rfl (List.Mem.head _) (op_bin _ _ _ _ _ rfl rfl rfl),
          st_plain rfl (op_pick _ _ true _ rfl rfl),
          st_plain rfl (op_move _ _ _ _ (congrArg (fun b => AV.v (Value.bool b)) hg12_7) rfl),
          st_run 7 69 true rfl rfl rfl (List.Mem.head _) (op_loadA _ _ _ _ _ _ _ Tryd.underlying23 rfl sz23 rfl rfl (Nat.le_of_ble_eq_true rfl) rfl rfl),
          st_run 7 69 true rfl rfl rfl (List.Mem.head _) (op_callG _ _ 77 13 _ _ rfl Tryd.call13 rfl rfl (fun _ h => h) (ok_path_Check mx v23.1 _ hv27) rfl rfl),
          st_run 7 69 true rfl rfl rfl (List.Mem.head _) (op_bin _ _ _ _ _ rfl rfl rfl),
          st_plain rfl (op_pick _ _ true _ rfl rfl),
          st_plain rfl (op_move _ _ _ _ (congrArg (fun b => AV.v (Value.bool b)) hg12_12) rfl),
          st_skip 12 74 _ true rfl rfl rfl rfl (List.Mem.head _),
          st_plain rfl (op_pick _ _ false _ rfl rfl),
          st_plain rfl (op_assign _ _ _ _ rfl rfl),
          trivial⟩ ?_
         exact hl31 _ (Option.some.inj h).symm
       ·refine ht_seqR hn (El := (_ :: _ :: _ :: _ :: _ :: (62, .v (.int .i64 v26.2)) :: (63, .v (.bool (v26.2 == 0))) :: (64, .v (.bool true)) :: (65, .v (.string v26.1)) :: (66, .v (.string s)) :: (67, .v (.bool (v26.1.toList == s.toList))) :: (68, .v (.bool (v26.1.toList == s.toList))) :: (69, .v (.bool false)) :: (70, .v undef) :: (71, .v undef) :: (72, .v undef) :: (73, .v (.bool false)) :: (74, .v (.bool false)) :: (75, .v undef) :: (76, .v (.bool false)) :: (4, .v (.bool false)) :: [])) (init := [0, 1, 2, 3, 4]) (fin := [1, 20]) (sps := (⟨[4], [], [5], [(.slot 62)]⟩ :: ⟨[5], [], [6], [(.slot 63)]⟩ :: ⟨[6], [], [7], [(.slot 64)]⟩ :: ⟨[7, 3], [], [8], [(.slot 65)]⟩ :: ⟨[7, 0], [], [9], [(.slot 66)]⟩ :: ⟨[7, 8, 9], [], [10], [(.slot 67)]⟩ :: ⟨[7, 10], [], [11], [(.slot 68)]⟩ :: ⟨[11], [], [12], [(.slot 69)]⟩ :: ⟨[12], [], [13], [(.slot 70)]⟩ :: ⟨[12], [], [14], [(.slot 71)]⟩ :: ⟨[12], [], [15], [(.slot 72)]⟩ :: ⟨[12], [], [16], [(.slot 73)]⟩ :: ⟨[16], [], [17], [(.slot 74)]⟩ :: ⟨[17], [], [18], [(.slot 75)]⟩ :: ⟨[17], [], [19], [(.slot 76)]⟩ :: ⟨[19], [], [20], [(.slot 4)]⟩ :: [])) (es' := [(_, _), (4, .v (.bool false))]) (by kernel_rfl) rfl rfl
         ⟨st_plain rfl (op_move _ _ _ _ rfl rfl),
         st_plain rfl (op_bin _ _ _ _ _ rfl rfl rfl),
         st_plain rfl (op_move _ _ _ _ (congrArg (fun b => AV.v (Value.bool b)) hg12_2) rfl),
         st_run 2 64 true rfl rfl rfl (List.Mem.head _) (op_move _ _ _ _ rfl rfl),
         st_run 2 64 true rfl rfl rfl (List.Mem.head _) (op_move _ _ _ _ rfl rfl),
         st_run 2 64 true rfl rfl rfl (List.Mem.head _) (op_bin _ _ _ _ _ rfl rfl rfl),
         st_plain rfl (op_pick _ _ true _ rfl rfl),
         st_plain rfl (op_move _ _ _ _ (congrArg (fun b => AV.v (Value.bool b)) hg12_7) rfl),
         st_skip 7 69 _ true rfl rfl rfl rfl (List.Mem.head _),
         st_skip 7 69 _ true rfl rfl rfl rfl (List.Mem.head _),
         st_skip 7 69 _ true rfl rfl rfl rfl (List.Mem.head _),
         st_plain rfl (op_pick _ _ false _ rfl rfl),
         st_plain rfl (op_move _ _ _ _ rfl rfl),
         st_skip 12 74 _ true rfl rfl rfl rfl (List.Mem.head _),
         st_plain rfl (op_pick _ _ false _ rfl rfl),
         st_plain rfl (op_assign _ _ _ _ rfl rfl),
         trivial⟩ ?_
        exact hl31 _ (Option.some.inj h).symm
      ·refine ht_seqR hn (El := (_ :: _ :: _ :: _ :: _ :: (62, .v (.int .i64 v26.2)) :: (63, .v (.bool (v26.2 == 0))) :: (64, .v (.bool false)) :: (65, .v undef) :: (66, .v undef) :: (67, .v undef) :: (68, .v (.bool false)) :: (69, .v (.bool false)) :: (70, .v undef) :: (71, .v undef) :: (72, .v undef) :: (73, .v (.bool false)) :: (74, .v (.bool false)) :: (75, .v undef) :: (76, .v (.bool false)) :: (4, .v (.bool false)) :: [])) (init := [0, 1, 2, 3, 4]) (fin := [1, 20]) (sps := (⟨[4], [], [5], [(.slot 62)]⟩ :: ⟨[5], [], [6], [(.slot 63)]⟩ :: ⟨[6], [], [7], [(.slot 64)]⟩ :: ⟨[7], [], [8], [(.slot 65)]⟩ :: ⟨[7], [], [9], [(.slot 66)]⟩ :: ⟨[7], [], [10], [(.slot 67)]⟩ :: ⟨[7], [], [11], [(.slot 68)]⟩ :: ⟨[11], [], [12], [(.slot 69)]⟩ :: ⟨[12], [], [13], [(.slot 70)]⟩ :: ⟨[12], [], [14], [(.slot 71)]⟩ :: ⟨[12], [], [15], [(.slot 72)]⟩ :: ⟨[12], [], [16], [(.slot 73)]⟩ :: ⟨[16], [], [17], [(.slot 74)]⟩ :: ⟨[17], [], [18], [(.slot 75)]⟩ :: ⟨[17], [], [19], [(.slot 76)]⟩ :: ⟨[19], [], [20], [(.slot 4)]⟩ :: [])) (es' := [(_, _), (4, .v (.bool false))]) (by kernel_rfl) rfl rfl
        ⟨st_plain rfl (op_move _ _ _ _ rfl rfl),
        st_plain rfl (op_bin _ _ _ _ _ rfl rfl rfl),
        st_plain rfl (op_move _ _ _ _ (congrArg (fun b => AV.v (Value.bool b)) hg12_2) rfl),
        st_skip 2 64 _ true rfl rfl rfl rfl (List.Mem.head _),
        st_skip 2 64 _ true rfl rfl rfl rfl (List.Mem.head _),
        st_skip 2 64 _ true rfl rfl rfl rfl (List.Mem.head _),
        st_plain rfl (op_pick _ _ false _ rfl rfl),
        st_plain rfl (op_move _ _ _ _ rfl rfl),
        st_skip 7 69 _ true rfl rfl rfl rfl (List.Mem.head _),
        st_skip 7 69 _ true rfl rfl rfl rfl (List.Mem.head _),
        st_skip 7 69 _ true rfl rfl rfl rfl (List.Mem.head _),
        st_plain rfl (op_pick _ _ false _ rfl rfl),
        st_plain rfl (op_move _ _ _ _ rfl rfl),
        st_skip 12 74 _ true rfl rfl rfl rfl (List.Mem.head _),
        st_plain rfl (op_pick _ _ false _ rfl rfl),
        st_plain rfl (op_assign _ _ _ _ rfl rfl),
        trivial⟩ ?_
       exact hl31 _ (Option.some.inj h).symm
   ·intro u14 h hl15 hr16
    refine ht_seq ?_
    obtain ⟨v4, hv4, h⟩ := bind_some h
    refine ht_seqR hn (El := [_, _, _, _, (25, .agg [.v (.bool p.Null), .v (.string p.Local), .v (.string p.Domain)]), (26, .tup [.v (.string v4.1), .v (.int .i64 v4.2)]), (24, .tup [.v (.string v4.1), .v (.int .i64 v4.2)]), (27, .v (.string v4.1)), (28, .v (.int .i64 v4.2)), (5, .v (.string v4.1)), (6, .v (.int .i64 v4.2))]) (init := [0, 1, 2, 3]) (fin := [0, 1, 2, 9, 10]) (sps := [⟨[2], [], [4], [(.slot 25)]⟩, ⟨[4, 1], [], [5], [(.slot 26)]⟩, ⟨[], [5], [6], [(.slot 24)]⟩, ⟨[6], [], [7], [(.slot 27)]⟩, ⟨[6], [], [8], [(.slot 28)]⟩, ⟨[7], [], [9], [(.slot 5)]⟩, ⟨[8], [], [10], [(.slot 6)]⟩]) (es' := [(_, _), (_, _), (_, _), (5, .v (.string v4.1)), (6, .v (.int .i64 v4.2))]) (by kernel_rfl) rfl rfl
     ⟨st_plain rfl (op_loadA _ _ _ _ _ _ _ Tryd.underlying23 rfl sz23 rfl rfl (Nat.le_of_ble_eq_true rfl) rfl rfl),
     st_plain rfl (op_callG _ _ 77 11 _ _ rfl Tryd.call11 rfl rfl (fun _ h => h) (ok_path_Text mx p _ hv4) rfl rfl),
     st_plain rfl (op_move_take _ _ _ _ rfl),
     st_plain rfl (op_extract _ _ _ _ _ rfl rfl (Nat.le_of_ble_eq_true rfl) rfl rfl),
     st_plain rfl (op_extract _ _ _ _ _ rfl rfl (Nat.le_of_ble_eq_true rfl) rfl rfl),
     st_plain rfl (op_assign _ _ _ _ rfl rfl),
     st_plain rfl (op_assign _ _ _ _ rfl rfl),
     trivial⟩ ?_
    refine pt_then ?_
    refine ht_seq ?_
    refine ht_seqR hn (El := [_, _, _, _, _, (29, .v (.int .i64 v4.2)), (30, .v (.bool (v4.2 == 0)))]) (init := [0, 1, 2, 3, 4]) (fin := [0, 1, 2, 3, 6]) (sps := [⟨[4], [], [5], [(.slot 29)]⟩, ⟨[5], [], [6], [(.slot 30)]⟩]) (es' := [(_, _), (_, _), (_, _), (_, _), (30, .v (.bool (v4.2 == 0)))]) (by kernel_rfl) rfl rfl
     ⟨st_plain rfl (op_move _ _ _ _ rfl rfl),
     st_plain rfl (op_bin _ _ _ _ _ rfl rfl rfl),
     trivial⟩ ?_
    refine pt_then ?_
    refine ht_cond _ rfl (fun hb17 => ?_) (fun hb17 => ?_)
    ·have h := cond_t hb17 h
     refine ht_seq ?_
     obtain ⟨v6, hv6, h⟩ := bind_some h
     refine ht_seqR hn (El := [_, _, _, _, _, (32, .v (.string v4.1)), (33, .tup [.agg [.v (.bool v6.1.Null), .v (.string v6.1.Local), .v (.string v6.1.Domain)], .v (.int .i64 v6.2)]), (31, .tup [.agg [.v (.bool v6.1.Null), .v (.string v6.1.Local), .v (.string v6.1.Domain)], .v (.int .i64 v6.2)]), (34, .agg [.v (.bool v6.1.Null), .v (.string v6.1.Local), .v (.string v6.1.Domain)]), (35, .v (.int .i64 v6.2)), (7, .box 23 [.v (.bool false), .v (.string (⟨#[]⟩ : ByteArray)), .v (.string (⟨#[]⟩ : ByteArray))]), (7, .box 23 [.v (.bool v6.1.Null), .v (.string v6.1.Local), .v (.string v6.1.Domain)]), (8, .v (.int .i64 v6.2))]) (init := [0, 1, 2, 3, 4]) (fin := [0, 1, 2, 11, 12]) (sps := [⟨[3], [], [5], [(.slot 32)]⟩, ⟨[5, 1], [], [6], [(.slot 33)]⟩, ⟨[], [6], [7], [(.slot 31)]⟩, ⟨[7], [], [8], [(.slot 34)]⟩, ⟨[7], [], [9], [(.slot 35)]⟩, ⟨[], [], [10], [(.slot 7)]⟩, ⟨[8], [10], [11], [.cell 7 0, .cell 7 1, .cell 7 2]⟩, ⟨[9], [], [12], [(.slot 8)]⟩]) (es' := [(_, _), (_, _), (_, _), (7, .box 23 [.v (.bool v6.1.Null), .v (.string v6.1.Local), .v (.string v6.1.Domain)]), (8, .v (.int .i64 v6.2))]) (by kernel_rfl) rfl rfl
      ⟨st_plain rfl (op_move _ _ _ _ rfl rfl),
      st_plain rfl (op_callG _ _ 77 9 _ _ rfl Tryd.call9 rfl rfl (fun _ h => h) (ok_path_Parse mx v4.1 _ hv6) rfl rfl),
      st_plain rfl (op_move_take _ _ _ _ rfl),
      st_plain rfl (op_extract_no _ _ _ _ _ _ rfl rfl (Nat.le_of_ble_eq_true rfl) rfl rfl),
      st_plain rfl (op_extract _ _ _ _ _ rfl rfl (Nat.le_of_ble_eq_true rfl) rfl rfl),
      st_plain rfl (op_alloc _ _ zr23),
      st_plain rfl (op_store _ _ _ _ _ _ _ _ sz23 rfl rfl rfl rfl (Nat.le_of_ble_eq_true rfl) rfl rfl),
      st_plain rfl (op_assign _ _ _ _ rfl rfl),
      trivial⟩ ?_
     refine pt_then ?_
     refine ht_seq ?_
     refine ht_joinS h (fun (s18 : Bool) => [(1, .v (.string s)), (77, .glob (GL mx)), (48, .v (.bool s18))]) ?_ ?_
     ·rintro s18 h
      refine pt_then ?_
      refine ht_cond _ rfl (fun hb22 => ?_) (fun hb22 => ?_)
      ·have h := cond_t hb22 h
       refine ht_seq ?_
       refine ht_seqR hn (El := [_, _, _, (4, .v (.bool false))]) (init := [0, 1, 2]) (fin := [1, 3]) (sps := [⟨[], [], [3], [(.slot 4)]⟩]) (es' := [(_, _), (4, .v (.bool false))]) (by kernel_rfl) rfl rfl
        ⟨st_plain rfl (op_assign _ _ _ _ rfl rfl),
        trivial⟩ ?_
       refine pt_then ?_
       refine ht_ret ?_
       refine pt_pick [1] (by kernel_rfl) (es' := [(_, _)]) rfl ?_
       refine pt_r_then ?_
       have h := hr16 _ (Option.some.inj h).symm
       obtain rfl := Option.some.inj h
       exact pt_ret hio rfl (.tmp _ _ .nil) rfl rfl
      ·have h := cond_f hb22 h
       refine ht_skip ?_
       refine pt_pick [0, 1] (by kernel_rfl) (es' := [(_, _), (_, _)]) rfl ?_
       exact hl15 _ (Option.some.inj h).symm
     ·intro u19 h hl20 hr21
      refine cond_some h (fun hg6_2 h => ?_) (fun hg6_2 h => ?_)
      ·refine ht_seqR hn (El := (_ :: _ :: _ :: _ :: _ :: (36, .v (.int .i64 v6.2)) :: (37, .v (.bool (v6.2 != 0))) :: (38, .v (.bool true)) :: (39, .v undef) :: (40, .v undef) :: (41, .v undef) :: (42, .v undef) :: (43, .v (.bool true)) :: (44, .v (.bool true)) :: (45, .v undef) :: (46, .v undef) :: (47, .v undef) :: (48, .v (.bool true)) :: [])) (init := [0, 1, 2, 3, 4]) (fin := [0, 1, 17]) (sps := [⟨[4], [], [5], [(.slot 36)]⟩, ⟨[5], [], [6], [(.slot 37)]⟩, ⟨[6], [], [7], [(.slot 38)]⟩, ⟨[7], [], [8], [(.slot 39)]⟩, ⟨[7], [], [9], [(.slot 40)]⟩, ⟨[7], [], [10], [(.slot 41)]⟩, ⟨[7], [], [11], [(.slot 42)]⟩, ⟨[7], [], [12], [(.slot 43)]⟩, ⟨[12], [], [13], [(.slot 44)]⟩, ⟨[13], [], [14], [(.slot 45)]⟩, ⟨[13], [], [15], [(.slot 46)]⟩, ⟨[13], [], [16], [(.slot 47)]⟩, ⟨[13], [], [17], [(.slot 48)]⟩]) (es' := [(_, _), (_, _), (48, .v (.bool true))]) (by kernel_rfl) rfl rfl
        ⟨st_plain rfl (op_move _ _ _ _ rfl rfl),
        st_plain rfl (op_bin _ _ _ _ _ rfl rfl rfl),
        st_plain rfl (op_move _ _ _ _ (congrArg (fun b => AV.v (Value.bool b)) hg6_2) rfl),
        st_skip 2 38 _ false rfl rfl rfl rfl (List.Mem.head _),
        st_skip 2 38 _ false rfl rfl rfl rfl (List.Mem.head _),
        st_skip 2 38 _ false rfl rfl rfl rfl (List.Mem.head _),
        st_skip 2 38 _ false rfl rfl rfl rfl (List.Mem.head _),
        st_plain rfl (op_pick _ _ true _ rfl rfl),
        st_plain rfl (op_move _ _ _ _ rfl rfl),
        st_skip 8 44 _ false rfl rfl rfl rfl (List.Mem.head _),
        st_skip 8 44 _ false rfl rfl rfl rfl (List.Mem.head _),
        st_skip 8 44 _ false rfl rfl rfl rfl (List.Mem.head _),
        st_plain rfl (op_pick _ _ true _ rfl rfl),
        trivial⟩ ?_
       exact hl20 _ (Option.some.inj h).symm
      ·obtain ⟨v7, hv7, h⟩ := bind_some h
       refine cond_some h (fun hg6_8 h => ?_) (fun hg6_8 h => ?_)
       ·refine ht_seqR hn (El := (_ :: _ :: _ :: _ :: _ :: (36, .v (.int .i64 v6.2)) :: (37, .v (.bool (v6.2 != 0))) :: (38, .v (.bool false)) :: (39, .agg [.v (.bool p.Null), .v (.string p.Local), .v (.string p.Domain)]) :: (40, .agg [.v (.bool v6.1.Null), .v (.string v6.1.Local), .v (.string v6.1.Domain)]) :: (41, .v (.bool v7)) :: (42, .v (.bool (!v7))) :: (43, .v (.bool (!v7))) :: (44, .v (.bool true)) :: (45, .v undef) :: (46, .v undef) :: (47, .v undef) :: (48, .v (.bool true)) :: [])) (init := [0, 1, 2, 3, 4]) (fin := [0, 1, 17]) (sps := [⟨[4], [], [5], [(.slot 36)]⟩, ⟨[5], [], [6], [(.slot 37)]⟩, ⟨[6], [], [7], [(.slot 38)]⟩, ⟨[7, 2], [], [8], [(.slot 39)]⟩, ⟨[7, 3], [], [9], [(.slot 40)]⟩, ⟨[7, 8, 9], [], [10], [(.slot 41)]⟩, ⟨[7, 10], [], [11], [(.slot 42)]⟩, ⟨[7, 11], [], [12], [(.slot 43)]⟩, ⟨[12], [], [13], [(.slot 44)]⟩, ⟨[13], [], [14], [(.slot 45)]⟩, ⟨[13], [], [15], [(.slot 46)]⟩, ⟨[13], [], [16], [(.slot 47)]⟩, ⟨[13], [], [17], [(.slot 48)]⟩]) (es' := [(_, _), (_, _), (48, .v (.bool true))]) (by kernel_rfl) rfl rfl
         ⟨st_plain rfl (op_move _ _ _ _ rfl rfl),
         st_plain rfl (op_bin _ _ _ _ _ rfl rfl rfl),
         st_plain rfl (op_move _ _ _ _ (congrArg (fun b => AV.v (Value.bool b)) hg6_2) rfl),
         st_run 2 38 false rfl rfl rfl (List.Mem.head _) (op_loadA _ _ _ _ _ _ _ Tryd.underlying23 rfl sz23 rfl rfl (Nat.le_of_ble_eq_true rfl) rfl rfl),
         st_run 2 38 false rfl rfl rfl (List.Mem.head _) (op_loadA _ _ _ _ _ _ _ Tryd.underlying23 rfl sz23 rfl rfl (Nat.le_of_ble_eq_true rfl) rfl rfl),
         st_run 2 38 false rfl rfl rfl (List.Mem.head _) (op_call _ _ 16 _ _ rfl Tryd.call16 rfl (ok_wherrykeep_Path p v6.1 _ hv7) rfl rfl),
         st_run 2 38 false rfl rfl rfl (List.Mem.head _) (op_un _ _ _ _ rfl rfl),
         st_plain rfl (op_pick _ _ false _ rfl rfl),
         st_plain rfl (op_move _ _ _ _ (congrArg (fun b => AV.v (Value.bool b)) hg6_8) rfl),
         st_skip 8 44 _ false rfl rfl rfl rfl (List.Mem.head _),
         st_skip 8 44 _ false rfl rfl rfl rfl (List.Mem.head _),
         st_skip 8 44 _ false rfl rfl rfl rfl (List.Mem.head _),
         st_plain rfl (op_pick _ _ true _ rfl rfl),
         trivial⟩ ?_
        exact hl20 _ (Option.some.inj h).symm
       ·obtain ⟨v8, hv8, h⟩ := bind_some h
        refine ht_seqR hn (El := (_ :: _ :: _ :: _ :: _ :: (36, .v (.int .i64 v6.2)) :: (37, .v (.bool (v6.2 != 0))) :: (38, .v (.bool false)) :: (39, .agg [.v (.bool p.Null), .v (.string p.Local), .v (.string p.Domain)]) :: (40, .agg [.v (.bool v6.1.Null), .v (.string v6.1.Local), .v (.string v6.1.Domain)]) :: (41, .v (.bool v7)) :: (42, .v (.bool (!v7))) :: (43, .v (.bool (!v7))) :: (44, .v (.bool false)) :: (45, .agg [.v (.bool p.Null), .v (.string p.Local), .v (.string p.Domain)]) :: (46, .v (.int .i64 v8)) :: (47, .v (.bool (v8 != 0))) :: (48, .v (.bool (v8 != 0))) :: [])) (init := [0, 1, 2, 3, 4]) (fin := [0, 1, 17]) (sps := [⟨[4], [], [5], [(.slot 36)]⟩, ⟨[5], [], [6], [(.slot 37)]⟩, ⟨[6], [], [7], [(.slot 38)]⟩, ⟨[7, 2], [], [8], [(.slot 39)]⟩, ⟨[7, 3], [], [9], [(.slot 40)]⟩, ⟨[7, 8, 9], [], [10], [(.slot 41)]⟩, ⟨[7, 10], [], [11], [(.slot 42)]⟩, ⟨[7, 11], [], [12], [(.slot 43)]⟩, ⟨[12], [], [13], [(.slot 44)]⟩, ⟨[13, 2], [], [14], [(.slot 45)]⟩, ⟨[13, 14, 1], [], [15], [(.slot 46)]⟩, ⟨[13, 15], [], [16], [(.slot 47)]⟩, ⟨[13, 16], [], [17], [(.slot 48)]⟩]) (es' := [(_, _), (_, _), (48, .v (.bool (v8 != 0)))]) (by kernel_rfl) rfl rfl
         ⟨st_plain rfl (op_move _ _ _ _ rfl rfl),
         st_plain rfl (op_bin _ _ _ _ _ rfl rfl rfl),
         st_plain rfl (op_move _ _ _ _ (congrArg (fun b => AV.v (Value.bool b)) hg6_2) rfl),
         st_run 2 38 false rfl rfl rfl (List.Mem.head _) (op_loadA _ _ _ _ _ _ _ Tryd.underlying23 rfl sz23 rfl rfl (Nat.le_of_ble_eq_true rfl) rfl rfl),
         st_run 2 38 false rfl rfl rfl (List.Mem.head _) (op_loadA _ _ _ _ _ _ _ Tryd.underlying23 rfl sz23 rfl rfl (Nat.le_of_ble_eq_true rfl) rfl rfl),
         st_run 2 38 false rfl rfl rfl (List.Mem.head _) (op_call _ _ 16 _ _ rfl Tryd.call16 rfl (ok_wherrykeep_Path p v6.1 _ hv7) rfl rfl),
         st_run 2 38 false rfl rfl rfl (List.Mem.head _) (op_un _ _ _ _ rfl rfl),
         st_plain rfl (op_pick _ _ false _ rfl rfl),
         st_plain rfl (op_move _ _ _ _ (congrArg (fun b => AV.v (Value.bool b)) hg6_8) rfl),
         st_run 8 44 false rfl rfl rfl (List.Mem.head _) (op_loadA _ _ _ _ _ _ _ Tryd.underlying23 rfl sz23 rfl rfl (Nat.le_of_ble_eq_true rfl) rfl rfl),
         st_run 8 44 false rfl rfl rfl (List.Mem.head _) (op_callG _ _ 77 13 _ _ rfl Tryd.call13 rfl rfl (fun _ h => h) (ok_path_Check mx p _ hv8) rfl rfl),
         st_run 8 44 false rfl rfl rfl (List.Mem.head _) (op_bin _ _ _ _ _ rfl rfl rfl),
         st_plain rfl (op_pick _ _ false _ rfl rfl),
         trivial⟩ ?_
        exact hl20 _ (Option.some.inj h).symm
    ·have h := cond_f hb17 h
     refine ht_skip ?_
     refine pt_pick [0, 1] (by kernel_rfl) (es' := [(_, _), (_, _)]) rfl ?_
     exact hl15 _ (Option.some.inj h).symm

end Go.Proofs.YtpmngahekkagpaaDoor
