/-
  The model's runs are what is told in Lean.
-/
import Derived.Test.YtpmngahekkagpaaDoorProg
import Derived.KernelRfl
import Derived.Test.YtpmngahekkagpaaDoorShelf
import Derived.Test.YtpmngahekkagpaaDoorOkc2
set_option linter.unusedVariables false
set_option linter.unusedSimpArgs false
namespace Go.Proofs.YtpmngahekkagpaaDoor
open Go.Abs Go.Abs.Sh

set_option maxHeartbeats 1000000 in
theorem ok_wherryref11_Same (a : T_Path) (b : T_Path) (r : Bool) (h : Sh.wherryref11_Same a b = some r) : FnOK Tryd.prog 19 [.agg [.v (.bool a.Null), .v (.string a.Local), .v (.string a.Domain)], .agg [.v (.bool b.Null), .v (.string b.Local), .v (.string b.Domain)]] (.v (.bool r)) := by
  unfold Sh.wherryref11_Same at h
  refine fn_ok Tryd.func19 rfl (Nat.le_of_ble_eq_true rfl) rfl rfl fun g0 hn hio => ?_
  refine ht_seq ?_
  refine ht_seqR hn (El := [_, _, (2, .box 23 [.v (.bool a.Null), .v (.string a.Local), .v (.string a.Domain)]), (3, .box 23 [.v (.bool b.Null), .v (.string b.Local), .v (.string b.Domain)]), (4, .v (.bool false))]) (init := [0, 1]) (fin := [2, 3]) (sps := [⟨[0], [], [2], [(.slot 2)]⟩, ⟨[1], [], [3], [(.slot 3)]⟩, ⟨[], [], [4], [(.slot 4)]⟩]) (es' := [(2, .box 23 [.v (.bool a.Null), .v (.string a.Local), .v (.string a.Domain)]), (3, .box 23 [.v (.bool b.Null), .v (.string b.Local), .v (.string b.Domain)])]) (by kernel_rfl) rfl rfl
   ⟨st_plain rfl (op_box _ _ _ _ rfl rfl rfl),
   st_plain rfl (op_box _ _ _ _ rfl rfl rfl),
   st_plain rfl (op_assign _ _ _ _ rfl rfl),
   trivial⟩ ?_
  refine pt_then ?_
  refine ht_seq ?_
  refine ht_joinS h (fun (s6 : Bool) => [(4, .v (.bool s6))]) ?_ ?_
  ·rintro s6 h
   refine pt_then ?_
   refine ht_ret ?_
   obtain rfl := Option.some.inj h
   exact pt_ret hio rfl (.tmp _ _ .nil) rfl rfl
  ·intro u7 h hl8 hr9
   obtain ⟨v1, hv1, h⟩ := bind_some h
   refine cond_some h (fun hg1_2 h => ?_) (fun hg1_2 h => ?_)
   ·obtain ⟨v2, hv2, h⟩ := bind_some h
    refine cond_some h (fun hg1_6 h => ?_) (fun hg1_6 h => ?_)
    ·obtain ⟨v3, hv3, h⟩ := bind_some h
     refine cond_some h (fun hg1_13 h => ?_) (fun hg1_13 h => ?_)
     ·refine cond_some h (fun hg1_20 h => ?_) (fun hg1_20 h => ?_)
      ·obtain ⟨v4, hv4, h⟩ := bind_some h
       obtain ⟨v5, hv5, h⟩ := bind_some h
       refine ht_anyR (by kernel_rfl) hn (El := (_ :: _ :: (5, .agg [.v (.bool a.Null), .v (.string a.Local), .v (.string a.Domain)]) :: (6, .v (.bool v1)) :: (7, .v (.bool true)) :: (8, .agg [.v (.bool b.Null), .v (.string b.Local), .v (.string b.Domain)]) :: (9, .v (.bool v2)) :: (10, .v (.bool v2)) :: (11, .v (.bool true)) :: (12, .ptr 2 0) :: (13, .v (.bool a.Null)) :: (14, .ptr 3 0) :: (15, .v (.bool b.Null)) :: (16, .v (.bool (a.Null == b.Null))) :: (17, .v (.bool (a.Null == b.Null))) :: (18, .v (.bool true)) :: (19, .ptr 2 1) :: (20, .v (.string a.Local)) :: (21, .ptr 3 1) :: (22, .v (.string b.Local)) :: (23, .v (.bool (a.Local.toList == b.Local.toList))) :: (24, .v (.bool (a.Local.toList == b.Local.toList))) :: (25, .v (.bool true)) :: (26, .ptr 2 2) :: (27, .v (.string a.Domain)) :: (28, .v (.string v4)) :: (29, .ptr 3 2) :: (30, .v (.string b.Domain)) :: (31, .v (.string v5)) :: (32, .v (.bool (v4.toList == v5.toList))) :: (33, .v (.bool (v4.toList == v5.toList))) :: (4, .v (.bool (v4.toList == v5.toList))) :: [])) (init := [0, 1]) (fin := [31]) (sps := (⟨[0], [], [2], [(.slot 5)]⟩ :: ⟨[2], [], [3], [(.slot 6)]⟩ :: ⟨[3], [], [4], [(.slot 7)]⟩ :: ⟨[4, 1], [], [5], [(.slot 8)]⟩ :: ⟨[4, 5], [], [6], [(.slot 9)]⟩ :: ⟨[4, 6], [], [7], [(.slot 10)]⟩ :: ⟨[7], [], [8], [(.slot 11)]⟩ :: ⟨[8, 0], [], [9], [(.slot 12)]⟩ :: ⟨[8, 9, 0], [], [10], [(.slot 13)]⟩ :: ⟨[8, 1], [], [11], [(.slot 14)]⟩ :: ⟨[8, 11, 1], [], [12], [(.slot 15)]⟩ :: ⟨[8, 10, 12], [], [13], [(.slot 16)]⟩ :: ⟨[8, 13], [], [14], [(.slot 17)]⟩ :: ⟨[14], [], [15], [(.slot 18)]⟩ :: ⟨[15, 0], [], [16], [(.slot 19)]⟩ :: ⟨[15, 16, 0], [], [17], [(.slot 20)]⟩ :: ⟨[15, 1], [], [18], [(.slot 21)]⟩ :: ⟨[15, 18, 1], [], [19], [(.slot 22)]⟩ :: ⟨[15, 17, 19], [], [20], [(.slot 23)]⟩ :: ⟨[15, 20], [], [21], [(.slot 24)]⟩ :: ⟨[21], [], [22], [(.slot 25)]⟩ :: ⟨[22, 0], [], [23], [(.slot 26)]⟩ :: ⟨[22, 23, 0], [], [24], [(.slot 27)]⟩ :: ⟨[22, 24], [], [25], [(.slot 28)]⟩ :: ⟨[22, 1], [], [26], [(.slot 29)]⟩ :: ⟨[22, 26, 1], [], [27], [(.slot 30)]⟩ :: ⟨[22, 27], [], [28], [(.slot 31)]⟩ :: ⟨[22, 25, 28], [], [29], [(.slot 32)]⟩ :: ⟨[22, 29], [], [30], [(.slot 33)]⟩ :: ⟨[30], [], [31], [(.slot 4)]⟩ :: [])) (es' := [(4, .v (.bool (v4.toList == v5.toList)))]) (by kernel_rfl) rfl rfl
        ⟨st_plain rfl (op_loadA _ _ _ _ _ _ _ Tryd.underlying23 rfl sz23 rfl rfl (Nat.le_of_ble_eq_true rfl) rfl rfl),
        st_plain rfl (op_call _ _ 12 _ _ rfl Tryd.call12 rfl (ok_wherryref11_Path a _ hv1) rfl rfl),
        st_plain rfl (op_move _ _ _ _ (congrArg (fun b => AV.v (Value.bool b)) hg1_2) rfl),
        st_run 2 7 true rfl rfl rfl (List.Mem.head _) (op_loadA _ _ _ _ _ _ _ Tryd.underlying23 rfl sz23 rfl rfl (Nat.le_of_ble_eq_true rfl) rfl rfl),
        st_run 2 7 true rfl rfl rfl (List.Mem.head _) (op_call _ _ 12 _ _ rfl Tryd.call12 rfl (ok_wherryref11_Path b _ hv2) rfl rfl),
        st_plain rfl (op_pick _ _ true _ rfl rfl),
        st_plain rfl (op_move _ _ _ _ (congrArg (fun b => AV.v (Value.bool b)) hg1_6) rfl),
        st_run 6 11 true rfl rfl rfl (List.Mem.head _) (op_fieldAddr _ _ _ _ 2 0 _ Tryd.underlying23 rfl sz4 rfl rfl (by decide)),
        st_run 6 11 true rfl rfl rfl (List.Mem.head _) (op_load _ _ _ _ _ _ Tryd.underlying4 rfl rfl rfl (Nat.le_of_ble_eq_true rfl) rfl rfl rfl),
        st_run 6 11 true rfl rfl rfl (List.Mem.head _) (op_fieldAddr _ _ _ _ 3 0 _ Tryd.underlying23 rfl sz4 rfl rfl (by decide)),
        st_run 6 11 true rfl rfl rfl (List.Mem.head _) (op_load _ _ _ _ _ _ Tryd.underlying4 rfl rfl rfl (Nat.le_of_ble_eq_true rfl) rfl rfl rfl),
        st_run 6 11 true rfl rfl rfl (List.Mem.head _) (op_beq _ _ _ _ Tryd.underlying4 rfl rfl),
        st_plain rfl (op_pick _ _ true _ rfl rfl),
        st_plain rfl (op_move _ _ _ _ (congrArg (fun b => AV.v (Value.bool b)) hg1_13) rfl),
        st_run 13 18 true rfl rfl rfl (List.Mem.head _) (op_fieldAddr _ _ _ _ 2 0 _ Tryd.underlying23 rfl sz9 rfl rfl (by decide)),
        st_run 13 18 true rfl rfl rfl (List.Mem.head _) (op_load _ _ _ _ _ _ Tryd.underlying9 rfl rfl rfl (Nat.le_of_ble_eq_true rfl) rfl rfl rfl),
        st_run 13 18 true rfl rfl rfl (List.Mem.head _) (op_fieldAddr _ _ _ _ 3 0 _ Tryd.underlying23 rfl sz9 rfl rfl (by decide)),
        st_run 13 18 true rfl rfl rfl (List.Mem.head _) (op_load _ _ _ _ _ _ Tryd.underlying9 rfl rfl rfl (Nat.le_of_ble_eq_true rfl) rfl rfl rfl),
        st_run 13 18 true rfl rfl rfl (List.Mem.head _) (op_bin _ _ _ _ _ rfl rfl rfl),
        st_plain rfl (op_pick _ _ true _ rfl rfl),
        st_plain rfl (op_move _ _ _ _ (congrArg (fun b => AV.v (Value.bool b)) hg1_20) rfl),
        st_run 20 25 true rfl rfl rfl (List.Mem.head _) (op_fieldAddr _ _ _ _ 2 0 _ Tryd.underlying23 rfl sz9 rfl rfl (by decide)),
        st_run 20 25 true rfl rfl rfl (List.Mem.head _) (op_load _ _ _ _ _ _ Tryd.underlying9 rfl rfl rfl (Nat.le_of_ble_eq_true rfl) rfl rfl rfl),
        st_run 20 25 true rfl rfl rfl (List.Mem.head _) (op_call _ _ 23 _ _ rfl Tryd.call23 rfl (ok_wherryref11_Fold a.Domain _ hv4) rfl rfl),
        st_run 20 25 true rfl rfl rfl (List.Mem.head _) (op_fieldAddr _ _ _ _ 3 0 _ Tryd.underlying23 rfl sz9 rfl rfl (by decide)),
        st_run 20 25 true rfl rfl rfl (List.Mem.head _) (op_load _ _ _ _ _ _ Tryd.underlying9 rfl rfl rfl (Nat.le_of_ble_eq_true rfl) rfl rfl rfl),
        st_run 20 25 true rfl rfl rfl (List.Mem.head _) (op_call _ _ 23 _ _ rfl Tryd.call23 rfl (ok_wherryref11_Fold b.Domain _ hv5) rfl rfl),
        st_run 20 25 true rfl rfl rfl (List.Mem.head _) (op_bin _ _ _ _ _ rfl rfl rfl),
        st_plain rfl (op_pick _ _ true _ rfl rfl),
        st_plain rfl (op_assign _ _ _ _ rfl rfl),
        trivial⟩ ?_
       exact hl8 _ (Option.some.inj h).symm
      ·refine ht_anyR (by kernel_rfl) hn (El := (_ :: _ :: (5, .agg [.v (.bool a.Null), .v (.string a.Local), .v (.string a.Domain)]) :: (6, .v (.bool v1)) :: (7, .v (.bool true)) :: (8, .agg [.v (.bool b.Null), .v (.string b.Local), .v (.string b.Domain)]) :: (9, .v (.bool v2)) :: (10, .v (.bool v2)) :: (11, .v (.bool true)) :: (12, .ptr 2 0) :: (13, .v (.bool a.Null)) :: (14, .ptr 3 0) :: (15, .v (.bool b.Null)) :: (16, .v (.bool (a.Null == b.Null))) :: (17, .v (.bool (a.Null == b.Null))) :: (18, .v (.bool true)) :: (19, .ptr 2 1) :: (20, .v (.string a.Local)) :: (21, .ptr 3 1) :: (22, .v (.string b.Local)) :: (23, .v (.bool (a.Local.toList == b.Local.toList))) :: (24, .v (.bool (a.Local.toList == b.Local.toList))) :: (25, .v (.bool false)) :: (26, .v undef) :: (27, .v undef) :: (28, .v undef) :: (29, .v undef) :: (30, .v undef) :: (31, .v undef) :: (32, .v undef) :: (33, .v (.bool false)) :: (4, .v (.bool false)) :: [])) (init := [0, 1]) (fin := [31]) (sps := (⟨[0], [], [2], [(.slot 5)]⟩ :: ⟨[2], [], [3], [(.slot 6)]⟩ :: ⟨[3], [], [4], [(.slot 7)]⟩ :: ⟨[4, 1], [], [5], [(.slot 8)]⟩ :: ⟨[4, 5], [], [6], [(.slot 9)]⟩ :: ⟨[4, 6], [], [7], [(.slot 10)]⟩ :: ⟨[7], [], [8], [(.slot 11)]⟩ :: ⟨[8, 0], [], [9], [(.slot 12)]⟩ :: ⟨[8, 9, 0], [], [10], [(.slot 13)]⟩ :: ⟨[8, 1], [], [11], [(.slot 14)]⟩ :: ⟨[8, 11, 1], [], [12], [(.slot 15)]⟩ :: ⟨[8, 10, 12], [], [13], [(.slot 16)]⟩ :: ⟨[8, 13], [], [14], [(.slot 17)]⟩ :: ⟨[14], [], [15], [(.slot 18)]⟩ :: ⟨[15, 0], [], [16], [(.slot 19)]⟩ :: ⟨[15, 16, 0], [], [17], [(.slot 20)]⟩ :: ⟨[15, 1], [], [18], [(.slot 21)]⟩ :: ⟨[15, 18, 1], [], [19], [(.slot 22)]⟩ :: ⟨[15, 17, 19], [], [20], [(.slot 23)]⟩ :: ⟨[15, 20], [], [21], [(.slot 24)]⟩ :: ⟨[21], [], [22], [(.slot 25)]⟩ :: ⟨[22], [], [23], [(.slot 26)]⟩ :: ⟨[22], [], [24], [(.slot 27)]⟩ :: ⟨[22], [], [25], [(.slot 28)]⟩ :: ⟨[22], [], [26], [(.slot 29)]⟩ :: ⟨[22], [], [27], [(.slot 30)]⟩ :: ⟨[22], [], [28], [(.slot 31)]⟩ :: ⟨[22], [], [29], [(.slot 32)]⟩ :: ⟨[22], [], [30], [(.slot 33)]⟩ :: ⟨[30], [], [31], [(.slot 4)]⟩ :: [])) (es' := [(4, .v (.bool false))]) (by kernel_rfl) rfl rfl
        ⟨st_plain rfl (op_loadA _ _ _ _ _ _ _ Tryd.underlying23 rfl sz23 rfl rfl (Nat.le_of_ble_eq_true rfl) rfl rfl),
        st_plain rfl (op_call _ _ 12 _ _ rfl Tryd.call12 rfl (ok_wherryref11_Path a _ hv1) rfl rfl),
        st_plain rfl (op_move _ _ _ _ (congrArg (fun b => AV.v (Value.bool b)) hg1_2) rfl),
        st_run 2 7 true rfl rfl rfl (List.Mem.head _) (op_loadA _ _ _ _ _ _ _ Tryd.underlying23 rfl sz23 rfl rfl (Nat.le_of_ble_eq_true rfl) rfl rfl),
        st_run 2 7 true rfl rfl rfl (List.Mem.head _) (op_call _ _ 12 _ _ rfl Tryd.call12 rfl (ok_wherryref11_Path b _ hv2) rfl rfl),
        st_plain rfl (op_pick _ _ true _ rfl rfl),
        st_plain rfl (op_move _ _ _ _ (congrArg (fun b => AV.v (Value.bool b)) hg1_6) rfl),
        st_run 6 11 true rfl rfl rfl (List.Mem.head _) (op_fieldAddr _ _ _ _ 2 0 _ Tryd.underlying23 rfl sz4 rfl rfl (by decide)),
        st_run 6 11 true rfl rfl rfl (List.Mem.head _) (op_load _ _ _ _ _ _ Tryd.underlying4 rfl rfl rfl (Nat.le_of_ble_eq_true rfl) rfl rfl rfl),
        st_run 6 11 true rfl rfl rfl (List.Mem.head _) (op_fieldAddr _ _ _ _ 3 0 _ Tryd.underlying23 rfl sz4 rfl rfl (by decide)),
        st_run 6 11 true rfl rfl rfl (List.Mem.head _) (op_load _ _ _ _ _ _ Tryd.underlying4 rfl rfl rfl (Nat.le_of_ble_eq_true rfl) rfl rfl rfl),
        st_run 6 11 true rfl rfl rfl (List.Mem.head _) (op_beq _ _ _ _ Tryd.underlying4 rfl rfl),
        st_plain rfl (op_pick _ _ true _ rfl rfl),
        st_plain rfl (op_move _ _ _ _ (congrArg (fun b => AV.v (Value.bool b)) hg1_13) rfl),
        st_run 13 18 true rfl rfl rfl (List.Mem.head _) (op_fieldAddr _ _ _ _ 2 0 _ Tryd.underlying23 rfl sz9 rfl rfl (by decide)),
        st_run 13 18 true rfl rfl rfl (List.Mem.head _) (op_load _ _ _ _ _ _ Tryd.underlying9 rfl rfl rfl (Nat.le_of_ble_eq_true rfl) rfl rfl rfl),
        st_run 13 18 true rfl rfl rfl (List.Mem.head _) (op_fieldAddr _ _ _ _ 3 0 _ Tryd.underlying23 rfl sz9 rfl rfl (by decide)),
        st_run 13 18 true rfl rfl rfl (List.Mem.head _) (op_load _ _ _ _ _ _ Tryd.underlying9 rfl rfl rfl (Nat.le_of_ble_eq_true rfl) rfl rfl rfl),
        st_run 13 18 true rfl rfl rfl (List.Mem.head _) (op_bin _ _ _ _ _ rfl rfl rfl),
        st_plain rfl (op_pick _ _ true _ rfl rfl),
        st_plain rfl (op_move _ _ _ _ (congrArg (fun b => AV.v (Value.bool b)) hg1_20) rfl),
        st_skip 20 25 _ true rfl rfl rfl rfl (List.Mem.head _),
        st_skip 20 25 _ true rfl rfl rfl rfl (List.Mem.head _),
        st_skip 20 25 _ true rfl rfl rfl rfl (List.Mem.head _),
        st_skip 20 25 _ true rfl rfl rfl rfl (List.Mem.head _),
        st_skip 20 25 _ true rfl rfl rfl rfl (List.Mem.head _),
        st_skip 20 25 _ true rfl rfl rfl rfl (List.Mem.head _),
        st_skip 20 25 _ true rfl rfl rfl rfl (List.Mem.head _),
        st_plain rfl (op_pick _ _ false _ rfl rfl),
        st_plain rfl (op_assign _ _ _ _ rfl rfl),
        trivial⟩ ?_
       exact hl8 _ (Option.some.inj h).symm
     ·refine ht_anyR (by kernel_rfl) hn (El := (_ :: _ :: (5, .agg [.v (.bool a.Null), .v (.string a.Local), .v (.string a.Domain)]) :: (6, .v (.bool v1)) :: (7, .v (.bool true)) :: (8, .agg [.v (.bool b.Null), .v (.string b.Local), .v (.string b.Domain)]) :: (9, .v (.bool v2)) :: (10, .v (.bool v2)) :: (11, .v (.bool true)) :: (12, .ptr 2 0) :: (13, .v (.bool a.Null)) :: (14, .ptr 3 0) :: (15, .v (.bool b.Null)) :: (16, .v (.bool (a.Null == b.Null))) :: (17, .v (.bool (a.Null == b.Null))) :: (18, .v (.bool false)) :: (19, .v undef) :: (20, .v undef) :: (21, .v undef) :: (22, .v undef) :: (23, .v undef) :: (24, .v (.bool false)) :: (25, .v (.bool false)) :: (26, .v undef) :: (27, .v undef) :: (28, .v undef) :: (29, .v undef) :: (30, .v undef) :: (31, .v undef) :: (32, .v undef) :: (33, .v (.bool false)) :: (4, .v (.bool false)) :: [])) (init := [0, 1]) (fin := [31]) (sps := (⟨[0], [], [2], [(.slot 5)]⟩ :: ⟨[2], [], [3], [(.slot 6)]⟩ :: ⟨[3], [], [4], [(.slot 7)]⟩ :: ⟨[4, 1], [], [5], [(.slot 8)]⟩ :: ⟨[4, 5], [], [6], [(.slot 9)]⟩ :: ⟨[4, 6], [], [7], [(.slot 10)]⟩ :: ⟨[7], [], [8], [(.slot 11)]⟩ :: ⟨[8, 0], [], [9], [(.slot 12)]⟩ :: ⟨[8, 9, 0], [], [10], [(.slot 13)]⟩ :: ⟨[8, 1], [], [11], [(.slot 14)]⟩ :: ⟨[8, 11, 1], [], [12], [(.slot 15)]⟩ :: ⟨[8, 10, 12], [], [13], [(.slot 16)]⟩ :: ⟨[8, 13], [], [14], [(.slot 17)]⟩ :: ⟨[14], [], [15], [(.slot 18)]⟩ :: ⟨[15], [], [16], [(.slot 19)]⟩ :: ⟨[15], [], [17], [(.slot 20)]⟩ :: ⟨[15], [], [18], [(.slot 21)]⟩ :: ⟨[15], [], [19], [(.slot 22)]⟩ :: ⟨[15], [], [20], [(.slot 23)]⟩ :: ⟨[15], [], [21], [(.slot 24)]⟩ :: ⟨[21], [], [22], [(.slot 25)]⟩ :: ⟨[22], [], [23], [(.slot 26)]⟩ :: ⟨[22], [], [24], [(.slot 27)]⟩ :: ⟨[22], [], [25], [(.slot 28)]⟩ :: ⟨[22], [], [26], [(.slot 29)]⟩ :: ⟨[22], [], [27], [(.slot 30)]⟩ :: ⟨[22], [], [28], [(.slot 31)]⟩ :: ⟨[22], [], [29], [(.slot 32)]⟩ :: ⟨[22], [], [30], [(.slot 33)]⟩ :: ⟨[30], [], [31], [(.slot 4)]⟩ :: [])) (es' := [(4, .v (.bool false))]) (by kernel_rfl) rfl rfl
       ⟨st_plain rfl (op_loadA _ _ _ _ _ _ _ Tryd.underlying23 rfl sz23 rfl rfl (Nat.le_of_ble_eq_true rfl) rfl rfl),
       st_plain rfl (op_call _ _ 12 _ _ rfl Tryd.call12 rfl (ok_wherryref11_Path a _ hv1) rfl rfl),
       st_plain rfl (op_move _ _ _ _ (congrArg (fun b => AV.v (Value.bool b)) hg1_2) rfl),
       st_run 2 7 true rfl rfl rfl (List.Mem.head _) (op_loadA _ _ _ _ _ _ _ Tryd.underlying23 rfl sz23 rfl rfl (Nat.le_of_ble_eq_true rfl) rfl rfl),
       st_run 2 7 true rfl rfl rfl (List.Mem.head _) (op_call _ _ 12 _ _ rfl Tryd.call12 rfl (ok_wherryref11_Path b _ hv2) rfl rfl),
       st_plain rfl (op_pick _ _ true _ rfl rfl),
       st_plain rfl (op_move _ _ _ _ (congrArg (fun b => AV.v (Value.bool b)) hg1_6) rfl),
       st_run 6 11 true rfl rfl rfl (List.Mem.head _) (op_fieldAddr _ _ _ _ 2 0 _ Tryd.underlying23 rfl sz4 rfl rfl (by decide)),
       st_run 6 11 true rfl rfl rfl (List.Mem.head _) (op_load _ _ _ _ _ _ Tryd.underlying4 rfl rfl rfl (Nat.le_of_ble_eq_true rfl) rfl rfl rfl),
       st_run 6 11 true rfl rfl rfl (List.Mem.head _) (op_fieldAddr _ _ _ _ 3 0 _ Tryd.underlying23 rfl sz4 rfl rfl (by decide)),
       st_run 6 11 true rfl rfl rfl (List.Mem.head _) (op_load _ _ _ _ _ _ Tryd.underlying4 rfl rfl rfl (Nat.le_of_ble_eq_true rfl) rfl rfl rfl),
       st_run 6 11 true rfl rfl rfl (List.Mem.head _) (op_beq _ _ _ _ Tryd.underlying4 rfl rfl),
       st_plain rfl (op_pick _ _ true _ rfl rfl),
       st_plain rfl (op_move _ _ _ _ (congrArg (fun b => AV.v (Value.bool b)) hg1_13) rfl),
       st_skip 13 18 _ true rfl rfl rfl rfl (List.Mem.head _),
       st_skip 13 18 _ true rfl rfl rfl rfl (List.Mem.head _),
       st_skip 13 18 _ true rfl rfl rfl rfl (List.Mem.head _),
       st_skip 13 18 _ true rfl rfl rfl rfl (List.Mem.head _),
       st_skip 13 18 _ true rfl rfl rfl rfl (List.Mem.head _),
       st_plain rfl (op_pick _ _ false _ rfl rfl),
       st_plain rfl (op_move _ _ _ _ rfl rfl),
       st_skip 20 25 _ true rfl rfl rfl rfl (List.Mem.head _),
       st_skip 20 25 _ true rfl rfl rfl rfl (List.Mem.head _),
       st_skip 20 25 _ true rfl rfl rfl rfl (List.Mem.head _),
       st_skip 20 25 _ true rfl rfl rfl rfl (List.Mem.head _),
       st_skip 20 25 _ true rfl rfl rfl rfl (List.Mem.head _),
       st_skip 20 25 _ true rfl rfl rfl rfl (List.Mem.head _),
       st_skip 20 25 _ true rfl rfl rfl rfl (List.Mem.head _),
       st_plain rfl (op_pick _ _ false _ rfl rfl),
       st_plain rfl (op_assign _ _ _ _ rfl rfl),
       trivial⟩ ?_
      exact hl8 _ (Option.some.inj h).symm
    ·refine ht_anyR (by kernel_rfl) hn (El := (_ :: _ :: (5, .agg [.v (.bool a.Null), .v (.string a.Local), .v (.string a.Domain)]) :: (6, .v (.bool v1)) :: (7, .v (.bool true)) :: (8, .agg [.v (.bool b.Null), .v (.string b.Local), .v (.string b.Domain)]) :: (9, .v (.bool v2)) :: (10, .v (.bool v2)) :: (11, .v (.bool false)) :: (12, .v undef) :: (13, .v undef) :: (14, .v undef) :: (15, .v undef) :: (16, .v undef) :: (17, .v (.bool false)) :: (18, .v (.bool false)) :: (19, .v undef) :: (20, .v undef) :: (21, .v undef) :: (22, .v undef) :: (23, .v undef) :: (24, .v (.bool false)) :: (25, .v (.bool false)) :: (26, .v undef) :: (27, .v undef) :: (28, .v undef) :: (29, .v undef) :: (30, .v undef) :: (31, .v undef) :: (32, .v undef) :: (33, .v (.bool false)) :: (4, .v (.bool false)) :: [])) (init := [0, 1]) (fin := [31]) (sps := (⟨[0], [], [2], [(.slot 5)]⟩ :: ⟨[2], [], [3], [(.slot 6)]⟩ :: ⟨[3], [], [4], [(.slot 7)]⟩ :: ⟨[4, 1], [], [5], [(.slot 8)]⟩ :: ⟨[4, 5], [], [6], [(.slot 9)]⟩ :: ⟨[4, 6], [], [7], [(.slot 10)]⟩ :: ⟨[7], [], [8], [(.slot 11)]⟩ :: ⟨[8], [], [9], [(.slot 12)]⟩ :: ⟨[8], [], [10], [(.slot 13)]⟩ :: ⟨[8], [], [11], [(.slot 14)]⟩ :: ⟨[8], [], [12], [(.slot 15)]⟩ :: ⟨[8], [], [13], [(.slot 16)]⟩ :: ⟨[8], [], [14], [(.slot 17)]⟩ :: ⟨[14], [], [15], [(.slot 18)]⟩ :: ⟨[15], [], [16], [(.slot 19)]⟩ :: ⟨[15], [], [17], [(.slot 20)]⟩ :: ⟨[15], [], [18], [(.slot 21)]⟩ :: ⟨[15], [], [19], [(.slot 22)]⟩ :: ⟨[15], [], [20], [(.slot 23)]⟩ :: ⟨[15], [], [21], [(.slot 24)]⟩ :: ⟨[21], [], [22], [(.slot 25)]⟩ :: ⟨[22], [], [23], [(.slot 26)]⟩ :: ⟨[22], [], [24], [(.slot 27)]⟩ :: ⟨[22], [], [25], [(.slot 28)]⟩ :: ⟨[22], [], [26], [(.slot 29)]⟩ :: ⟨[22], [], [27], [(.slot 30)]⟩ :: ⟨[22], [], [28], [(.slot 31)]⟩ :: ⟨[22], [], [29], [(.slot 32)]⟩ :: ⟨[22], [], [30], [(.slot 33)]⟩ :: ⟨[30], [], [31], [(.slot 4)]⟩ :: [])) (es' := [(4, .v (.bool false))]) (by kernel_rfl) rfl rfl
      ⟨st_plain rfl (op_loadA _ _ _ _ _ _ _ Tryd.underlying23 rfl sz23 rfl rfl (Nat.le_of_ble_eq_true rfl) rfl rfl),
      st_plain rfl (op_call _ _ 12 _ _ rfl Tryd.call12 rfl (ok_wherryref11_Path a _ hv1) rfl rfl),
      st_plain rfl (op_move _ _ _ _ (congrArg (fun b => AV.v (Value.bool b)) hg1_2) rfl),
      st_run 2 7 true rfl rfl rfl (List.Mem.head _) (op_loadA _ _ _ _ _ _ _ Tryd.underlying23 rfl sz23 rfl rfl (Nat.le_of_ble_eq_true rfl) rfl rfl),
      st_run 2 7 true rfl rfl rfl (List.Mem.head _) (op_call _ _ 12 _ _ rfl Tryd.call12 rfl (ok_wherryref11_Path b _ hv2) rfl rfl),
      st_plain rfl (op_pick _ _ true _ rfl rfl),
      st_plain rfl (op_move _ _ _ _ (congrArg (fun b => AV.v (Value.bool b)) hg1_6) rfl),
      st_skip 6 11 _ true rfl rfl rfl rfl (List.Mem.head _),
      st_skip 6 11 _ true rfl rfl rfl rfl (List.Mem.head _),
      st_skip 6 11 _ true rfl rfl rfl rfl (List.Mem.head _),
      st_skip 6 11 _ true rfl rfl rfl rfl (List.Mem.head _),
      st_skip 6 11 _ true rfl rfl rfl rfl (List.Mem.head _),
      st_plain rfl (op_pick _ _ false _ rfl rfl),
      st_plain rfl (op_move _ _ _ _ rfl rfl),
      st_skip 13 18 _ true rfl rfl rfl rfl (List.Mem.head _),
      st_skip 13 18 _ true rfl rfl rfl rfl (List.Mem.head _),
      st_skip 13 18 _ true rfl rfl rfl rfl (List.Mem.head _),
      st_skip 13 18 _ true rfl rfl rfl rfl (List.Mem.head _),
      st_skip 13 18 _ true rfl rfl rfl rfl (List.Mem.head _),
      st_plain rfl (op_pick _ _ false _ rfl rfl),
      st_plain rfl (op_move _ _ _ _ rfl rfl),
      st_skip 20 25 _ true rfl rfl rfl rfl (List.Mem.head _),
      st_skip 20 25 _ true rfl rfl rfl rfl (List.Mem.head _),
      st_skip 20 25 _ true rfl rfl rfl rfl (List.Mem.head _),
      st_skip 20 25 _ true rfl rfl rfl rfl (List.Mem.head _),
      st_skip 20 25 _ true rfl rfl rfl rfl (List.Mem.head _),
      st_skip 20 25 _ true rfl rfl rfl rfl (List.Mem.head _),
      st_skip 20 25 _ true rfl rfl rfl rfl (List.Mem.head _),
      st_plain rfl (op_pick _ _ false _ rfl rfl),
      st_plain rfl (op_assign _ _ _ _ rfl rfl),
      trivial⟩ ?_
     exact hl8 _ (Option.some.inj h).symm
   ·refine ht_anyR (by kernel_rfl) hn (El := (_ :: _ :: (5, .agg [.v (.bool a.Null), .v (.string a.Local), .v (.string a.Domain)]) :: (6, .v (.bool v1)) :: (7, .v (.bool false)) :: (8, .v undef) :: (9, .v undef) :: (10, .v (.bool false)) :: (11, .v (.bool false)) :: (12, .v undef) :: (13, .v undef) :: (14, .v undef) :: (15, .v undef) :: (16, .v undef) :: (17, .v (.bool false)) :: (18, .v (.bool false)) :: (19, .v undef) :: (20, .v undef) :: (21, .v undef) :: (22, .v undef) :: (23, .v undef) :: (24, .v (.bool false)) :: (25, .v (.bool false)) :: (26, .v undef) :: (27, .v undef) :: (28, .v undef) :: (29, .v undef) :: (30, .v undef) :: (31, .v undef) :: (32, .v undef) :: (33, .v (.bool false)) :: (4, .v (.bool false)) :: [])) (init := [0, 1]) (fin := [31]) (sps := (⟨[0], [], [2], [(.slot 5)]⟩ :: ⟨[2], [], [3], [(.slot 6)]⟩ :: ⟨[3], [], [4], [(.slot 7)]⟩ :: ⟨[4], [], [5], [(.slot 8)]⟩ :: ⟨[4], [], [6], [(.slot 9)]⟩ :: ⟨[4], [], [7], [(.slot 10)]⟩ :: ⟨[7], [], [8], [(.slot 11)]⟩ :: ⟨[8], [], [9], [(.slot 12)]⟩ :: ⟨[8], [], [10], [(.slot 13)]⟩ :: ⟨[8], [], [11], [(.slot 14)]⟩ :: ⟨[8], [], [12], [(.slot 15)]⟩ :: ⟨[8], [], [13], [(.slot 16)]⟩ :: ⟨[8], [], [14], [(.slot 17)]⟩ :: ⟨[14], [], [15], [(.slot 18)]⟩ :: ⟨[15], [], [16], [(.slot 19)]⟩ :: ⟨[15], [], [17], [(.slot 20)]⟩ :: ⟨[15], [], [18], [(.slot 21)]⟩ :: ⟨[15], [], [19], [(.slot 22)]⟩ :: ⟨[15], [], [20], [(.slot 23)]⟩ :: ⟨[15], [], [21], [(.slot 24)]⟩ :: ⟨[21], [], [22], [(.slot 25)]⟩ :: ⟨[22], [], [23], [(.slot 26)]⟩ :: ⟨[22], [], [24], [(.slot 27)]⟩ :: ⟨[22], [], [25], [(.slot 28)]⟩ :: ⟨[22], [], [26], [(.slot 29)]⟩ :: ⟨[22], [], [27], [(.slot 30)]⟩ :: ⟨[22], [], [28], [(.slot 31)]⟩ :: ⟨[22], [], [29], [(.slot 32)]⟩ :: ⟨[22], [], [30], [(.slot 33)]⟩ :: ⟨[30], [], [31], [(.slot 4)]⟩ :: [])) (es' := [(4, .v (.bool false))]) (by kernel_rfl) rfl rfl
     ⟨st_plain rfl (op_loadA _ _ _ _ _ _ _ Tryd.underlying23 rfl sz23 rfl rfl (Nat.le_of_ble_eq_true rfl) rfl rfl),
     st_plain rfl (op_call _ _ 12 _ _ rfl Tryd.call12 rfl (ok_wherryref11_Path a _ hv1) rfl rfl),
     st_plain rfl (op_move _ _ _ _ (congrArg (fun b => AV.v (Value.bool b)) hg1_2) rfl),
     st_skip 2 7 _ true rfl rfl rfl rfl (List.Mem.head _),
     st_skip 2 7 _ true rfl rfl rfl rfl (List.Mem.head _),
     st_plain rfl (op_pick _ _ false _ rfl rfl),
     st_plain rfl (op_move _ _ _ _ rfl rfl),
     st_skip 6 11 _ true rfl rfl rfl rfl (List.Mem.head _),
     st_skip 6 11 _ true rfl rfl rfl rfl (List.Mem.head _),
     st_skip 6 11 _ true rfl rfl rfl rfl (List.Mem.head _),
     st_skip 6 11 _ true rfl rfl rfl rfl (List.Mem.head _),
     st_skip 6 11 _ true rfl rfl rfl rfl (List.Mem.head _),
     st_plain rfl (op_pick _ _ false _ rfl rfl),
     st_plain rfl (op_move _ _ _ _ rfl rfl),
     st_skip 13 18 _ true rfl rfl rfl rfl (List.Mem.head _),
     st_skip 13 18 _ true rfl rfl rfl rfl (List.Mem.head _),
     st_skip 13 18 _ true rfl rfl rfl rfl (List.Mem.head _),
     st_skip 13 18 _ true rfl rfl rfl rfl (List.Mem.head _),
     st_skip 13 18 _ true rfl rfl rfl rfl (List.Mem.head _),
     st_plain rfl (op_pick _ _ false _ rfl rfl),
     st_plain rfl (op_move _ _ _ _ rfl rfl),
     st_skip 20 25 _ true rfl rfl rfl rfl (List.Mem.head _),
     st_skip 20 25 _ true rfl rfl rfl rfl (List.Mem.head _),
     st_skip 20 25 _ true rfl rfl rfl rfl (List.Mem.head _),
     st_skip 20 25 _ true rfl rfl rfl rfl (List.Mem.head _),
     st_skip 20 25 _ true rfl rfl rfl rfl (List.Mem.head _),
     st_skip 20 25 _ true rfl rfl rfl rfl (List.Mem.head _),
     st_skip 20 25 _ true rfl rfl rfl rfl (List.Mem.head _),
     st_plain rfl (op_pick _ _ false _ rfl rfl),
     st_plain rfl (op_assign _ _ _ _ rfl rfl),
     trivial⟩ ?_
    exact hl8 _ (Option.some.inj h).symm

set_option maxHeartbeats 1000000 in
theorem ok_path_At (mx : Int) (p : T_Path) (domain : ByteArray) (r : Bool) (h : Sh.path_At p domain = some r) : FnG Tryd.prog (GL mx) 20 [.agg [.v (.bool p.Null), .v (.string p.Local), .v (.string p.Domain)], .v (.string domain)] (.v (.bool r)) := by
  unfold Sh.path_At at h
  refine fn_okG Tryd.func20 rfl (Nat.le_of_ble_eq_true rfl) rfl rfl fun g0 hn hio => ?_
  refine ht_seq ?_
  refine ht_seqR hn (El := [_, _, _, (2, .box 23 [.v (.bool p.Null), .v (.string p.Local), .v (.string p.Domain)]), (4, .v (.bool false))]) (init := [0, 1, 2]) (fin := [1, 2, 3]) (sps := [⟨[0], [], [3], [(.slot 2)]⟩, ⟨[], [], [4], [(.slot 4)]⟩]) (es' := [(_, _), (_, _), (2, .box 23 [.v (.bool p.Null), .v (.string p.Local), .v (.string p.Domain)])]) (by kernel_rfl) rfl rfl
   ⟨st_plain rfl (op_box _ _ _ _ rfl rfl rfl),
   st_plain rfl (op_assign _ _ _ _ rfl rfl),
   trivial⟩ ?_
  refine pt_then ?_
  refine ht_seq ?_
  refine ht_joinS h (fun (s4 : Bool) => [(21, .glob (GL mx)), (4, .v (.bool s4))]) ?_ ?_
  ·rintro s4 h
   refine pt_then ?_
   refine ht_ret ?_
   refine pt_pick [1] (by kernel_rfl) (es' := [(_, _)]) rfl ?_
   obtain rfl := Option.some.inj h
   exact pt_ret hio rfl (.tmp _ _ .nil) rfl rfl
  ·intro u5 h hl6 hr7
   obtain ⟨v1, hv1, h⟩ := bind_some h
   refine cond_some h (fun hg1_3 h => ?_) (fun hg1_3 h => ?_)
   ·refine cond_some h (fun hg1_8 h => ?_) (fun hg1_8 h => ?_)
    ·obtain ⟨v2, hv2, h⟩ := bind_some h
     obtain ⟨v3, hv3, h⟩ := bind_some h
     refine ht_seqR hn (El := (_ :: _ :: _ :: (5, .agg [.v (.bool p.Null), .v (.string p.Local), .v (.string p.Domain)]) :: (6, .v (.int .i64 v1)) :: (7, .v (.bool (v1 == 0))) :: (8, .v (.bool true)) :: (9, .ptr 2 0) :: (10, .v (.bool p.Null)) :: (11, .v (.bool (!p.Null))) :: (12, .v (.bool (!p.Null))) :: (13, .v (.bool true)) :: (14, .ptr 2 2) :: (15, .v (.string p.Domain)) :: (16, .v (.string v2)) :: (17, .v (.string domain)) :: (18, .v (.string v3)) :: (19, .v (.bool (v2.toList == v3.toList))) :: (20, .v (.bool (v2.toList == v3.toList))) :: (4, .v (.bool (v2.toList == v3.toList))) :: [])) (init := [0, 1, 2]) (fin := [1, 19]) (sps := (⟨[2], [], [3], [(.slot 5)]⟩ :: ⟨[3, 1], [], [4], [(.slot 6)]⟩ :: ⟨[4], [], [5], [(.slot 7)]⟩ :: ⟨[5], [], [6], [(.slot 8)]⟩ :: ⟨[6, 2], [], [7], [(.slot 9)]⟩ :: ⟨[6, 7, 2], [], [8], [(.slot 10)]⟩ :: ⟨[6, 8], [], [9], [(.slot 11)]⟩ :: ⟨[6, 9], [], [10], [(.slot 12)]⟩ :: ⟨[10], [], [11], [(.slot 13)]⟩ :: ⟨[11, 2], [], [12], [(.slot 14)]⟩ :: ⟨[11, 12, 2], [], [13], [(.slot 15)]⟩ :: ⟨[11, 13], [], [14], [(.slot 16)]⟩ :: ⟨[11, 0], [], [15], [(.slot 17)]⟩ :: ⟨[11, 15], [], [16], [(.slot 18)]⟩ :: ⟨[11, 14, 16], [], [17], [(.slot 19)]⟩ :: ⟨[11, 17], [], [18], [(.slot 20)]⟩ :: ⟨[18], [], [19], [(.slot 4)]⟩ :: [])) (es' := [(_, _), (4, .v (.bool (v2.toList == v3.toList)))]) (by kernel_rfl) rfl rfl
      ⟨st_plain rfl (op_loadA _ _ _ _ _ _ _ Tryd.underlying23 rfl sz23 rfl rfl (Nat.le_of_ble_eq_true rfl) rfl rfl),
      st_plain rfl (op_callG _ _ 21 13 _ _ rfl Tryd.call13 rfl rfl (fun _ h => h) (ok_path_Check mx p _ hv1) rfl rfl),
      st_plain rfl (op_bin _ _ _ _ _ rfl rfl rfl),
      st_plain rfl (op_move _ _ _ _ (congrArg (fun b => AV.v (Value.bool b)) hg1_3) rfl),
      st_run 3 8 true rfl rfl rfl (List.Mem.head _) (op_fieldAddr _ _ _ _ 2 0 _ Tryd.underlying23 rfl sz4 rfl rfl (by decide)),
      st_run 3 8 true rfl rfl rfl (List.Mem.head _) (op_load _ _ _ _ _ _ Tryd.underlying4 rfl rfl rfl (Nat.le_of_ble_eq_true rfl) rfl rfl rfl),
      st_run 3 8 true rfl rfl rfl (List.Mem.head _) (op_un _ _ _ _ rfl rfl),
      st_plain rfl (op_pick _ _ true _ rfl rfl),
      st_plain rfl (op_move _ _ _ _ (congrArg (fun b => AV.v (Value.bool b)) hg1_8) rfl),
      st_run 8 13 true rfl rfl rfl (List.Mem.head _) (op_fieldAddr _ _ _ _ 2 0 _ Tryd.underlying23 rfl sz9 rfl rfl (by decide)),
      st_run 8 13 true rfl rfl rfl (List.Mem.head _) (op_load _ _ _ _ _ _ Tryd.underlying9 rfl rfl rfl (Nat.le_of_ble_eq_true rfl) rfl rfl rfl),
      st_run 8 13 true rfl rfl rfl (List.Mem.head _) (op_call _ _ 22 _ _ rfl Tryd.call22 rfl (ok_path_Fold p.Domain _ hv2) rfl rfl),
      st_run 8 13 true rfl rfl rfl (List.Mem.head _) (op_move _ _ _ _ rfl rfl),
      st_run 8 13 true rfl rfl rfl (List.Mem.head _) (op_call _ _ 22 _ _ rfl Tryd.call22 rfl (ok_path_Fold domain _ hv3) rfl rfl),
      st_run 8 13 true rfl rfl rfl (List.Mem.head _) (op_bin _ _ _ _ _ rfl rfl rfl),
      st_plain rfl (op_pick _ _ true _ rfl rfl),
      st_plain rfl (op_assign _ _ _ _ rfl rfl),
      trivial⟩ ?_
     exact hl6 _ (Option.some.inj h).symm
    ·refine ht_seqR hn (El := (_ :: _ :: _ :: (5, .agg [.v (.bool p.Null), .v (.string p.Local), .v (.string p.Domain)]) :: (6, .v (.int .i64 v1)) :: (7, .v (.bool (v1 == 0))) :: (8, .v (.bool true)) :: (9, .ptr 2 0) :: (10, .v (.bool p.Null)) :: (11, .v (.bool (!p.Null))) :: (12, .v (.bool (!p.Null))) :: (13, .v (.bool false)) :: (14, .v undef) :: (15, .v undef) :: (16, .v undef) :: (17, .v undef) :: (18, .v undef) :: (19, .v undef) :: (20, .v (.bool false)) :: (4, .v (.bool false)) :: [])) (init := [0, 1, 2]) (fin := [1, 19]) (sps := (⟨[2], [], [3], [(.slot 5)]⟩ :: ⟨[3, 1], [], [4], [(.slot 6)]⟩ :: ⟨[4], [], [5], [(.slot 7)]⟩ :: ⟨[5], [], [6], [(.slot 8)]⟩ :: ⟨[6, 2], [], [7], [(.slot 9)]⟩ :: ⟨[6, 7, 2], [], [8], [(.slot 10)]⟩ :: ⟨[6, 8], [], [9], [(.slot 11)]⟩ :: ⟨[6, 9], [], [10], [(.slot 12)]⟩ :: ⟨[10], [], [11], [(.slot 13)]⟩ :: ⟨[11], [], [12], [(.slot 14)]⟩ :: ⟨[11], [], [13], [(.slot 15)]⟩ :: ⟨[11], [], [14], [(.slot 16)]⟩ :: ⟨[11], [], [15], [(.slot 17)]⟩ :: ⟨[11], [], [16], [(.slot 18)]⟩ :: ⟨[11], [], [17], [(.slot 19)]⟩ :: ⟨[11], [], [18], [(.slot 20)]⟩ :: ⟨[18], [], [19], [(.slot 4)]⟩ :: [])) (es' := [(_, _), (4, .v (.bool false))]) (by kernel_rfl) rfl rfl
      ⟨st_plain rfl (op_loadA _ _ _ _ _ _ _ Tryd.underlying23 rfl sz23 rfl rfl (Nat.le_of_ble_eq_true rfl) rfl rfl),
      st_plain rfl (op_callG _ _ 21 13 _ _ rfl Tryd.call13 rfl rfl (fun _ h => h) (ok_path_Check mx p _ hv1) rfl rfl),
      st_plain rfl (op_bin _ _ _ _ _ rfl rfl rfl),
      st_plain rfl (op_move _ _ _ _ (congrArg (fun b => AV.v (Value.bool b)) hg1_3) rfl),
      st_run 3 8 true rfl rfl rfl (List.Mem.head _) (op_fieldAddr _ _ _ _ 2 0 _ Tryd.underlying23 rfl sz4 rfl rfl (by decide)),
      st_run 3 8 true rfl rfl rfl (List.Mem.head _) (op_load _ _ _ _ _ _ Tryd.underlying4 rfl rfl rfl (Nat.le_of_ble_eq_true rfl) rfl rfl rfl),
      st_run 3 8 true rfl rfl rfl (List.Mem.head _) (op_un _ _ _ _ rfl rfl),
      st_plain rfl (op_pick _ _ true _ rfl rfl),
      st_plain rfl (op_move _ _ _ _ (congrArg (fun b => AV.v (Value.bool b)) hg1_8) rfl),
      st_skip 8 13 _ true rfl rfl rfl rfl (List.Mem.head _),
      st_skip 8 13 _ true rfl rfl rfl rfl (List.Mem.head _),
      st_skip 8 13 _ true rfl rfl rfl rfl (List.Mem.head _),
      st_skip 8 13 _ true rfl rfl rfl rfl (List.Mem.head _),
      st_skip 8 13 _ true rfl rfl rfl rfl (List.Mem.head _),
      st_skip 8 13 _ true rfl rfl rfl rfl (List.Mem.head _),
      st_plain rfl (op_pick _ _ false _ rfl rfl),
      st_plain rfl (op_assign _ _ _ _ rfl rfl),
      trivial⟩ ?_
     exact hl6 _ (Option.some.inj h).symm
   ·refine ht_seqR hn (El := (_ :: _ :: _ :: (5, .agg [.v (.bool p.Null), .v (.string p.Local), .v (.string p.Domain)]) :: (6, .v (.int .i64 v1)) :: (7, .v (.bool (v1 == 0))) :: (8, .v (.bool false)) :: (9, .v undef) :: (10, .v undef) :: (11, .v undef) :: (12, .v (.bool false)) :: (13, .v (.bool false)) :: (14, .v undef) :: (15, .v undef) :: (16, .v undef) :: (17, .v undef) :: (18, .v undef) :: (19, .v undef) :: (20, .v (.bool false)) :: (4, .v (.bool false)) :: [])) (init := [0, 1, 2]) (fin := [1, 19]) (sps := (⟨[2], [], [3], [(.slot 5)]⟩ :: ⟨[3, 1], [], [4], [(.slot 6)]⟩ :: ⟨[4], [], [5], [(.slot 7)]⟩ :: ⟨[5], [], [6], [(.slot 8)]⟩ :: ⟨[6], [], [7], [(.slot 9)]⟩ :: ⟨[6], [], [8], [(.slot 10)]⟩ :: ⟨[6], [], [9], [(.slot 11)]⟩ :: ⟨[6], [], [10], [(.slot 12)]⟩ :: ⟨[10], [], [11], [(.slot 13)]⟩ :: ⟨[11], [], [12], [(.slot 14)]⟩ :: ⟨[11], [], [13], [(.slot 15)]⟩ :: ⟨[11], [], [14], [(.slot 16)]⟩ :: ⟨[11], [], [15], [(.slot 17)]⟩ :: ⟨[11], [], [16], [(.slot 18)]⟩ :: ⟨[11], [], [17], [(.slot 19)]⟩ :: ⟨[11], [], [18], [(.slot 20)]⟩ :: ⟨[18], [], [19], [(.slot 4)]⟩ :: [])) (es' := [(_, _), (4, .v (.bool false))]) (by kernel_rfl) rfl rfl
     ⟨st_plain rfl (op_loadA _ _ _ _ _ _ _ Tryd.underlying23 rfl sz23 rfl rfl (Nat.le_of_ble_eq_true rfl) rfl rfl),
     st_plain rfl (op_callG _ _ 21 13 _ _ rfl Tryd.call13 rfl rfl (fun _ h => h) (ok_path_Check mx p _ hv1) rfl rfl),
     st_plain rfl (op_bin _ _ _ _ _ rfl rfl rfl),
     st_plain rfl (op_move _ _ _ _ (congrArg (fun b => AV.v (Value.bool b)) hg1_3) rfl),
     st_skip 3 8 _ true rfl rfl rfl rfl (List.Mem.head _),
     st_skip 3 8 _ true rfl rfl rfl rfl (List.Mem.head _),
     st_skip 3 8 _ true rfl rfl rfl rfl (List.Mem.head _),
     st_plain rfl (op_pick _ _ false _ rfl rfl),
     st_plain rfl (op_move _ _ _ _ rfl rfl),
     st_skip 8 13 _ true rfl rfl rfl rfl (List.Mem.head _),
     st_skip 8 13 _ true rfl rfl rfl rfl (List.Mem.head _),
     st_skip 8 13 _ true rfl rfl rfl rfl (List.Mem.head _),
     st_skip 8 13 _ true rfl rfl rfl rfl (List.Mem.head _),
     st_skip 8 13 _ true rfl rfl rfl rfl (List.Mem.head _),
     st_skip 8 13 _ true rfl rfl rfl rfl (List.Mem.head _),
     st_plain rfl (op_pick _ _ false _ rfl rfl),
     st_plain rfl (op_assign _ _ _ _ rfl rfl),
     trivial⟩ ?_
    exact hl6 _ (Option.some.inj h).symm

set_option maxHeartbeats 1000000 in
theorem ok_wherryref11_At (p : T_Path) (domain : ByteArray) (r : Bool) (h : Sh.wherryref11_At p domain = some r) : FnOK Tryd.prog 21 [.agg [.v (.bool p.Null), .v (.string p.Local), .v (.string p.Domain)], .v (.string domain)] (.v (.bool r)) := by
  unfold Sh.wherryref11_At at h
  refine fn_ok Tryd.func21 rfl (Nat.le_of_ble_eq_true rfl) rfl rfl fun g0 hn hio => ?_
  refine ht_seq ?_
  refine ht_seqR hn (El := [_, _, (2, .box 23 [.v (.bool p.Null), .v (.string p.Local), .v (.string p.Domain)]), (4, .v (.bool false))]) (init := [0, 1]) (fin := [1, 2]) (sps := [⟨[0], [], [2], [(.slot 2)]⟩, ⟨[], [], [3], [(.slot 4)]⟩]) (es' := [(_, _), (2, .box 23 [.v (.bool p.Null), .v (.string p.Local), .v (.string p.Domain)])]) (by kernel_rfl) rfl rfl
   ⟨st_plain rfl (op_box _ _ _ _ rfl rfl rfl),
   st_plain rfl (op_assign _ _ _ _ rfl rfl),
   trivial⟩ ?_
  refine pt_then ?_
  refine ht_seq ?_
  refine ht_joinS h (fun (s4 : Bool) => [(4, .v (.bool s4))]) ?_ ?_
  ·rintro s4 h
   refine pt_then ?_
   refine ht_ret ?_
   obtain rfl := Option.some.inj h
   exact pt_ret hio rfl (.tmp _ _ .nil) rfl rfl
  ·intro u5 h hl6 hr7
   obtain ⟨v1, hv1, h⟩ := bind_some h
   refine cond_some h (fun hg1_2 h => ?_) (fun hg1_2 h => ?_)
   ·refine cond_some h (fun hg1_7 h => ?_) (fun hg1_7 h => ?_)
    ·obtain ⟨v2, hv2, h⟩ := bind_some h
     obtain ⟨v3, hv3, h⟩ := bind_some h
     refine ht_seqR hn (El := (_ :: _ :: (5, .agg [.v (.bool p.Null), .v (.string p.Local), .v (.string p.Domain)]) :: (6, .v (.bool v1)) :: (7, .v (.bool true)) :: (8, .ptr 2 0) :: (9, .v (.bool p.Null)) :: (10, .v (.bool (!p.Null))) :: (11, .v (.bool (!p.Null))) :: (12, .v (.bool true)) :: (13, .ptr 2 2) :: (14, .v (.string p.Domain)) :: (15, .v (.string v2)) :: (16, .v (.string domain)) :: (17, .v (.string v3)) :: (18, .v (.bool (v2.toList == v3.toList))) :: (19, .v (.bool (v2.toList == v3.toList))) :: (4, .v (.bool (v2.toList == v3.toList))) :: [])) (init := [0, 1]) (fin := [17]) (sps := (⟨[1], [], [2], [(.slot 5)]⟩ :: ⟨[2], [], [3], [(.slot 6)]⟩ :: ⟨[3], [], [4], [(.slot 7)]⟩ :: ⟨[4, 1], [], [5], [(.slot 8)]⟩ :: ⟨[4, 5, 1], [], [6], [(.slot 9)]⟩ :: ⟨[4, 6], [], [7], [(.slot 10)]⟩ :: ⟨[4, 7], [], [8], [(.slot 11)]⟩ :: ⟨[8], [], [9], [(.slot 12)]⟩ :: ⟨[9, 1], [], [10], [(.slot 13)]⟩ :: ⟨[9, 10, 1], [], [11], [(.slot 14)]⟩ :: ⟨[9, 11], [], [12], [(.slot 15)]⟩ :: ⟨[9, 0], [], [13], [(.slot 16)]⟩ :: ⟨[9, 13], [], [14], [(.slot 17)]⟩ :: ⟨[9, 12, 14], [], [15], [(.slot 18)]⟩ :: ⟨[9, 15], [], [16], [(.slot 19)]⟩ :: ⟨[16], [], [17], [(.slot 4)]⟩ :: [])) (es' := [(4, .v (.bool (v2.toList == v3.toList)))]) (by kernel_rfl) rfl rfl
      ⟨st_plain rfl (op_loadA _ _ _ _ _ _ _ Tryd.underlying23 rfl sz23 rfl rfl (Nat.le_of_ble_eq_true rfl) rfl rfl),
      st_plain rfl (op_call _ _ 12 _ _ rfl Tryd.call12 rfl (ok_wherryref11_Path p _ hv1) rfl rfl),
      st_plain rfl (op_move _ _ _ _ (congrArg (fun b => AV.v (Value.bool b)) hg1_2) rfl),
      st_run 2 7 true rfl rfl rfl (List.Mem.head _) (op_fieldAddr _ _ _ _ 2 0 _ Tryd.underlying23 rfl sz4 rfl rfl (by decide)),
      st_run 2 7 true rfl rfl rfl (List.Mem.head _) (op_load _ _ _ _ _ _ Tryd.underlying4 rfl rfl rfl (Nat.le_of_ble_eq_true rfl) rfl rfl rfl),
      st_run 2 7 true rfl rfl rfl (List.Mem.head _) (op_un _ _ _ _ rfl rfl),
      st_plain rfl (op_pick _ _ true _ rfl rfl),
      st_plain rfl (op_move _ _ _ _ (congrArg (fun b => AV.v (Value.bool b)) hg1_7) rfl),
      st_run 7 12 true rfl rfl rfl (List.Mem.head _) (op_fieldAddr _ _ _ _ 2 0 _ Tryd.underlying23 rfl sz9 rfl rfl (by decide)),
      st_run 7 12 true rfl rfl rfl (List.Mem.head _) (op_load _ _ _ _ _ _ Tryd.underlying9 rfl rfl rfl (Nat.le_of_ble_eq_true rfl) rfl rfl rfl),
      st_run 7 12 true rfl rfl rfl (List.Mem.head _) (op_call _ _ 23 _ _ rfl Tryd.call23 rfl (ok_wherryref11_Fold p.Domain _ hv2) rfl rfl),
      st_run 7 12 true rfl rfl rfl (List.Mem.head _) (op_move _ _ _ _ rfl rfl),
      st_run 7 12 true rfl rfl rfl (List.Mem.head _) (op_call _ _ 23 _ _ rfl Tryd.call23 rfl (ok_wherryref11_Fold domain _ hv3) rfl rfl),
      st_run 7 12 true rfl rfl rfl (List.Mem.head _) (op_bin _ _ _ _ _ rfl rfl rfl),
      st_plain rfl (op_pick _ _ true _ rfl rfl),
      st_plain rfl (op_assign _ _ _ _ rfl rfl),
      trivial⟩ ?_
     exact hl6 _ (Option.some.inj h).symm
    ·refine ht_seqR hn (El := (_ :: _ :: (5, .agg [.v (.bool p.Null), .v (.string p.Local), .v (.string p.Domain)]) :: (6, .v (.bool v1)) :: (7, .v (.bool true)) :: (8, .ptr 2 0) :: (9, .v (.bool p.Null)) :: (10, .v (.bool (!p.Null))) :: (11, .v (.bool (!p.Null))) :: (12, .v (.bool false)) :: (13, .v undef) :: (14, .v undef) :: (15, .v undef) :: (16, .v undef) :: (17, .v undef) :: (18, .v undef) :: (19, .v (.bool false)) :: (4, .v (.bool false)) :: [])) (init := [0, 1]) (fin := [17]) (sps := (⟨[1], [], [2], [(.slot 5)]⟩ :: ⟨[2], [], [3], [(.slot 6)]⟩ :: ⟨[3], [], [4], [(.slot 7)]⟩ :: ⟨[4, 1], [], [5], [(.slot 8)]⟩ :: ⟨[4, 5, 1], [], [6], [(.slot 9)]⟩ :: ⟨[4, 6], [], [7], [(.slot 10)]⟩ :: ⟨[4, 7], [], [8], [(.slot 11)]⟩ :: ⟨[8], [], [9], [(.slot 12)]⟩ :: ⟨[9], [], [10], [(.slot 13)]⟩ :: ⟨[9], [], [11], [(.slot 14)]⟩ :: ⟨[9], [], [12], [(.slot 15)]⟩ :: ⟨[9], [], [13], [(.slot 16)]⟩ :: ⟨[9], [], [14], [(.slot 17)]⟩ :: ⟨[9], [], [15], [(.slot 18)]⟩ :: ⟨[9], [], [16], [(.slot 19)]⟩ :: ⟨[16], [], [17], [(.slot 4)]⟩ :: [])) (es' := [(4, .v (.bool false))]) (by kernel_rfl) rfl rfl
      ⟨st_plain rfl (op_loadA _ _ _ _ _ _ _ Tryd.underlying23 rfl sz23 rfl rfl (Nat.le_of_ble_eq_true rfl) rfl rfl),
      st_plain rfl (op_call _ _ 12 _ _ rfl Tryd.call12 rfl (ok_wherryref11_Path p _ hv1) rfl rfl),
      st_plain rfl (op_move _ _ _ _ (congrArg (fun b => AV.v (Value.bool b)) hg1_2) rfl),
      st_run 2 7 true rfl rfl rfl (List.Mem.head _) (op_fieldAddr _ _ _ _ 2 0 _ Tryd.underlying23 rfl sz4 rfl rfl (by decide)),
      st_run 2 7 true rfl rfl rfl (List.Mem.head _) (op_load _ _ _ _ _ _ Tryd.underlying4 rfl rfl rfl (Nat.le_of_ble_eq_true rfl) rfl rfl rfl),
      st_run 2 7 true rfl rfl rfl (List.Mem.head _) (op_un _ _ _ _ rfl rfl),
      st_plain rfl (op_pick _ _ true _ rfl rfl),
      st_plain rfl (op_move _ _ _ _ (congrArg (fun b => AV.v (Value.bool b)) hg1_7) rfl),
      st_skip 7 12 _ true rfl rfl rfl rfl (List.Mem.head _),
      st_skip 7 12 _ true rfl rfl rfl rfl (List.Mem.head _),
      st_skip 7 12 _ true rfl rfl rfl rfl (List.Mem.head _),
      st_skip 7 12 _ true rfl rfl rfl rfl (List.Mem.head _),
      st_skip 7 12 _ true rfl rfl rfl rfl (List.Mem.head _),
      st_skip 7 12 _ true rfl rfl rfl rfl (List.Mem.head _),
      st_plain rfl (op_pick _ _ false _ rfl rfl),
      st_plain rfl (op_assign _ _ _ _ rfl rfl),
      trivial⟩ ?_
     exact hl6 _ (Option.some.inj h).symm
   ·refine ht_seqR hn (El := (_ :: _ :: (5, .agg [.v (.bool p.Null), .v (.string p.Local), .v (.string p.Domain)]) :: (6, .v (.bool v1)) :: (7, .v (.bool false)) :: (8, .v undef) :: (9, .v undef) :: (10, .v undef) :: (11, .v (.bool false)) :: (12, .v (.bool false)) :: (13, .v undef) :: (14, .v undef) :: (15, .v undef) :: (16, .v undef) :: (17, .v undef) :: (18, .v undef) :: (19, .v (.bool false)) :: (4, .v (.bool false)) :: [])) (init := [0, 1]) (fin := [17]) (sps := (⟨[1], [], [2], [(.slot 5)]⟩ :: ⟨[2], [], [3], [(.slot 6)]⟩ :: ⟨[3], [], [4], [(.slot 7)]⟩ :: ⟨[4], [], [5], [(.slot 8)]⟩ :: ⟨[4], [], [6], [(.slot 9)]⟩ :: ⟨[4], [], [7], [(.slot 10)]⟩ :: ⟨[4], [], [8], [(.slot 11)]⟩ :: ⟨[8], [], [9], [(.slot 12)]⟩ :: ⟨[9], [], [10], [(.slot 13)]⟩ :: ⟨[9], [], [11], [(.slot 14)]⟩ :: ⟨[9], [], [12], [(.slot 15)]⟩ :: ⟨[9], [], [13], [(.slot 16)]⟩ :: ⟨[9], [], [14], [(.slot 17)]⟩ :: ⟨[9], [], [15], [(.slot 18)]⟩ :: ⟨[9], [], [16], [(.slot 19)]⟩ :: ⟨[16], [], [17], [(.slot 4)]⟩ :: [])) (es' := [(4, .v (.bool false))]) (by kernel_rfl) rfl rfl
     ⟨st_plain rfl (op_loadA _ _ _ _ _ _ _ Tryd.underlying23 rfl sz23 rfl rfl (Nat.le_of_ble_eq_true rfl) rfl rfl),
     st_plain rfl (op_call _ _ 12 _ _ rfl Tryd.call12 rfl (ok_wherryref11_Path p _ hv1) rfl rfl),
     st_plain rfl (op_move _ _ _ _ (congrArg (fun b => AV.v (Value.bool b)) hg1_2) rfl),
     st_skip 2 7 _ true rfl rfl rfl rfl (List.Mem.head _),
     st_skip 2 7 _ true rfl rfl rfl rfl (List.Mem.head _),
     st_skip 2 7 _ true rfl rfl rfl rfl (List.Mem.head _),
     st_plain rfl (op_pick _ _ false _ rfl rfl),
     st_plain rfl (op_move _ _ _ _ rfl rfl),
     st_skip 7 12 _ true rfl rfl rfl rfl (List.Mem.head _),
     st_skip 7 12 _ true rfl rfl rfl rfl (List.Mem.head _),
     st_skip 7 12 _ true rfl rfl rfl rfl (List.Mem.head _),
     st_skip 7 12 _ true rfl rfl rfl rfl (List.Mem.head _),
     st_skip 7 12 _ true rfl rfl rfl rfl (List.Mem.head _),
     st_skip 7 12 _ true rfl rfl rfl rfl (List.Mem.head _),
     st_plain rfl (op_pick _ _ false _ rfl rfl),
     st_plain rfl (op_assign _ _ _ _ rfl rfl),
     trivial⟩ ?_
    exact hl6 _ (Option.some.inj h).symm

set_option maxHeartbeats 1000000 in
theorem ok_wherrylaw11_wakes (mx : Int) (r : Bool) (h : Sh.wherrylaw11_wakes  = some r) : FnG Tryd.prog (GL mx) 24 [] (.v (.bool r)) := by
  unfold Sh.wherrylaw11_wakes at h
  refine fn_okG Tryd.func24 rfl (Nat.le_of_ble_eq_true rfl) rfl rfl fun g0 hn hio => ?_
  refine ht_seq ?_
  refine ht_seqR hn (El := [_, (0, .v (.bool false))]) (init := [0]) (fin := [0]) (sps := [⟨[], [], [1], [(.slot 0)]⟩]) (es' := [(_, _)]) (by kernel_rfl) rfl rfl
   ⟨st_plain rfl (op_assign _ _ _ _ rfl rfl),
   trivial⟩ ?_
  refine pt_then ?_
  refine ht_seq ?_
  obtain ⟨v1, hv1, h⟩ := bind_some h
  refine ht_seqR hn (El := [_, (10, .tup [.agg [.v (.bool v1.1.Null), .v (.string v1.1.Local), .v (.string v1.1.Domain)], .v (.int .i64 v1.2)]), (9, .tup [.agg [.v (.bool v1.1.Null), .v (.string v1.1.Local), .v (.string v1.1.Domain)], .v (.int .i64 v1.2)]), (11, .agg [.v (.bool v1.1.Null), .v (.string v1.1.Local), .v (.string v1.1.Domain)]), (12, .v (.int .i64 v1.2)), (1, .box 23 [.v (.bool false), .v (.string (⟨#[]⟩ : ByteArray)), .v (.string (⟨#[]⟩ : ByteArray))]), (1, .box 23 [.v (.bool v1.1.Null), .v (.string v1.1.Local), .v (.string v1.1.Domain)]), (2, .v (.int .i64 v1.2))]) (init := [0]) (fin := [0, 6, 7]) (sps := [⟨[0], [], [1], [(.slot 10)]⟩, ⟨[], [1], [2], [(.slot 9)]⟩, ⟨[2], [], [3], [(.slot 11)]⟩, ⟨[2], [], [4], [(.slot 12)]⟩, ⟨[], [], [5], [(.slot 1)]⟩, ⟨[3], [5], [6], [.cell 1 0, .cell 1 1, .cell 1 2]⟩, ⟨[4], [], [7], [(.slot 2)]⟩]) (es' := [(_, _), (1, .box 23 [.v (.bool v1.1.Null), .v (.string v1.1.Local), .v (.string v1.1.Domain)]), (2, .v (.int .i64 v1.2))]) (by kernel_rfl) rfl rfl
   ⟨st_plain rfl (op_callG _ _ 74 9 _ _ rfl Tryd.call9 rfl rfl (fun _ h => h) (ok_path_Parse mx (⟨#[60, 97, 46, 98, 64, 99, 45, 100, 46, 101, 120, 97, 109, 112, 108, 101, 62]⟩ : ByteArray) _ hv1) rfl rfl),
   st_plain rfl (op_move_take _ _ _ _ rfl),
   st_plain rfl (op_extract_no _ _ _ _ _ _ rfl rfl (Nat.le_of_ble_eq_true rfl) rfl rfl),
   st_plain rfl (op_extract _ _ _ _ _ rfl rfl (Nat.le_of_ble_eq_true rfl) rfl rfl),
   st_plain rfl (op_alloc _ _ zr23),
   st_plain rfl (op_store _ _ _ _ _ _ _ _ sz23 rfl rfl rfl rfl (Nat.le_of_ble_eq_true rfl) rfl rfl),
   st_plain rfl (op_assign _ _ _ _ rfl rfl),
   trivial⟩ ?_
  refine pt_then ?_
  refine ht_seq ?_
  obtain ⟨v2, hv2, h⟩ := bind_some h
  refine ht_seqR hn (El := [_, _, _, (14, .agg [.v (.bool v1.1.Null), .v (.string v1.1.Local), .v (.string v1.1.Domain)]), (15, .tup [.v (.string v2.1), .v (.int .i64 v2.2)]), (13, .tup [.v (.string v2.1), .v (.int .i64 v2.2)]), (16, .v (.string v2.1)), (17, .v (.int .i64 v2.2)), (3, .v (.string v2.1)), (4, .v (.int .i64 v2.2))]) (init := [0, 1, 2]) (fin := [0, 1, 2, 8, 9]) (sps := [⟨[1], [], [3], [(.slot 14)]⟩, ⟨[3, 0], [], [4], [(.slot 15)]⟩, ⟨[], [4], [5], [(.slot 13)]⟩, ⟨[5], [], [6], [(.slot 16)]⟩, ⟨[5], [], [7], [(.slot 17)]⟩, ⟨[6], [], [8], [(.slot 3)]⟩, ⟨[7], [], [9], [(.slot 4)]⟩]) (es' := [(_, _), (_, _), (_, _), (3, .v (.string v2.1)), (4, .v (.int .i64 v2.2))]) (by kernel_rfl) rfl rfl
   ⟨st_plain rfl (op_loadA _ _ _ _ _ _ _ Tryd.underlying23 rfl sz23 rfl rfl (Nat.le_of_ble_eq_true rfl) rfl rfl),
   st_plain rfl (op_callG _ _ 74 11 _ _ rfl Tryd.call11 rfl rfl (fun _ h => h) (ok_path_Text mx v1.1 _ hv2) rfl rfl),
   st_plain rfl (op_move_take _ _ _ _ rfl),
   st_plain rfl (op_extract _ _ _ _ _ rfl rfl (Nat.le_of_ble_eq_true rfl) rfl rfl),
   st_plain rfl (op_extract _ _ _ _ _ rfl rfl (Nat.le_of_ble_eq_true rfl) rfl rfl),
   st_plain rfl (op_assign _ _ _ _ rfl rfl),
   st_plain rfl (op_assign _ _ _ _ rfl rfl),
   trivial⟩ ?_
  refine pt_then ?_
  refine ht_seq ?_
  obtain ⟨v3, hv3, h⟩ := bind_some h
  refine ht_seqR hn (El := [_, _, _, _, _, (19, .tup [.agg [.v (.bool v3.1.Null), .v (.string v3.1.Local), .v (.string v3.1.Domain)], .v (.int .i64 v3.2)]), (18, .tup [.agg [.v (.bool v3.1.Null), .v (.string v3.1.Local), .v (.string v3.1.Domain)], .v (.int .i64 v3.2)]), (20, .agg [.v (.bool v3.1.Null), .v (.string v3.1.Local), .v (.string v3.1.Domain)]), (21, .v (.int .i64 v3.2)), (5, .box 23 [.v (.bool false), .v (.string (⟨#[]⟩ : ByteArray)), .v (.string (⟨#[]⟩ : ByteArray))]), (5, .box 23 [.v (.bool v3.1.Null), .v (.string v3.1.Local), .v (.string v3.1.Domain)]), (6, .v (.int .i64 v3.2))]) (init := [0, 1, 2, 3, 4]) (fin := [0, 1, 2, 3, 4, 10, 11]) (sps := [⟨[0], [], [5], [(.slot 19)]⟩, ⟨[], [5], [6], [(.slot 18)]⟩, ⟨[6], [], [7], [(.slot 20)]⟩, ⟨[6], [], [8], [(.slot 21)]⟩, ⟨[], [], [9], [(.slot 5)]⟩, ⟨[7], [9], [10], [.cell 5 0, .cell 5 1, .cell 5 2]⟩, ⟨[8], [], [11], [(.slot 6)]⟩]) (es' := [(_, _), (_, _), (_, _), (_, _), (_, _), (5, .box 23 [.v (.bool v3.1.Null), .v (.string v3.1.Local), .v (.string v3.1.Domain)]), (6, .v (.int .i64 v3.2))]) (by kernel_rfl) rfl rfl
   ⟨st_plain rfl (op_callG _ _ 74 9 _ _ rfl Tryd.call9 rfl rfl (fun _ h => h) (ok_path_Parse mx (⟨#[60, 62]⟩ : ByteArray) _ hv3) rfl rfl),
   st_plain rfl (op_move_take _ _ _ _ rfl),
   st_plain rfl (op_extract_no _ _ _ _ _ _ rfl rfl (Nat.le_of_ble_eq_true rfl) rfl rfl),
   st_plain rfl (op_extract _ _ _ _ _ rfl rfl (Nat.le_of_ble_eq_true rfl) rfl rfl),
   st_plain rfl (op_alloc _ _ zr23),
   st_plain rfl (op_store _ _ _ _ _ _ _ _ sz23 rfl rfl rfl rfl (Nat.le_of_ble_eq_true rfl) rfl rfl),
   st_plain rfl (op_assign _ _ _ _ rfl rfl),
   trivial⟩ ?_
  refine pt_then ?_
  refine ht_seq ?_
  obtain ⟨v4, hv4, h⟩ := bind_some h
  refine ht_seqR hn (El := [_, _, _, _, _, _, _, (23, .tup [.agg [.v (.bool v4.1.Null), .v (.string v4.1.Local), .v (.string v4.1.Domain)], .v (.int .i64 v4.2)]), (22, .tup [.agg [.v (.bool v4.1.Null), .v (.string v4.1.Local), .v (.string v4.1.Domain)], .v (.int .i64 v4.2)]), (24, .agg [.v (.bool v4.1.Null), .v (.string v4.1.Local), .v (.string v4.1.Domain)]), (25, .v (.int .i64 v4.2)), (7, .box 23 [.v (.bool false), .v (.string (⟨#[]⟩ : ByteArray)), .v (.string (⟨#[]⟩ : ByteArray))]), (7, .box 23 [.v (.bool v4.1.Null), .v (.string v4.1.Local), .v (.string v4.1.Domain)]), (8, .v (.int .i64 v4.2))]) (init := [0, 1, 2, 3, 4, 5, 6]) (fin := [0, 1, 2, 3, 4, 5, 6, 13]) (sps := [⟨[0], [], [7], [(.slot 23)]⟩, ⟨[], [7], [8], [(.slot 22)]⟩, ⟨[8], [], [9], [(.slot 24)]⟩, ⟨[8], [], [10], [(.slot 25)]⟩, ⟨[], [], [11], [(.slot 7)]⟩, ⟨[9], [11], [12], [.cell 7 0, .cell 7 1, .cell 7 2]⟩, ⟨[10], [], [13], [(.slot 8)]⟩]) (es' := [(_, _), (_, _), (_, _), (_, _), (_, _), (_, _), (_, _), (8, .v (.int .i64 v4.2))]) (by kernel_rfl) rfl rfl
   ⟨st_plain rfl (op_callG _ _ 74 9 _ _ rfl Tryd.call9 rfl rfl (fun _ h => h) (ok_path_Parse mx (⟨#[60, 97, 46, 46, 98, 64, 99, 62]⟩ : ByteArray) _ hv4) rfl rfl),
   st_plain rfl (op_move_take _ _ _ _ rfl),
   st_plain rfl (op_extract_no _ _ _ _ _ _ rfl rfl (Nat.le_of_ble_eq_true rfl) rfl rfl),
   st_plain rfl (op_extract _ _ _ _ _ rfl rfl (Nat.le_of_ble_eq_true rfl) rfl rfl),
   st_plain rfl (op_alloc _ _ zr23),
   st_plain rfl (op_store _ _ _ _ _ _ _ _ sz23 rfl rfl rfl rfl (Nat.le_of_ble_eq_true rfl) rfl rfl),
   st_plain rfl (op_assign _ _ _ _ rfl rfl),
   trivial⟩ ?_
  refine pt_then ?_
  refine ht_seq ?_
  refine ht_joinS h (fun (s9 : Bool) => [(74, .glob (GL mx)), (0, .v (.bool s9))]) ?_ ?_
  ·rintro s9 h
   refine pt_then ?_
   refine ht_ret ?_
   refine pt_pick [1] (by kernel_rfl) (es' := [(_, _)]) rfl ?_
   obtain rfl := Option.some.inj h
   exact pt_ret hio rfl (.tmp _ _ .nil) rfl rfl
  ·intro u10 h hl11 hr12
   refine cond_some h (fun hg5_2 h => ?_) (fun hg5_2 h => ?_)
   ·refine cond_some h (fun hg5_6 h => ?_) (fun hg5_6 h => ?_)
    ·refine cond_some h (fun hg5_10 h => ?_) (fun hg5_10 h => ?_)
     ·refine cond_some h (fun hg5_14 h => ?_) (fun hg5_14 h => ?_)
      ·refine cond_some h (fun hg5_19 h => ?_) (fun hg5_19 h => ?_)
       ·refine cond_some h (fun hg5_24 h => ?_) (fun hg5_24 h => ?_)
        ·refine cond_some h (fun hg5_28 h => ?_) (fun hg5_28 h => ?_)
         ·refine cond_some h (fun hg5_32 h => ?_) (fun hg5_32 h => ?_)
          ·obtain ⟨v5, hv5, h⟩ := bind_some h
           refine cond_some h (fun hg5_35 h => ?_) (fun hg5_35 h => ?_)
           ·obtain ⟨v6, hv6, h⟩ := bind_some h
            refine cond_some h (fun hg5_39 h => ?_) (fun hg5_39 h => ?_)
            ·obtain ⟨v7, hv7, h⟩ := bind_some h
             refine cond_some h (fun hg5_43 h => ?_) (fun hg5_43 h => ?_)
             ·obtain ⟨v8, hv8, h⟩ := bind_some h
              refine ht_seqR hn (El := (_ :: _ :: _ :: _ :: _ :: _ :: _ :: _ :: (26, .v (.int .i64 v1.2)) :: (27, .v (.bool (v1.2 == 0))) :: (28, .v (.bool true)) :: (29, .v (.int .i64 v2.2)) :: (30, .v (.bool (v2.2 == 0))) :: (31, .v (.bool (v2.2 == 0))) :: (32, .v (.bool true)) :: (33, .v (.int .i64 v3.2)) :: (34, .v (.bool (v3.2 == 0))) :: (35, .v (.bool (v3.2 == 0))) :: (36, .v (.bool true)) :: (37, .v (.int .i64 v4.2)) :: (38, .v (.bool (v4.2 == 5))) :: (39, .v (.bool (v4.2 == 5))) :: (40, .v (.bool true)) :: (41, .ptr 1 1) :: (42, .v (.string v1.1.Local)) :: (43, .v (.bool ((v1.1.Local.toList == (⟨#[97, 46, 98]⟩ : ByteArray).toList)))) :: (44, .v (.bool ((v1.1.Local.toList == (⟨#[97, 46, 98]⟩ : ByteArray).toList)))) :: (45, .v (.bool true)) :: (46, .ptr 1 2) :: (47, .v (.string v1.1.Domain)) :: (48, .v (.bool ((v1.1.Domain.toList == (⟨#[99, 45, 100, 46, 101, 120, 97, 109, 112, 108, 101]⟩ : ByteArray).toList)))) :: (49, .v (.bool ((v1.1.Domain.toList == (⟨#[99, 45, 100, 46, 101, 120, 97, 109, 112, 108, 101]⟩ : ByteArray).toList)))) :: (50, .v (.bool true)) :: (51, .v (.string v2.1)) :: (52, .v (.bool ((v2.1.toList == (⟨#[60, 97, 46, 98, 64, 99, 45, 100, 46, 101, 120, 97, 109, 112, 108, 101, 62]⟩ : ByteArray).toList)))) :: (53, .v (.bool ((v2.1.toList == (⟨#[60, 97, 46, 98, 64, 99, 45, 100, 46, 101, 120, 97, 109, 112, 108, 101, 62]⟩ : ByteArray).toList)))) :: (54, .v (.bool true)) :: (55, .ptr 5 0) :: (56, .v (.bool v3.1.Null)) :: (57, .v (.bool v3.1.Null)) :: (58, .v (.bool true)) :: (59, .v (.bool v5)) :: (60, .v (.bool v5)) :: (61, .v (.bool true)) :: (62, .v (.string v6)) :: (63, .v (.bool ((v6.toList == (⟨#[97, 122]⟩ : ByteArray).toList)))) :: (64, .v (.bool ((v6.toList == (⟨#[97, 122]⟩ : ByteArray).toList)))) :: (65, .v (.bool true)) :: (66, .agg [.v (.bool v1.1.Null), .v (.string v1.1.Local), .v (.string v1.1.Domain)]) :: (67, .v (.bool v7)) :: (68, .v (.bool v7)) :: (69, .v (.bool true)) :: (70, .agg [.v (.bool v1.1.Null), .v (.string v1.1.Local), .v (.string v1.1.Domain)]) :: (71, .agg [.v (.bool v1.1.Null), .v (.string v1.1.Local), .v (.string v1.1.Domain)]) :: (72, .v (.bool v8)) :: (73, .v (.bool v8)) :: (0, .v (.bool v8)) :: [])) (init := [0, 1, 2, 3, 4, 5, 6, 7]) (fin := [0, 56]) (sps := (⟨[2], [], [8], [(.slot 26)]⟩ :: ⟨[8], [], [9], [(.slot 27)]⟩ :: ⟨[9], [], [10], [(.slot 28)]⟩ :: ⟨[10, 4], [], [11], [(.slot 29)]⟩ :: ⟨[10, 11], [], [12], [(.slot 30)]⟩ :: ⟨[10, 12], [], [13], [(.slot 31)]⟩ :: ⟨[13], [], [14], [(.slot 32)]⟩ :: ⟨[14, 6], [], [15], [(.slot 33)]⟩ :: ⟨[14, 15], [], [16], [(.slot 34)]⟩ :: ⟨[14, 16], [], [17], [(.slot 35)]⟩ :: ⟨[17], [], [18], [(.slot 36)]⟩ :: ⟨[18, 7], [], [19], [(.slot 37)]⟩ :: ⟨[18, 19], [], [20], [(.slot 38)]⟩ :: ⟨[18, 20], [], [21], [(.slot 39)]⟩ :: ⟨[21], [], [22], [(.slot 40)]⟩ :: ⟨[22, 1], [], [23], [(.slot 41)]⟩ :: ⟨[22, 23, 1], [], [24], [(.slot 42)]⟩ :: ⟨[22, 24], [], [25], [(.slot 43)]⟩ :: ⟨[22, 25], [], [26], [(.slot 44)]⟩ :: ⟨[26], [], [27], [(.slot 45)]⟩ :: ⟨[27, 1], [], [28], [(.slot 46)]⟩ :: ⟨[27, 28, 1], [], [29], [(.slot 47)]⟩ :: ⟨[27, 29], [], [30], [(.slot 48)]⟩ :: ⟨[27, 30], [], [31], [(.slot 49)]⟩ :: ⟨[31], [], [32], [(.slot 50)]⟩ :: ⟨[32, 3], [], [33], [(.slot 51)]⟩ :: ⟨[32, 33], [], [34], [(.slot 52)]⟩ :: ⟨[32, 34], [], [35], [(.slot 53)]⟩ :: ⟨[35], [], [36], [(.slot 54)]⟩ :: ⟨[36, 5], [], [37], [(.slot 55)]⟩ :: ⟨[36, 37, 5], [], [38], [(.slot 56)]⟩ :: ⟨[36, 38], [], [39], [(.slot 57)]⟩ :: ⟨[39], [], [40], [(.slot 58)]⟩ :: ⟨[40, 0], [], [41], [(.slot 59)]⟩ :: ⟨[40, 41], [], [42], [(.slot 60)]⟩ :: ⟨[42], [], [43], [(.slot 61)]⟩ :: ⟨[43], [], [44], [(.slot 62)]⟩ :: ⟨[43, 44], [], [45], [(.slot 63)]⟩ :: ⟨[43, 45], [], [46], [(.slot 64)]⟩ :: ⟨[46], [], [47], [(.slot 65)]⟩ :: ⟨[47, 1], [], [48], [(.slot 66)]⟩ :: ⟨[47, 48, 0], [], [49], [(.slot 67)]⟩ :: ⟨[47, 49], [], [50], [(.slot 68)]⟩ :: ⟨[50], [], [51], [(.slot 69)]⟩ :: ⟨[51, 1], [], [52], [(.slot 70)]⟩ :: ⟨[51, 1], [], [53], [(.slot 71)]⟩ :: ⟨[51, 52, 53, 0], [], [54], [(.slot 72)]⟩ :: ⟨[51, 54], [], [55], [(.slot 73)]⟩ :: ⟨[55], [], [56], [(.slot 0)]⟩ :: [])) (es' := [(_, _), (0, .v (.bool v8))]) (by kernel_rfl) rfl rfl
               ⟨st_plain rfl (op_move _ _ _ _ rfl rfl),
               st_plain rfl (op_bin _ _ _ _ _ rfl rfl rfl),
               st_plain rfl (op_move _ _ _ _ (congrArg (fun b => AV.v (Value.bool b)) hg5_2) rfl),
               st_run 2 28 true rfl rfl rfl (List.Mem.head _) (op_move _ _ _ _ rfl rfl),
               st_run 2 28 true rfl rfl rfl (List.Mem.head _) (op_bin _ _ _ _ _ rfl rfl rfl),
               st_plain rfl (op_pick _ _ true _ rfl rfl),
               st_plain rfl (op_move _ _ _ _ (congrArg (fun b => AV.v (Value.bool b)) hg5_6) rfl),
               st_run 6 32 true rfl rfl rfl (List.Mem.head _) (op_move _ _ _ _ rfl rfl),
               st_run 6 32 true rfl rfl rfl (List.Mem.head _) (op_bin _ _ _ _ _ rfl rfl rfl),
               st_plain rfl (op_pick _ _ true _ rfl rfl),
               st_plain rfl (op_move _ _ _ _ (congrArg (fun b => AV.v (Value.bool b)) hg5_10) rfl),
               st_run 10 36 true rfl rfl rfl (List.Mem.head _) (op_move _ _ _ _ rfl rfl),
               st_run 10 36 true rfl rfl rfl (List.Mem.head _) (op_bin _ _ _ _ _ rfl rfl rfl),
               st_plain rfl (op_pick _ _ true _ rfl rfl),
               st_plain rfl (op_move _ _ _ _ (congrArg (fun b => AV.v (Value.bool b)) hg5_14) rfl),
               st_run 14 40 true rfl rfl rfl (List.Mem.head _) (op_fieldAddr _ _ _ _ 1 0 _ Tryd.underlying23 rfl sz9 rfl rfl (by decide)),
               st_run 14 40 true rfl rfl rfl (List.Mem.head _) (op_load _ _ _ _ _ _ Tryd.underlying9 rfl rfl rfl (Nat.le_of_ble_eq_true rfl) rfl rfl rfl),
               st_run 14 40 true rfl rfl rfl (List.Mem.head _) (op_bin _ _ _ _ _ rfl rfl rfl),
               st_plain rfl (op_pick _ _ true _ rfl rfl),
               st_plain rfl (op_move _ _ _ _ (congrArg (fun b => AV.v (Value.bool b)) hg5_19) rfl),
               st_run 19 45 true rfl rfl rfl (List.Mem.head _) (op_fieldAddr _ _ _ _ 1 0 _ Tryd.underlying23 rfl sz9 rfl rfl (by decide)),
               st_run 19 45 true rfl rfl rfl (List.Mem.head _) (op_load _ _ _ _ _ _ Tryd.underlying9 rfl rfl rfl (Nat.le_of_ble_eq_true rfl) rfl rfl rfl),
               st_run 19 45 true rfl rfl rfl (List.Mem.head _) (op_bin _ _ _ _ _ rfl rfl rfl),
               st_plain rfl (op_pick _ _ true _ rfl rfl),
               st_plain rfl (op_move _ _ _ _ (congrArg (fun b => AV.v (Value.bool b)) hg5_24) rfl),
               st_run 24 50 true rfl rfl rfl (List.Mem.head _) (op_move _ _ _ _ rfl rfl),
               st_run 24 50 true rfl rfl rfl (List.Mem.head _) (op_bin _ _ _ _ _ rfl rfl rfl),
               st_plain rfl (op_pick _ _ true _ rfl rfl),
               st_plain rfl (op_move _ _ _ _ (congrArg (fun b => AV.v (Value.bool b)) hg5_28) rfl),
               st_run 28 54 true rfl rfl rfl (List.Mem.head _) (op_fieldAddr _ _ _ _ 5 0 _ Tryd.underlying23 rfl sz4 rfl rfl (by decide)),
               st_run 28 54 true rfl rfl rfl (List.Mem.head _) (op_load _ _ _ _ _ _ Tryd.underlying4 rfl rfl rfl (Nat.le_of_ble_eq_true rfl) rfl rfl rfl),
               st_plain rfl (op_pick _ _ true _ rfl rfl),
               st_plain rfl (op_move _ _ _ _ (congrArg (fun b => AV.v (Value.bool b)) hg5_32) rfl),
               st_run 32 58 true rfl rfl rfl (List.Mem.head _) (op_callG _ _ 74 14 _ _ rfl Tryd.call14 rfl rfl (fun _ h => h) (ok_path_Domain mx (⟨#[120]⟩ : ByteArray) _ hv5) rfl rfl),
               st_plain rfl (op_pick _ _ true _ rfl rfl),
               st_plain rfl (op_move _ _ _ _ (congrArg (fun b => AV.v (Value.bool b)) hg5_35) rfl),
               st_run 35 61 true rfl rfl rfl (List.Mem.head _) (op_call _ _ 22 _ _ rfl Tryd.call22 rfl (ok_path_Fold (⟨#[97, 90]⟩ : ByteArray) _ hv6) rfl rfl),
               st_run 35 61 true rfl rfl rfl (List.Mem.head _) (op_bin _ _ _ _ _ rfl rfl rfl),
               st_plain rfl (op_pick _ _ true _ rfl rfl),
               st_plain rfl (op_move _ _ _ _ (congrArg (fun b => AV.v (Value.bool b)) hg5_39) rfl),
               st_run 39 65 true rfl rfl rfl (List.Mem.head _) (op_loadA _ _ _ _ _ _ _ Tryd.underlying23 rfl sz23 rfl rfl (Nat.le_of_ble_eq_true rfl) rfl rfl),
               st_run 39 65 true rfl rfl rfl (List.Mem.head _) (op_callG _ _ 74 20 _ _ rfl Tryd.call20 rfl rfl (fun _ h => h) (ok_path_At mx v1.1 (⟨#[67, 45, 68, 46, 69, 88, 65, 77, 80, 76, 69]⟩ : ByteArray) _ hv7) rfl rfl),
               st_plain rfl (op_pick _ _ true _ rfl rfl),
               st_plain rfl (op_move _ _ _ _ (congrArg (fun b => AV.v (Value.bool b)) hg5_43) rfl),
               st_run 43 69 true rfl rfl rfl (List.Mem.head _) (op_loadA _ _ _ _ _ _ _ Tryd.underlying23 rfl sz23 rfl rfl (Nat.le_of_ble_eq_true rfl) rfl rfl),
               st_run 43 69 true rfl rfl rfl (List.Mem.head _) (op_loadA _ _ _ _ _ _ _ Tryd.underlying23 rfl sz23 rfl rfl (Nat.le_of_ble_eq_true rfl) rfl rfl),
               st_run 43 69 true rfl rfl rfl (List.Mem.head _) (op_callG _ _ 74 18 _ _ rfl Tryd.call18 rfl rfl (fun _ h => h) (ok_path_Same mx v1.1 v1.1 _ hv8) rfl rfl),
               st_plain rfl (op_pick _ _ true _ rfl rfl),
               st_plain rfl (op_assign _ _ _ _ rfl rfl),
               trivial⟩ ?_
              exact hl11 _ (Option.some.inj h).symm
             ·refine ht_seqR hn (El := (_ :: _ :: _ :: _ :: _ :: _ :: _ :: _ :: (26, .v (.int .i64 v1.2)) :: (27, .v (.bool (v1.2 == 0))) :: (28, .v (.bool true)) :: (29, .v (.int .i64 v2.2)) :: (30, .v (.bool (v2.2 == 0))) :: (31, .v (.bool (v2.2 == 0))) :: (32, .v (.bool true)) :: (33, .v (.int .i64 v3.2)) :: (34, .v (.bool (v3.2 == 0))) :: (35, .v (.bool (v3.2 == 0))) :: (36, .v (.bool true)) :: (37, .v (.int .i64 v4.2)) :: (38, .v (.bool (v4.2 == 5))) :: (39, .v (.bool (v4.2 == 5))) :: (40, .v (.bool true)) :: (41, .ptr 1 1) :: (42, .v (.string v1.1.Local)) :: (43, .v (.bool ((v1.1.Local.toList == (⟨#[97, 46, 98]⟩ : ByteArray).toList)))) :: (44, .v (.bool ((v1.1.Local.toList == (⟨#[97, 46, 98]⟩ : ByteArray).toList)))) :: (45, .v (.bool true)) :: (46, .ptr 1 2) :: (47, .v (.string v1.1.Domain)) :: (48, .v (.bool ((v1.1.Domain.toList == (⟨#[99, 45, 100, 46, 101, 120, 97, 109, 112, 108, 101]⟩ : ByteArray).toList)))) :: (49, .v (.bool ((v1.1.Domain.toList == (⟨#[99, 45, 100, 46, 101, 120, 97, 109, 112, 108, 101]⟩ : ByteArray).toList)))) :: (50, .v (.bool true)) :: (51, .v (.string v2.1)) :: (52, .v (.bool ((v2.1.toList == (⟨#[60, 97, 46, 98, 64, 99, 45, 100, 46, 101, 120, 97, 109, 112, 108, 101, 62]⟩ : ByteArray).toList)))) :: (53, .v (.bool ((v2.1.toList == (⟨#[60, 97, 46, 98, 64, 99, 45, 100, 46, 101, 120, 97, 109, 112, 108, 101, 62]⟩ : ByteArray).toList)))) :: (54, .v (.bool true)) :: (55, .ptr 5 0) :: (56, .v (.bool v3.1.Null)) :: (57, .v (.bool v3.1.Null)) :: (58, .v (.bool true)) :: (59, .v (.bool v5)) :: (60, .v (.bool v5)) :: (61, .v (.bool true)) :: (62, .v (.string v6)) :: (63, .v (.bool ((v6.toList == (⟨#[97, 122]⟩ : ByteArray).toList)))) :: (64, .v (.bool ((v6.toList == (⟨#[97, 122]⟩ : ByteArray).toList)))) :: (65, .v (.bool true)) :: (66, .agg [.v (.bool v1.1.Null), .v (.string v1.1.Local), .v (.string v1.1.Domain)]) :: (67, .v (.bool v7)) :: (68, .v (.bool v7)) :: (69, .v (.bool false)) :: (70, .v undef) :: (71, .v undef) :: (72, .v undef) :: (73, .v (.bool false)) :: (0, .v (.bool false)) :: [])) (init := [0, 1, 2, 3, 4, 5, 6, 7]) (fin := [0, 56]) (sps := (⟨[2], [], [8], [(.slot 26)]⟩ :: ⟨[8], [], [9], [(.slot 27)]⟩ :: ⟨[9], [], [10], [(.slot 28)]⟩ :: ⟨[10, 4], [], [11], [(.slot 29)]⟩ :: ⟨[10, 11], [], [12], [(.slot 30)]⟩ :: ⟨[10, 12], [], [13], [(.slot 31)]⟩ :: ⟨[13], [], [14], [(.slot 32)]⟩ :: ⟨[14, 6], [], [15], [(.slot 33)]⟩ :: ⟨[14, 15], [], [16], [(.slot 34)]⟩ :: ⟨[14, 16], [], [17], [(.slot 35)]⟩ :: ⟨[17], [], [18], [(.slot 36)]⟩ :: ⟨[18, 7], [], [19], [(.slot 37)]⟩ :: ⟨[18, 19], [], [20], [(.slot 38)]⟩ :: ⟨[18, 20], [], [21], [(.slot 39)]⟩ :: ⟨[21], [], [22], [(.slot 40)]⟩ :: ⟨[22, 1], [], [23], [(.slot 41)]⟩ :: ⟨[22, 23, 1], [], [24], [(.slot 42)]⟩ :: ⟨[22, 24], [], [25], [(.slot 43)]⟩ :: ⟨[22, 25], [], [26], [(.slot 44)]⟩ :: ⟨[26], [], [27], [(.slot 45)]⟩ :: ⟨[27, 1], [], [28], [(.slot 46)]⟩ :: ⟨[27, 28, 1], [], [29], [(.slot 47)]⟩ :: ⟨[27, 29], [], [30], [(.slot 48)]⟩ :: ⟨[27, 30], [], [31], [(.slot 49)]⟩ :: ⟨[31], [], [32], [(.slot 50)]⟩ :: ⟨[32, 3], [], [33], [(.slot 51)]⟩ :: ⟨[32, 33], [], [34], [(.slot 52)]⟩ :: ⟨[32, 34], [], [35], [(.slot 53)]⟩ :: ⟨[35], [], [36], [(.slot 54)]⟩ :: ⟨[36, 5], [], [37], [(.slot 55)]⟩ :: ⟨[36, 37, 5], [], [38], [(.slot 56)]⟩ :: ⟨[36, 38], [], [39], [(.slot 57)]⟩ :: ⟨[39], [], [40], [(.slot 58)]⟩ :: ⟨[40, 0], [], [41], [(.slot 59)]⟩ :: ⟨[40, 41], [], [42], [(.slot 60)]⟩ :: ⟨[42], [], [43], [(.slot 61)]⟩ :: ⟨[43], [], [44], [(.slot 62)]⟩ :: ⟨[43, 44], [], [45], [(.slot 63)]⟩ :: ⟨[43, 45], [], [46], [(.slot 64)]⟩ :: ⟨[46], [], [47], [(.slot 65)]⟩ :: ⟨[47, 1], [], [48], [(.slot 66)]⟩ :: ⟨[47, 48, 0], [], [49], [(.slot 67)]⟩ :: ⟨[47, 49], [], [50], [(.slot 68)]⟩ :: ⟨[50], [], [51], [(.slot 69)]⟩ :: ⟨[51], [], [52], [(.slot 70)]⟩ :: ⟨[51], [], [53], [(.slot 71)]⟩ :: ⟨[51], [], [54], [(.slot 72)]⟩ :: ⟨[51], [], [55], [(.slot 73)]⟩ :: ⟨[55], [], [56], [(.slot 0)]⟩ :: [])) (es' := [(_, _), (0, .v (.bool false))]) (by kernel_rfl) rfl rfl
               ⟨st_plain rfl (op_move _ _ _ _ rfl rfl),
               st_plain rfl (op_bin _ _ _ _ _ rfl rfl rfl),
               st_plain rfl (op_move _ _ _ _ (congrArg (fun b => AV.v (Value.bool b)) hg5_2) rfl),
               st_run 2 28 true rfl rfl rfl (List.Mem.head _) (op_move _ _ _ _ rfl rfl),
               st_run 2 28 true rfl rfl rfl (List.Mem.head _) (op_bin _ _ _ _ _ rfl rfl rfl),
               st_plain rfl (op_pick _ _ true _ rfl rfl),
               st_plain rfl (op_move _ _ _ _ (congrArg (fun b => AV.v (Value.bool b)) hg5_6) rfl),
               st_run 6 32 true rfl rfl rfl (List.Mem.head _) (op_move _ _ _ _ rfl rfl),
               st_run 6 32 true rfl rfl rfl (List.Mem.head _) (op_bin _ _ _ _ _ rfl rfl rfl),
               st_plain rfl (op_pick _ _ true _ rfl rfl),
               st_plain rfl (op_move _ _ _ _ (congrArg (fun b => AV.v (Value.bool b)) hg5_10) rfl),
               st_run 10 36 true rfl rfl rfl (List.Mem.head _) (op_move _ _ _ _ rfl rfl),
               st_run 10 36 true rfl rfl rfl (List.Mem.head _) (op_bin _ _ _ _ _ rfl rfl rfl),
               st_plain rfl (op_pick _ _ true _ rfl rfl),
               st_plain rfl (op_move _ _ _ _ (congrArg (fun b => AV.v (Value.bool b)) hg5_14) rfl),
               st_run 14 40 true rfl rfl rfl (List.Mem.head _) (op_fieldAddr _ _ _ _ 1 0 _ Tryd.underlying23 rfl sz9 rfl rfl (by decide)),
               st_run 14 40 true rfl rfl rfl (List.Mem.head _) (op_load _ _ _ _ _ _ Tryd.underlying9 rfl rfl rfl (Nat.le_of_ble_eq_true rfl) rfl rfl rfl),
               st_run 14 40 true rfl rfl rfl (List.Mem.head _) (op_bin _ _ _ _ _ rfl rfl rfl),
               st_plain rfl (op_pick _ _ true _ rfl rfl),
               st_plain rfl (op_move _ _ _ _ (congrArg (fun b => AV.v (Value.bool b)) hg5_19) rfl),
               st_run 19 45 true rfl rfl rfl (List.Mem.head _) (op_fieldAddr _ _ _ _ 1 0 _ Tryd.underlying23 rfl sz9 rfl rfl (by decide)),
               st_run 19 45 true rfl rfl rfl (List.Mem.head _) (op_load _ _ _ _ _ _ Tryd.underlying9 rfl rfl rfl (Nat.le_of_ble_eq_true rfl) rfl rfl rfl),
               st_run 19 45 true rfl rfl rfl (List.Mem.head _) (op_bin _ _ _ _ _ rfl rfl rfl),
               st_plain rfl (op_pick _ _ true _ rfl rfl),
               st_plain rfl (op_move _ _ _ _ (congrArg (fun b => AV.v (Value.bool b)) hg5_24) rfl),
               st_run 24 50 true rfl rfl rfl (List.Mem.head _) (op_move _ _ _ _ rfl rfl),
               st_run 24 50 true rfl rfl rfl (List.Mem.head _) (op_bin _ _ _ _ _ rfl rfl rfl),
               st_plain rfl (op_pick _ _ true _ rfl rfl),
               st_plain rfl (op_move _ _ _ _ (congrArg (fun b => AV.v (Value.bool b)) hg5_28) rfl),
               st_run 28 54 true rfl rfl rfl (List.Mem.head _) (op_fieldAddr _ _ _ _ 5 0 _ Tryd.underlying23 rfl sz4 rfl rfl (by decide)),
               st_run 28 54 true rfl rfl rfl (List.Mem.head _) (op_load _ _ _ _ _ _ Tryd.underlying4 rfl rfl rfl (Nat.le_of_ble_eq_true rfl) rfl rfl rfl),
               st_plain rfl (op_pick _ _ true _ rfl rfl),
               st_plain rfl (op_move _ _ _ _ (congrArg (fun b => AV.v (Value.bool b)) hg5_32) rfl),
               st_run 32 58 true rfl rfl rfl (List.Mem.head _) (op_callG _ _ 74 14 _ _ rfl Tryd.call14 rfl rfl (fun _ h => h) (ok_path_Domain mx (⟨#[120]⟩ : ByteArray) _ hv5) rfl rfl),
               st_plain rfl (op_pick _ _ true _ rfl rfl),
               st_plain rfl (op_move _ _ _ _ (congrArg (fun b => AV.v (Value.bool b)) hg5_35) rfl),
               st_run 35 61 true rfl rfl rfl (List.Mem.head _) (op_call _ _ 22 _ _ rfl Tryd.call22 rfl (ok_path_Fold (⟨#[97, 90]⟩ : ByteArray) _ hv6) rfl rfl),
               st_run 35 61 true rfl rfl rfl (List.Mem.head _) (op_bin _ _ _ _ _ rfl rfl rfl),
               st_plain rfl (op_pick _ _ true _ rfl rfl),
               st_plain rfl (op_move _ _ _ _ (congrArg (fun b => AV.v (Value.bool b)) hg5_39) rfl),
               st_run 39 65 true rfl rfl rfl (List.Mem.head _) (op_loadA _ _ _ _ _ _ _ Tryd.underlying23 rfl sz23 rfl rfl (Nat.le_of_ble_eq_true rfl) rfl rfl),
               st_run 39 65 true rfl rfl rfl (List.Mem.head _) (op_callG _ _ 74 20 _ _ rfl Tryd.call20 rfl rfl (fun _ h => h) (ok_path_At mx v1.1 (⟨#[67, 45, 68, 46, 69, 88, 65, 77, 80, 76, 69]⟩ : ByteArray) _ hv7) rfl rfl),
               st_plain rfl (op_pick _ _ true _ rfl rfl),
               st_plain rfl (op_move _ _ _ _ (congrArg (fun b => AV.v (Value.bool b)) hg5_43) rfl),
               st_skip 43 69 _ true rfl rfl rfl rfl (List.Mem.head _),
               st_skip 43 69 _ true rfl rfl rfl rfl (List.Mem.head _),
               st_skip 43 69 _ true rfl rfl rfl rfl (List.Mem.head _),
               st_plain rfl (op_pick _ _ false _ rfl rfl),
               st_plain rfl (op_assign _ _ _ _ rfl rfl),
               trivial⟩ ?_
              exact hl11 _ (Option.some.inj h).symm
            ·refine ht_seqR hn (El := (_ :: _ :: _ :: _ :: _ :: _ :: _ :: _ :: (26, .v (.int .i64 v1.2)) :: (27, .v (.bool (v1.2 == 0))) :: (28, .v (.bool true)) :: (29, .v (.int .i64 v2.2)) :: (30, .v (.bool (v2.2 == 0))) :: (31, .v (.bool (v2.2 == 0))) :: (32, .v (.bool true)) :: (33, .v (.int .i64 v3.2)) :: (34, .v (.bool (v3.2 == 0))) :: (35, .v (.bool (v3.2 == 0))) :: (36, .v (.bool true)) :: (37, .v (.int .i64 v4.2)) :: (38, .v (.bool (v4.2 == 5))) :: (39, .v (.bool (v4.2 == 5))) :: (40, .v (.bool true)) :: (41, .ptr 1 1) :: (42, .v (.string v1.1.Local)) :: (43, .v (.bool ((v1.1.Local.toList == (⟨#[97, 46, 98]⟩ : ByteArray).toList)))) :: (44, .v (.bool ((v1.1.Local.toList == (⟨#[97, 46, 98]⟩ : ByteArray).toList)))) :: (45, .v (.bool true)) :: (46, .ptr 1 2) :: (47, .v (.string v1.1.Domain)) :: (48, .v (.bool ((v1.1.Domain.toList == (⟨#[99, 45, 100, 46, 101, 120, 97, 109, 112, 108, 101]⟩ : ByteArray).toList)))) :: (49, .v (.bool ((v1.1.Domain.toList == (⟨#[99, 45, 100, 46, 101, 120, 97, 109, 112, 108, 101]⟩ : ByteArray).toList)))) :: (50, .v (.bool true)) :: (51, .v (.string v2.1)) :: (52, .v (.bool ((v2.1.toList == (⟨#[60, 97, 46, 98, 64, 99, 45, 100, 46, 101, 120, 97, 109, 112, 108, 101, 62]⟩ : ByteArray).toList)))) :: (53, .v (.bool ((v2.1.toList == (⟨#[60, 97, 46, 98, 64, 99, 45, 100, 46, 101, 120, 97, 109, 112, 108, 101, 62]⟩ : ByteArray).toList)))) :: (54, .v (.bool true)) :: (55, .ptr 5 0) :: (56, .v (.bool v3.1.Null)) :: (57, .v (.bool v3.1.Null)) :: (58, .v (.bool true)) :: (59, .v (.bool v5)) :: (60, .v (.bool v5)) :: (61, .v (.bool true)) :: (62, .v (.string v6)) :: (63, .v (.bool ((v6.toList == (⟨#[97, 122]⟩ : ByteArray).toList)))) :: (64, .v (.bool ((v6.toList == (⟨#[97, 122]⟩ : ByteArray).toList)))) :: (65, .v (.bool false)) :: (66, .v undef) :: (67, .v undef) :: (68, .v (.bool false)) :: (69, .v (.bool false)) :: (70, .v undef) :: (71, .v undef) :: (72, .v undef) :: (73, .v (.bool false)) :: (0, .v (.bool false)) :: [])) (init := [0, 1, 2, 3, 4, 5, 6, 7]) (fin := [0, 56]) (sps := (⟨[2], [], [8], [(.slot 26)]⟩ :: ⟨[8], [], [9], [(.slot 27)]⟩ :: ⟨[9], [], [10], [(.slot 28)]⟩ :: ⟨[10, 4], [], [11], [(.slot 29)]⟩ :: ⟨[10, 11], [], [12], [(.slot 30)]⟩ :: ⟨[10, 12], [], [13], [(.slot 31)]⟩ :: ⟨[13], [], [14], [(.slot 32)]⟩ :: ⟨[14, 6], [], [15], [(.slot 33)]⟩ :: ⟨[14, 15], [], [16], [(.slot 34)]⟩ :: ⟨[14, 16], [], [17], [(.slot 35)]⟩ :: ⟨[17], [], [18], [(.slot 36)]⟩ :: ⟨[18, 7], [], [19], [(.slot 37)]⟩ :: ⟨[18, 19], [], [20], [(.slot 38)]⟩ :: ⟨[18, 20], [], [21], [(.slot 39)]⟩ :: ⟨[21], [], [22], [(.slot 40)]⟩ :: ⟨[22, 1], [], [23], [(.slot 41)]⟩ :: ⟨[22, 23, 1], [], [24], [(.slot 42)]⟩ :: ⟨[22, 24], [], [25], [(.slot 43)]⟩ :: ⟨[22, 25], [], [26], [(.slot 44)]⟩ :: ⟨[26], [], [27], [(.slot 45)]⟩ :: ⟨[27, 1], [], [28], [(.slot 46)]⟩ :: ⟨[27, 28, 1], [], [29], [(.slot 47)]⟩ :: ⟨[27, 29], [], [30], [(.slot 48)]⟩ :: ⟨[27, 30], [], [31], [(.slot 49)]⟩ :: ⟨[31], [], [32], [(.slot 50)]⟩ :: ⟨[32, 3], [], [33], [(.slot 51)]⟩ :: ⟨[32, 33], [], [34], [(.slot 52)]⟩ :: ⟨[32, 34], [], [35], [(.slot 53)]⟩ :: ⟨[35], [], [36], [(.slot 54)]⟩ :: ⟨[36, 5], [], [37], [(.slot 55)]⟩ :: ⟨[36, 37, 5], [], [38], [(.slot 56)]⟩ :: ⟨[36, 38], [], [39], [(.slot 57)]⟩ :: ⟨[39], [], [40], [(.slot 58)]⟩ :: ⟨[40, 0], [], [41], [(.slot 59)]⟩ :: ⟨[40, 41], [], [42], [(.slot 60)]⟩ :: ⟨[42], [], [43], [(.slot 61)]⟩ :: ⟨[43], [], [44], [(.slot 62)]⟩ :: ⟨[43, 44], [], [45], [(.slot 63)]⟩ :: ⟨[43, 45], [], [46], [(.slot 64)]⟩ :: ⟨[46], [], [47], [(.slot 65)]⟩ :: ⟨[47], [], [48], [(.slot 66)]⟩ :: ⟨[47], [], [49], [(.slot 67)]⟩ :: ⟨[47], [], [50], [(.slot 68)]⟩ :: ⟨[50], [], [51], [(.slot 69)]⟩ :: ⟨[51], [], [52], [(.slot 70)]⟩ :: ⟨[51], [], [53], [(.slot 71)]⟩ :: ⟨[51], [], [54], [(.slot 72)]⟩ :: ⟨[51], [], [55], [(.slot 73)]⟩ :: ⟨[55], [], [56], [(.slot 0)]⟩ :: [])) (es' := [(_, _), (0, .v (.bool false))]) (by kernel_rfl) rfl rfl
              ⟨st_plain rfl (op_move _ _ _ _ rfl rfl),
              st_plain rfl (op_bin _ _ _ _ _ rfl rfl rfl),
              st_plain rfl (op_move _ _ _ _ (congrArg (fun b => AV.v (Value.bool b)) hg5_2) rfl),
              st_run 2 28 true rfl rfl rfl (List.Mem.head _) (op_move _ _ _ _ rfl rfl),
              st_run 2 28 true rfl rfl rfl (List.Mem.head _) (op_bin _ _ _ _ _ rfl rfl rfl),
              st_plain rfl (op_pick _ _ true _ rfl rfl),
              st_plain rfl (op_move _ _ _ _ (congrArg (fun b => AV.v (Value.bool b)) hg5_6) rfl),
              st_run 6 32 true rfl rfl rfl (List.Mem.head _) (op_move _ _ _ _ rfl rfl),
              st_run 6 32 true rfl rfl rfl (List.Mem.head _) (op_bin _ _ _ _ _ rfl rfl rfl),
              st_plain rfl (op_pick _ _ true _ rfl rfl),
              st_plain rfl (op_move _ _ _ _ (congrArg (fun b => AV.v (Value.bool b)) hg5_10) rfl),
              st_run 10 36 true rfl rfl rfl (List.Mem.head _) (op_move _ _ _ _ rfl rfl),
              st_run 10 36 true rfl rfl rfl (List.Mem.head _) (op_bin _ _ _ _ _ rfl rfl rfl),
              st_plain rfl (op_pick _ _ true _ rfl rfl),
              st_plain rfl (op_move _ _ _ _ (congrArg (fun b => AV.v (Value.bool b)) hg5_14) rfl),
              st_run 14 40 true rfl rfl rfl (List.Mem.head _) (op_fieldAddr _ _ _ _ 1 0 _ Tryd.underlying23 rfl sz9 rfl rfl (by decide)),
              st_run 14 40 true rfl rfl rfl (List.Mem.head _) (op_load _ _ _ _ _ _ Tryd.underlying9 rfl rfl rfl (Nat.le_of_ble_eq_true rfl) rfl rfl rfl),
              st_run 14 40 true rfl rfl rfl (List.Mem.head _) (op_bin _ _ _ _ _ rfl rfl rfl),
              st_plain rfl (op_pick _ _ true _ rfl rfl),
              st_plain rfl (op_move _ _ _ _ (congrArg (fun b => AV.v (Value.bool b)) hg5_19) rfl),
              st_run 19 45 true rfl rfl rfl (List.Mem.head _) (op_fieldAddr _ _ _ _ 1 0 _ Tryd.underlying23 rfl sz9 rfl rfl (by decide)),
              st_run 19 45 true rfl rfl rfl (List.Mem.head _) (op_load _ _ _ _ _ _ Tryd.underlying9 rfl rfl rfl (Nat.le_of_ble_eq_true rfl) rfl rfl rfl),
              st_run 19 45 true rfl rfl rfl (List.Mem.head _) (op_bin _ _ _ _ _ rfl rfl rfl),
              st_plain rfl (op_pick _ _ true _ rfl rfl),
              st_plain rfl (op_move _ _ _ _ (congrArg (fun b => AV.v (Value.bool b)) hg5_24) rfl),
              st_run 24 50 true rfl rfl rfl (List.Mem.head _) (op_move _ _ _ _ rfl rfl),
              st_run 24 50 true rfl rfl rfl (List.Mem.head _) (op_bin _ _ _ _ _ rfl rfl rfl),
              st_plain rfl (op_pick _ _ true _ rfl rfl),
              st_plain rfl (op_move _ _ _ _ (congrArg (fun b => AV.v (Value.bool b)) hg5_28) rfl),
              st_run 28 54 true rfl rfl rfl (List.Mem.head _) (op_fieldAddr _ _ _ _ 5 0 _ Tryd.underlying23 rfl sz4 rfl rfl (by decide)),
              st_run 28 54 true rfl rfl rfl (List.Mem.head _) (op_load _ _ _ _ _ _ Tryd.underlying4 rfl rfl rfl (Nat.le_of_ble_eq_true rfl) rfl rfl rfl),
              st_plain rfl (op_pick _ _ true _ rfl rfl),
              st_plain rfl (op_move _ _ _ _ (congrArg (fun b => AV.v (Value.bool b)) hg5_32) rfl),
              st_run 32 58 true rfl rfl rfl (List.Mem.head _) (op_callG _ _ 74 14 _ _ rfl Tryd.call14 rfl rfl (fun _ h => h) (ok_path_Domain mx (⟨#[120]⟩ : ByteArray) _ hv5) rfl rfl),
              st_plain rfl (op_pick _ _ true _ rfl rfl),
              st_plain rfl (op_move _ _ _ _ (congrArg (fun b => AV.v (Value.bool b)) hg5_35) rfl),
              st_run 35 61 true rfl rfl rfl (List.Mem.head _) (op_call _ _ 22 _ _ rfl Tryd.call22 rfl (ok_path_Fold (⟨#[97, 90]⟩ : ByteArray) _ hv6) rfl rfl),
              st_run 35 61 true rfl rfl rfl (List.Mem.head _) (op_bin _ _ _ _ _ rfl rfl rfl),
              st_plain rfl (op_pick _ _ true _ rfl rfl),
              st_plain rfl (op_move _ _ _ _ (congrArg (fun b => AV.v (Value.bool b)) hg5_39) rfl),
              st_skip 39 65 _ true rfl rfl rfl rfl (List.Mem.head _),
              st_skip 39 65 _ true rfl rfl rfl rfl (List.Mem.head _),
              st_plain rfl (op_pick _ _ false _ rfl rfl),
              st_plain rfl (op_move _ _ _ _ rfl rfl),
              st_skip 43 69 _ true rfl rfl rfl rfl (List.Mem.head _),
              st_skip 43 69 _ true rfl rfl rfl rfl (List.Mem.head _),
              st_skip 43 69 _ true rfl rfl rfl rfl (List.Mem.head _),
              st_plain rfl (op_pick _ _ false _ rfl rfl),
              st_plain rfl (op_assign _ _ _ _ rfl rfl),
              trivial⟩ ?_
             exact hl11 _ (Option.some.inj h).symm
           ·refine ht_seqR hn (El := (_ :: _ :: _ :: _ :: _ :: _ :: _ :: _ :: (26, .v (.int .i64 v1.2)) :: (27, .v (.bool (v1.2 == 0))) :: (28, .v (.bool true)) :: (29, .v (.int .i64 v2.2)) :: (30, .v (.bool (v2.2 == 0))) :: (31, .v (.bool (v2.2 == 0))) :: (32, .v (.bool true)) :: (33, .v (.int .i64 v3.2)) :: (34, .v (.bool (v3.2 == 0))) :: (35, .v (.bool (v3.2 == 0))) :: (36, .v (.bool true)) :: (37, .v (.int .i64 v4.2)) :: (38, .v (.bool (v4.2 == 5))) :: (39, .v (.bool (v4.2 == 5))) :: (40, .v (.bool true)) :: (41, .ptr 1 1) :: (42, .v (.string v1.1.Local)) :: (43, .v (.bool ((v1.1.Local.toList == (⟨#[97, 46, 98]⟩ : ByteArray).toList)))) :: (44, .v (.bool ((v1.1.Local.toList == (⟨#[97, 46, 98]⟩ : ByteArray).toList)))) :: (45, .v (.bool true)) :: (46, .ptr 1 2) :: (47, .v (.string v1.1.Domain)) :: (48, .v (.bool ((v1.1.Domain.toList == (⟨#[99, 45, 100, 46, 101, 120, 97, 109, 112, 108, 101]⟩ : ByteArray).toList)))) :: (49, .v (.bool ((v1.1.Domain.toList == (⟨#[99, 45, 100, 46, 101, 120, 97, 109, 112, 108, 101]⟩ : ByteArray).toList)))) :: (50, .v (.bool true)) :: (51, .v (.string v2.1)) :: (52, .v (.bool ((v2.1.toList == (⟨#[60, 97, 46, 98, 64, 99, 45, 100, 46, 101, 120, 97, 109, 112, 108, 101, 62]⟩ : ByteArray).toList)))) :: (53, .v (.bool ((v2.1.toList == (⟨#[60, 97, 46, 98, 64, 99, 45, 100, 46, 101, 120, 97, 109, 112, 108, 101, 62]⟩ : ByteArray).toList)))) :: (54, .v (.bool true)) :: (55, .ptr 5 0) :: (56, .v (.bool v3.1.Null)) :: (57, .v (.bool v3.1.Null)) :: (58, .v (.bool true)) :: (59, .v (.bool v5)) :: (60, .v (.bool v5)) :: (61, .v (.bool false)) :: (62, .v undef) :: (63, .v undef) :: (64, .v (.bool false)) :: (65, .v (.bool false)) :: (66, .v undef) :: (67, .v undef) :: (68, .v (.bool false)) :: (69, .v (.bool false)) :: (70, .v undef) :: (71, .v undef) :: (72, .v undef) :: (73, .v (.bool false)) :: (0, .v (.bool false)) :: [])) (init := [0, 1, 2, 3, 4, 5, 6, 7]) (fin := [0, 56]) (sps := (⟨[2], [], [8], [(.slot 26)]⟩ :: ⟨[8], [], [9], [(.slot 27)]⟩ :: ⟨[9], [], [10], [(.slot 28)]⟩ :: ⟨[10, 4], [], [11], [(.slot 29)]⟩ :: ⟨[10, 11], [], [12], [(.slot 30)]⟩ :: ⟨[10, 12], [], [13], [(.slot 31)]⟩ :: ⟨[13], [], [14], [(.slot 32)]⟩ :: ⟨[14, 6], [], [15], [(.slot 33)]⟩ :: ⟨[14, 15], [], [16], [(.slot 34)]⟩ :: ⟨[14, 16], [], [17], [(.slot 35)]⟩ :: ⟨[17], [], [18], [(.slot 36)]⟩ :: ⟨[18, 7], [], [19], [(.slot 37)]⟩ :: ⟨[18, 19], [], [20], [(.slot 38)]⟩ :: ⟨[18, 20], [], [21], [(.slot 39)]⟩ :: ⟨[21], [], [22], [(.slot 40)]⟩ :: ⟨[22, 1], [], [23], [(.slot 41)]⟩ :: ⟨[22, 23, 1], [], [24], [(.slot 42)]⟩ :: ⟨[22, 24], [], [25], [(.slot 43)]⟩ :: ⟨[22, 25], [], [26], [(.slot 44)]⟩ :: ⟨[26], [], [27], [(.slot 45)]⟩ :: ⟨[27, 1], [], [28], [(.slot 46)]⟩ :: ⟨[27, 28, 1], [], [29], [(.slot 47)]⟩ :: ⟨[27, 29], [], [30], [(.slot 48)]⟩ :: ⟨[27, 30], [], [31], [(.slot 49)]⟩ :: ⟨[31], [], [32], [(.slot 50)]⟩ :: ⟨[32, 3], [], [33], [(.slot 51)]⟩ :: ⟨[32, 33], [], [34], [(.slot 52)]⟩ :: ⟨[32, 34], [], [35], [(.slot 53)]⟩ :: ⟨[35], [], [36], [(.slot 54)]⟩ :: ⟨[36, 5], [], [37], [(.slot 55)]⟩ :: ⟨[36, 37, 5], [], [38], [(.slot 56)]⟩ :: ⟨[36, 38], [], [39], [(.slot 57)]⟩ :: ⟨[39], [], [40], [(.slot 58)]⟩ :: ⟨[40, 0], [], [41], [(.slot 59)]⟩ :: ⟨[40, 41], [], [42], [(.slot 60)]⟩ :: ⟨[42], [], [43], [(.slot 61)]⟩ :: ⟨[43], [], [44], [(.slot 62)]⟩ :: ⟨[43], [], [45], [(.slot 63)]⟩ :: ⟨[43], [], [46], [(.slot 64)]⟩ :: ⟨[46], [], [47], [(.slot 65)]⟩ :: ⟨[47], [], [48], [(.slot 66)]⟩ :: ⟨[47], [], [49], [(.slot 67)]⟩ :: ⟨[47], [], [50], [(.slot 68)]⟩ :: ⟨[50], [], [51], [(.slot 69)]⟩ :: ⟨[51], [], [52], [(.slot 70)]⟩ :: ⟨[51], [], [53], [(.slot 71)]⟩ :: ⟨[51], [], [54], [(.slot 72)]⟩ :: ⟨[51], [], [55], [(.slot 73)]⟩ :: ⟨[55], [], [56], [(.slot 0)]⟩ :: [])) (es' := [(_, _), (0, .v (.bool false))]) (by kernel_rfl) rfl rfl
             ⟨st_plain rfl (op_move _ _ _ _ rfl rfl),
             st_plain rfl (op_bin _ _ _ _ _ rfl rfl rfl),
             st_plain rfl (op_move _ _ _ _ (congrArg (fun b => AV.v (Value.bool b)) hg5_2) rfl),
             st_run 2 28 true rfl rfl rfl (List.Mem.head _) (op_move _ _ _ _ rfl rfl),
             st_run 2 28 true rfl rfl rfl (List.Mem.head _) (op_bin _ _ _ _ _ rfl rfl rfl),
             st_plain rfl (op_pick _ _ true _ rfl rfl),
             st_plain rfl (op_move _ _ _ _ (congrArg (fun b => AV.v (Value.bool b)) hg5_6) rfl),
             st_run 6 32 true rfl rfl rfl (List.Mem.head _) (op_move _ _ _ _ rfl rfl),
             st_run 6 32 true rfl rfl rfl (List.Mem.head _) (op_bin _ _ _ _ _ rfl rfl rfl),
             st_plain rfl (op_pick _ _ true _ rfl rfl),
             st_plain rfl (op_move _ _ _ _ (congrArg (fun b => AV.v (Value.bool b)) hg5_10) rfl),
             st_run 10 36 true rfl rfl rfl (List.Mem.head _) (op_move _ _ _ _ rfl rfl),
             st_run 10 36 true rfl rfl rfl (List.Mem.head _) (op_bin _ _ _ _ _ rfl rfl rfl),
             st_plain rfl (op_pick _ _ true _ rfl rfl),
             st_plain rfl (op_move _ _ _ _ (congrArg (fun b => AV.v (Value.bool b)) hg5_14) rfl),
             st_run 14 40 true rfl rfl rfl (List.Mem.head _) (op_fieldAddr _ _ _ _ 1 0 _ Tryd.underlying23 rfl sz9 rfl rfl (by decide)),
             st_run 14 40 true rfl rfl rfl (List.Mem.head _) (op_load _ _ _ _ _ _ Tryd.underlying9 rfl rfl rfl (Nat.le_of_ble_eq_true rfl) rfl rfl rfl),
             st_run 14 40 true rfl rfl rfl (List.Mem.head _) (op_bin _ _ _ _ _ rfl rfl rfl),
             st_plain rfl (op_pick _ _ true _ rfl rfl),
             st_plain rfl (op_move _ _ _ _ (congrArg (fun b => AV.v (Value.bool b)) hg5_19) rfl),
             st_run 19 45 true rfl rfl rfl (List.Mem.head _) (op_fieldAddr _ _ _ _ 1 0 _ Tryd.underlying23 rfl sz9 rfl rfl (by decide)),
             st_run 19 45 true rfl rfl rfl (List.Mem.head _) (op_load _ _ _ _ _ _ Tryd.underlying9 rfl rfl rfl (Nat.le_of_ble_eq_true rfl) rfl rfl rfl),
             st_run 19 45 true rfl rfl rfl (List.Mem.head _) (op_bin _ _ _ _ _ rfl rfl rfl),
             st_plain rfl (op_pick _ _ true _ rfl rfl),
             st_plain rfl (op_move _ _ _ _ (congrArg (fun b => AV.v (Value.bool b)) hg5_24) rfl),
             st_run 24 50 true rfl rfl rfl (List.Mem.head _) (op_move _ _ _ _ rfl rfl),
             st_run 24 50 true rfl rfl rfl (List.Mem.head _) (op_bin _ _ _ _ _ rfl rfl rfl),
             st_plain rfl (op_pick _ _ true _ rfl rfl),
             st_plain rfl (op_move _ _ _ _ (congrArg (fun b => AV.v (Value.bool b)) hg5_28) rfl),
             st_run 28 54 true rfl rfl rfl (List.Mem.head _) (op_fieldAddr _ _ _ _ 5 0 _ Tryd.underlying23 rfl sz4 rfl rfl (by decide)),
             st_run 28 54 true rfl rfl rfl (List.Mem.head _) (op_load _ _ _ _ _ _ Tryd.underlying4 rfl rfl rfl (Nat.le_of_ble_eq_true rfl) rfl rfl rfl),
             st_plain rfl (op_pick _ _ true _ rfl rfl),
             st_plain rfl (op_move _ _ _ _ (congrArg (fun b => AV.v (Value.bool b)) hg5_32) rfl),
             st_run 32 58 true rfl rfl rfl (List.Mem.head _) (op_callG _ _ 74 14 _ _ rfl Tryd.call14 rfl rfl (fun _ h => h) (ok_path_Domain mx (⟨#[120]⟩ : ByteArray) _ hv5) rfl rfl),
             st_plain rfl (op_pick _ _ true _ rfl rfl),
             st_plain rfl (op_move _ _ _ _ (congrArg (fun b => AV.v (Value.bool b)) hg5_35) rfl),
             st_skip 35 61 _ true rfl rfl rfl rfl (List.Mem.head _),
             st_skip 35 61 _ true rfl rfl rfl rfl (List.Mem.head _),
             st_plain rfl (op_pick _ _ false _ rfl rfl),
             st_plain rfl (op_move _ _ _ _ rfl rfl),
             st_skip 39 65 _ true rfl rfl rfl rfl (List.Mem.head _),
             st_skip 39 65 _ true rfl rfl rfl rfl (List.Mem.head _),
             st_plain rfl (op_pick _ _ false _ rfl rfl),
             st_plain rfl (op_move _ _ _ _ rfl rfl),
             st_skip 43 69 _ true rfl rfl rfl rfl (List.Mem.head _),
             st_skip 43 69 _ true rfl rfl rfl rfl (List.Mem.head _),
             st_skip 43 69 _ true rfl rfl rfl rfl (List.Mem.head _),
             st_plain rfl (op_pick _ _ false _ rfl rfl),
             st_plain rfl (op_assign _ _ _ _ rfl rfl),
             trivial⟩ ?_
            exact hl11 _ (Option.some.inj h).symm
          ·refine ht_seqR hn (El := (_ :: _ :: _ :: _ :: _ :: _ :: _ :: _ :: (26, .v (.int .i64 v1.2)) :: (27, .v (.bool (v1.2 == 0))) :: (28, .v (.bool true)) :: (29, .v (.int .i64 v2.2)) :: (30, .v (.bool (v2.2 == 0))) :: (31, .v (.bool (v2.2 == 0))) :: (32, .v (.bool true)) :: (33, .v (.int .i64 v3.2)) :: (34, .v (.bool (v3.2 == 0))) :: (35, .v (.bool (v3.2 == 0))) :: (36, .v (.bool true)) :: (37, .v (.int .i64 v4.2)) :: (38, .v (.bool (v4.2 == 5))) :: (39, .v (.bool (v4.2 == 5))) :: (40, .v (.bool true)) :: (41, .ptr 1 1) :: (42, .v (.string v1.1.Local)) :: (43, .v (.bool ((v1.1.Local.toList == (⟨#[97, 46, 98]⟩ : ByteArray).toList)))) :: (44, .v (.bool ((v1.1.Local.toList == (⟨#[97, 46, 98]⟩ : ByteArray).toList)))) :: (45, .v (.bool true)) :: (46, .ptr 1 2) :: (47, .v (.string v1.1.Domain)) :: (48, .v (.bool ((v1.1.Domain.toList == (⟨#[99, 45, 100, 46, 101, 120, 97, 109, 112, 108, 101]⟩ : ByteArray).toList)))) :: (49, .v (.bool ((v1.1.Domain.toList == (⟨#[99, 45, 100, 46, 101, 120, 97, 109, 112, 108, 101]⟩ : ByteArray).toList)))) :: (50, .v (.bool true)) :: (51, .v (.string v2.1)) :: (52, .v (.bool ((v2.1.toList == (⟨#[60, 97, 46, 98, 64, 99, 45, 100, 46, 101, 120, 97, 109, 112, 108, 101, 62]⟩ : ByteArray).toList)))) :: (53, .v (.bool ((v2.1.toList == (⟨#[60, 97, 46, 98, 64, 99, 45, 100, 46, 101, 120, 97, 109, 112, 108, 101, 62]⟩ : ByteArray).toList)))) :: (54, .v (.bool true)) :: (55, .ptr 5 0) :: (56, .v (.bool v3.1.Null)) :: (57, .v (.bool v3.1.Null)) :: (58, .v (.bool false)) :: (59, .v undef) :: (60, .v (.bool false)) :: (61, .v (.bool false)) :: (62, .v undef) :: (63, .v undef) :: (64, .v (.bool false)) :: (65, .v (.bool false)) :: (66, .v undef) :: (67, .v undef) :: (68, .v (.bool false)) :: (69, .v (.bool false)) :: (70, .v undef) :: (71, .v undef) :: (72, .v undef) :: (73, .v (.bool false)) :: (0, .v (.bool false)) :: [])) (init := [0, 1, 2, 3, 4, 5, 6, 7]) (fin := [0, 56]) (sps := (⟨[2], [], [8], [(.slot 26)]⟩ :: ⟨[8], [], [9], [(.slot 27)]⟩ :: ⟨[9], [], [10], [(.slot 28)]⟩ :: ⟨[10, 4], [], [11], [(.slot 29)]⟩ :: ⟨[10, 11], [], [12], [(.slot 30)]⟩ :: ⟨[10, 12], [], [13], [(.slot 31)]⟩ :: ⟨[13], [], [14], [(.slot 32)]⟩ :: ⟨[14, 6], [], [15], [(.slot 33)]⟩ :: ⟨[14, 15], [], [16], [(.slot 34)]⟩ :: ⟨[14, 16], [], [17], [(.slot 35)]⟩ :: ⟨[17], [], [18], [(.slot 36)]⟩ :: ⟨[18, 7], [], [19], [(.slot 37)]⟩ :: ⟨[18, 19], [], [20], [(.slot 38)]⟩ :: ⟨[18, 20], [], [21], [(.slot 39)]⟩ :: ⟨[21], [], [22], [(.slot 40)]⟩ :: ⟨[22, 1], [], [23], [(.slot 41)]⟩ :: ⟨[22, 23, 1], [], [24], [(.slot 42)]⟩ :: ⟨[22, 24], [], [25], [(.slot 43)]⟩ :: ⟨[22, 25], [], [26], [(.slot 44)]⟩ :: ⟨[26], [], [27], [(.slot 45)]⟩ :: ⟨[27, 1], [], [28], [(.slot 46)]⟩ :: ⟨[27, 28, 1], [], [29], [(.slot 47)]⟩ :: ⟨[27, 29], [], [30], [(.slot 48)]⟩ :: ⟨[27, 30], [], [31], [(.slot 49)]⟩ :: ⟨[31], [], [32], [(.slot 50)]⟩ :: ⟨[32, 3], [], [33], [(.slot 51)]⟩ :: ⟨[32, 33], [], [34], [(.slot 52)]⟩ :: ⟨[32, 34], [], [35], [(.slot 53)]⟩ :: ⟨[35], [], [36], [(.slot 54)]⟩ :: ⟨[36, 5], [], [37], [(.slot 55)]⟩ :: ⟨[36, 37, 5], [], [38], [(.slot 56)]⟩ :: ⟨[36, 38], [], [39], [(.slot 57)]⟩ :: ⟨[39], [], [40], [(.slot 58)]⟩ :: ⟨[40], [], [41], [(.slot 59)]⟩ :: ⟨[40], [], [42], [(.slot 60)]⟩ :: ⟨[42], [], [43], [(.slot 61)]⟩ :: ⟨[43], [], [44], [(.slot 62)]⟩ :: ⟨[43], [], [45], [(.slot 63)]⟩ :: ⟨[43], [], [46], [(.slot 64)]⟩ :: ⟨[46], [], [47], [(.slot 65)]⟩ :: ⟨[47], [], [48], [(.slot 66)]⟩ :: ⟨[47], [], [49], [(.slot 67)]⟩ :: ⟨[47], [], [50], [(.slot 68)]⟩ :: ⟨[50], [], [51], [(.slot 69)]⟩ :: ⟨[51], [], [52], [(.slot 70)]⟩ :: ⟨[51], [], [53], [(.slot 71)]⟩ :: ⟨[51], [], [54], [(.slot 72)]⟩ :: ⟨[51], [], [55], [(.slot 73)]⟩ :: ⟨[55], [], [56], [(.slot 0)]⟩ :: [])) (es' := [(_, _), (0, .v (.bool false))]) (by kernel_rfl) rfl rfl
            ⟨st_plain rfl (op_move _ _ _ _ rfl rfl),
            st_plain rfl (op_bin _ _ _ _ _ rfl rfl rfl),
            st_plain rfl (op_move _ _ _ _ (congrArg (fun b => AV.v (Value.bool b)) hg5_2) rfl),
            st_run 2 28 true rfl rfl rfl (List.Mem.head _) (op_move _ _ _ _ rfl rfl),
            st_run 2 28 true rfl rfl rfl (List.Mem.head _) (op_bin _ _ _ _ _ rfl rfl rfl),
            st_plain rfl (op_pick _ _ true _ rfl rfl),
            st_plain rfl (op_move _ _ _ _ (congrArg (fun b => AV.v (Value.bool b)) hg5_6) rfl),
            st_run 6 32 true rfl rfl rfl (List.Mem.head _) (op_move _ _ _ _ rfl rfl),
            st_run 6 32 true rfl rfl rfl (List.Mem.head _) (op_bin _ _ _ _ _ rfl rfl rfl),
            st_plain rfl (op_pick _ _ true _ rfl rfl),
            st_plain rfl (op_move _ _ _ _ (congrArg (fun b => AV.v (Value.bool b)) hg5_10) rfl),
            st_run 10 36 true rfl rfl rfl (List.Mem.head _) (op_move _ _ _ _ rfl rfl),
            st_run 10 36 true rfl rfl rfl (List.Mem.head _) (op_bin _ _ _ _ _ rfl rfl rfl),
            st_plain rfl (op_pick _ _ true _ rfl rfl),
            st_plain rfl (op_move _ _ _ _ (congrArg (fun b => AV.v (Value.bool b)) hg5_14) rfl),
            st_run 14 40 true rfl rfl rfl (List.Mem.head _) (op_fieldAddr _ _ _ _ 1 0 _ Tryd.underlying23 rfl sz9 rfl rfl (by decide)),
            st_run 14 40 true rfl rfl rfl (List.Mem.head _) (op_load _ _ _ _ _ _ Tryd.underlying9 rfl rfl rfl (Nat.le_of_ble_eq_true rfl) rfl rfl rfl),
            st_run 14 40 true rfl rfl rfl (List.Mem.head _) (op_bin _ _ _ _ _ rfl rfl rfl),
            st_plain rfl (op_pick _ _ true _ rfl rfl),
            st_plain rfl (op_move _ _ _ _ (congrArg (fun b => AV.v (Value.bool b)) hg5_19) rfl),
            st_run 19 45 true rfl rfl rfl (List.Mem.head _) (op_fieldAddr _ _ _ _ 1 0 _ Tryd.underlying23 rfl sz9 rfl rfl (by decide)),
            st_run 19 45 true rfl rfl rfl (List.Mem.head _) (op_load _ _ _ _ _ _ Tryd.underlying9 rfl rfl rfl (Nat.le_of_ble_eq_true rfl) rfl rfl rfl),
            st_run 19 45 true rfl rfl rfl (List.Mem.head _) (op_bin _ _ _ _ _ rfl rfl rfl),
            st_plain rfl (op_pick _ _ true _ rfl rfl),
            st_plain rfl (op_move _ _ _ _ (congrArg (fun b => AV.v (Value.bool b)) hg5_24) rfl),
            st_run 24 50 true rfl rfl rfl (List.Mem.head _) (op_move _ _ _ _ rfl rfl),
            st_run 24 50 true rfl rfl rfl (List.Mem.head _) (op_bin _ _ _ _ _ rfl rfl rfl),
            st_plain rfl (op_pick _ _ true _ rfl rfl),
            st_plain rfl (op_move _ _ _ _ (congrArg (fun b => AV.v (Value.bool b)) hg5_28) rfl),
            st_run 28 54 true rfl rfl rfl (List.Mem.head _) (op_fieldAddr _ _ _ _ 5 0 _ Tryd.underlying23 rfl sz4 rfl rfl (by decide)),
            st_run 28 54 true rfl rfl rfl (List.Mem.head _) (op_load _ _ _ _ _ _ Tryd.underlying4 rfl rfl rfl (Nat.le_of_ble_eq_true rfl) rfl rfl rfl),
            st_plain rfl (op_pick _ _ true _ rfl rfl),
            st_plain rfl (op_move _ _ _ _ (congrArg (fun b => AV.v (Value.bool b)) hg5_32) rfl),
            st_skip 32 58 _ true rfl rfl rfl rfl (List.Mem.head _),
            st_plain rfl (op_pick _ _ false _ rfl rfl),
            st_plain rfl (op_move _ _ _ _ rfl rfl),
            st_skip 35 61 _ true rfl rfl rfl rfl (List.Mem.head _),
            st_skip 35 61 _ true rfl rfl rfl rfl (List.Mem.head _),
            st_plain rfl (op_pick _ _ false _ rfl rfl),
            st_plain rfl (op_move _ _ _ _ rfl rfl),
            st_skip 39 65 _ true rfl rfl rfl rfl (List.Mem.head _),
            st_skip 39 65 _ true rfl rfl rfl rfl (List.Mem.head _),
            st_plain rfl (op_pick _ _ false _ rfl rfl),
            st_plain rfl (op_move _ _ _ _ rfl rfl),
            st_skip 43 69 _ true rfl rfl rfl rfl (List.Mem.head _),
            st_skip 43 69 _ true rfl rfl rfl rfl (List.Mem.head _),
            st_skip 43 69 _ true rfl rfl rfl rfl (List.Mem.head _),
            st_plain rfl (op_pick _ _ false _ rfl rfl),
            st_plain rfl (op_assign _ _ _ _ rfl rfl),
            trivial⟩ ?_
           exact hl11 _ (Option.some.inj h).symm
         ·refine ht_seqR hn (El := (_ :: _ :: _ :: _ :: _ :: _ :: _ :: _ :: (26, .v (.int .i64 v1.2)) :: (27, .v (.bool (v1.2 == 0))) :: (28, .v (.bool true)) :: (29, .v (.int .i64 v2.2)) :: (30, .v (.bool (v2.2 == 0))) :: (31, .v (.bool (v2.2 == 0))) :: (32, .v (.bool true)) :: (33, .v (.int .i64 v3.2)) :: (34, .v (.bool (v3.2 == 0))) :: (35, .v (.bool (v3.2 == 0))) :: (36, .v (.bool true)) :: (37, .v (.int .i64 v4.2)) :: (38, .v (.bool (v4.2 == 5))) :: (39, .v (.bool (v4.2 == 5))) :: (40, .v (.bool true)) :: (41, .ptr 1 1) :: (42, .v (.string v1.1.Local)) :: (43, .v (.bool ((v1.1.Local.toList == (⟨#[97, 46, 98]⟩ : ByteArray).toList)))) :: (44, .v (.bool ((v1.1.Local.toList == (⟨#[97, 46, 98]⟩ : ByteArray).toList)))) :: (45, .v (.bool true)) :: (46, .ptr 1 2) :: (47, .v (.string v1.1.Domain)) :: (48, .v (.bool ((v1.1.Domain.toList == (⟨#[99, 45, 100, 46, 101, 120, 97, 109, 112, 108, 101]⟩ : ByteArray).toList)))) :: (49, .v (.bool ((v1.1.Domain.toList == (⟨#[99, 45, 100, 46, 101, 120, 97, 109, 112, 108, 101]⟩ : ByteArray).toList)))) :: (50, .v (.bool true)) :: (51, .v (.string v2.1)) :: (52, .v (.bool ((v2.1.toList == (⟨#[60, 97, 46, 98, 64, 99, 45, 100, 46, 101, 120, 97, 109, 112, 108, 101, 62]⟩ : ByteArray).toList)))) :: (53, .v (.bool ((v2.1.toList == (⟨#[60, 97, 46, 98, 64, 99, 45, 100, 46, 101, 120, 97, 109, 112, 108, 101, 62]⟩ : ByteArray).toList)))) :: (54, .v (.bool false)) :: (55, .v undef) :: (56, .v undef) :: (57, .v (.bool false)) :: (58, .v (.bool false)) :: (59, .v undef) :: (60, .v (.bool false)) :: (61, .v (.bool false)) :: (62, .v undef) :: (63, .v undef) :: (64, .v (.bool false)) :: (65, .v (.bool false)) :: (66, .v undef) :: (67, .v undef) :: (68, .v (.bool false)) :: (69, .v (.bool false)) :: (70, .v undef) :: (71, .v undef) :: (72, .v undef) :: (73, .v (.bool false)) :: (0, .v (.bool false)) :: [])) (init := [0, 1, 2, 3, 4, 5, 6, 7]) (fin := [0, 56]) (sps := (⟨[2], [], [8], [(.slot 26)]⟩ :: ⟨[8], [], [9], [(.slot 27)]⟩ :: ⟨[9], [], [10], [(.slot 28)]⟩ :: ⟨[10, 4], [], [11], [(.slot 29)]⟩ :: ⟨[10, 11], [], [12], [(.slot 30)]⟩ :: ⟨[10, 12], [], [13], [(.slot 31)]⟩ :: ⟨[13], [], [14], [(.slot 32)]⟩ :: ⟨[14, 6], [], [15], [(.slot 33)]⟩ :: ⟨[14, 15], [], [16], [(.slot 34)]⟩ :: ⟨[14, 16], [], [17], [(.slot 35)]⟩ :: ⟨[17], [], [18], [(.slot 36)]⟩ :: ⟨[18, 7], [], [19], [(.slot 37)]⟩ :: ⟨[18, 19], [], [20], [(.slot 38)]⟩ :: ⟨[18, 20], [], [21], [(.slot 39)]⟩ :: ⟨[21], [], [22], [(.slot 40)]⟩ :: ⟨[22, 1], [], [23], [(.slot 41)]⟩ :: ⟨[22, 23, 1], [], [24], [(.slot 42)]⟩ :: ⟨[22, 24], [], [25], [(.slot 43)]⟩ :: ⟨[22, 25], [], [26], [(.slot 44)]⟩ :: ⟨[26], [], [27], [(.slot 45)]⟩ :: ⟨[27, 1], [], [28], [(.slot 46)]⟩ :: ⟨[27, 28, 1], [], [29], [(.slot 47)]⟩ :: ⟨[27, 29], [], [30], [(.slot 48)]⟩ :: ⟨[27, 30], [], [31], [(.slot 49)]⟩ :: ⟨[31], [], [32], [(.slot 50)]⟩ :: ⟨[32, 3], [], [33], [(.slot 51)]⟩ :: ⟨[32, 33], [], [34], [(.slot 52)]⟩ :: ⟨[32, 34], [], [35], [(.slot 53)]⟩ :: ⟨[35], [], [36], [(.slot 54)]⟩ :: ⟨[36], [], [37], [(.slot 55)]⟩ :: ⟨[36], [], [38], [(.slot 56)]⟩ :: ⟨[36], [], [39], [(.slot 57)]⟩ :: ⟨[39], [], [40], [(.slot 58)]⟩ :: ⟨[40], [], [41], [(.slot 59)]⟩ :: ⟨[40], [], [42], [(.slot 60)]⟩ :: ⟨[42], [], [43], [(.slot 61)]⟩ :: ⟨[43], [], [44], [(.slot 62)]⟩ :: ⟨[43], [], [45], [(.slot 63)]⟩ :: ⟨[43], [], [46], [(.slot 64)]⟩ :: ⟨[46], [], [47], [(.slot 65)]⟩ :: ⟨[47], [], [48], [(.slot 66)]⟩ :: ⟨[47], [], [49], [(.slot 67)]⟩ :: ⟨[47], [], [50], [(.slot 68)]⟩ :: ⟨[50], [], [51], [(.slot 69)]⟩ :: ⟨[51], [], [52], [(.slot 70)]⟩ :: ⟨[51], [], [53], [(.slot 71)]⟩ :: ⟨[51], [], [54], [(.slot 72)]⟩ :: ⟨[51], [], [55], [(.slot 73)]⟩ :: ⟨[55], [], [56], [(.slot 0)]⟩ :: [])) (es' := [(_, _), (0, .v (.bool false))]) (by kernel_rfl) rfl rfl
           ⟨st_plain rfl (op_move _ _ _ _ rfl rfl),
           st_plain rfl (op_bin _ _ _ _ _ rfl rfl rfl),
           st_plain rfl (op_move _ _ _ _ (congrArg (fun b => AV.v (Value.bool b)) hg5_2) rfl),
           st_run 2 28 true rfl rfl rfl (List.Mem.head _) (op_move _ _ _ _ rfl rfl),
           st_run 2 28 true rfl rfl rfl (List.Mem.head _) (op_bin _ _ _ _ _ rfl rfl rfl),
           st_plain rfl (op_pick _ _ true _ rfl rfl),
           st_plain rfl (op_move _ _ _ _ (congrArg (fun b => AV.v (Value.bool b)) hg5_6) rfl),
           st_run 6 32 true rfl rfl rfl (List.Mem.head _) (op_move _ _ _ _ rfl rfl),
           st_run 6 32 true rfl rfl rfl (List.Mem.head _) (op_bin _ _ _ _ _ rfl rfl rfl),
           st_plain rfl (op_pick _ _ true _ rfl rfl),
           st_plain rfl (op_move _ _ _ _ (congrArg (fun b => AV.v (Value.bool b)) hg5_10) rfl),
           st_run 10 36 true rfl rfl rfl (List.Mem.head _) (op_move _ _ _ _ rfl rfl),
           st_run 10 36 true rfl rfl rfl (List.Mem.head _) (op_bin _ _ _ _ _ rfl rfl rfl),
           st_plain rfl (op_pick _ _ true _ rfl rfl),
           st_plain rfl (op_move _ _ _ _ (congrArg (fun b => AV.v (Value.bool b)) hg5_14) rfl),
           st_run 14 40 true rfl rfl rfl (List.Mem.head _) (op_fieldAddr _ _ _ _ 1 0 _ Tryd.underlying23 rfl sz9 rfl rfl (by decide)),
           st_run 14 40 true rfl rfl rfl (List.Mem.head _) (op_load _ _ _ _ _ _ Tryd.underlying9 rfl rfl rfl (Nat.le_of_ble_eq_true rfl) rfl rfl rfl),
           st_run 14 40 true rfl rfl rfl (List.Mem.head _) (op_bin _ _ _ _ _ rfl rfl rfl),
           st_plain rfl (op_pick _ _ true _ rfl rfl),
           st_plain rfl (op_move _ _ _ _ (congrArg (fun b => AV.v (Value.bool b)) hg5_19) rfl),
           st_run 19 45 true rfl rfl rfl (List.Mem.head _) (op_fieldAddr _ _ _ _ 1 0 _ Tryd.underlying23 rfl sz9 rfl rfl (by decide)),
           st_run 19 45 true rfl rfl rfl (List.Mem.head _) (op_load _ _ _ _ _ _ Tryd.underlying9 rfl rfl rfl (Nat.le_of_ble_eq_true rfl) rfl rfl rfl),
           st_run 19 45 true rfl rfl rfl (List.Mem.head _) (op_bin _ _ _ _ _ rfl rfl rfl),
           st_plain rfl (op_pick _ _ true _ rfl rfl),
           st_plain rfl (op_move _ _ _ _ (congrArg (fun b => AV.v (Value.bool b)) hg5_24) rfl),
           st_run 24 50 true rfl rfl rfl (List.Mem.head _) (op_move _ _ _ _ rfl rfl),
           st_run 24 50 true rfl rfl rfl (List.Mem.head _) (op_bin _ _ _ _ _ rfl rfl rfl),
           st_plain rfl (op_pick _ _ true _ rfl rfl),
           st_plain rfl (op_move _ _ _ _ (congrArg (fun b => AV.v (Value.bool b)) hg5_28) rfl),
           st_skip 28 54 _ true rfl rfl rfl rfl (List.Mem.head _),
           st_skip 28 54 _ true rfl rfl rfl rfl (List.Mem.head _),
           st_plain rfl (op_pick _ _ false _ rfl rfl),
           st_plain rfl (op_move _ _ _ _ rfl rfl),
           st_skip 32 58 _ true rfl rfl rfl rfl (List.Mem.head _),
           st_plain rfl (op_pick _ _ false _ rfl rfl),
           st_plain rfl (op_move _ _ _ _ rfl rfl),
           st_skip 35 61 _ true rfl rfl rfl rfl (List.Mem.head _),
           st_skip 35 61 _ true rfl rfl rfl rfl (List.Mem.head _),
           st_plain rfl (op_pick _ _ false _ rfl rfl),
           st_plain rfl (op_move _ _ _ _ rfl rfl),
           st_skip 39 65 _ true rfl rfl rfl rfl (List.Mem.head _),
           st_skip 39 65 _ true rfl rfl rfl rfl (List.Mem.head _),
           st_plain rfl (op_pick _ _ false _ rfl rfl),
           st_plain rfl (op_move _ _ _ _ rfl rfl),
           st_skip 43 69 _ true rfl rfl rfl rfl (List.Mem.head _),
           st_skip 43 69 _ true rfl rfl rfl rfl (List.Mem.head _),
           st_skip 43 69 _ true rfl rfl rfl rfl (List.Mem.head _),
           st_plain rfl (op_pick _ _ false _ rfl rfl),
           st_plain rfl (op_assign _ _ _ _ rfl rfl),
           trivial⟩ ?_
          exact hl11 _ (Option.some.inj h).symm
        ·refine ht_seqR hn (El := (_ :: _ :: _ :: _ :: _ :: _ :: _ :: _ :: (26, .v (.int .i64 v1.2)) :: (27, .v (.bool (v1.2 == 0))) :: (28, .v (.bool true)) :: (29, .v (.int .i64 v2.2)) :: (30, .v (.bool (v2.2 == 0))) :: (31, .v (.bool (v2.2 == 0))) :: (32, .v (.bool true)) :: (33, .v (.int .i64 v3.2)) :: (34, .v (.bool (v3.2 == 0))) :: (35, .v (.bool (v3.2 == 0))) :: (36, .v (.bool true)) :: (37, .v (.int .i64 v4.2)) :: (38, .v (.bool (v4.2 == 5))) :: (39, .v (.bool (v4.2 == 5))) :: (40, .v (.bool true)) :: (41, .ptr 1 1) :: (42, .v (.string v1.1.Local)) :: (43, .v (.bool ((v1.1.Local.toList == (⟨#[97, 46, 98]⟩ : ByteArray).toList)))) :: (44, .v (.bool ((v1.1.Local.toList == (⟨#[97, 46, 98]⟩ : ByteArray).toList)))) :: (45, .v (.bool true)) :: (46, .ptr 1 2) :: (47, .v (.string v1.1.Domain)) :: (48, .v (.bool ((v1.1.Domain.toList == (⟨#[99, 45, 100, 46, 101, 120, 97, 109, 112, 108, 101]⟩ : ByteArray).toList)))) :: (49, .v (.bool ((v1.1.Domain.toList == (⟨#[99, 45, 100, 46, 101, 120, 97, 109, 112, 108, 101]⟩ : ByteArray).toList)))) :: (50, .v (.bool false)) :: (51, .v undef) :: (52, .v undef) :: (53, .v (.bool false)) :: (54, .v (.bool false)) :: (55, .v undef) :: (56, .v undef) :: (57, .v (.bool false)) :: (58, .v (.bool false)) :: (59, .v undef) :: (60, .v (.bool false)) :: (61, .v (.bool false)) :: (62, .v undef) :: (63, .v undef) :: (64, .v (.bool false)) :: (65, .v (.bool false)) :: (66, .v undef) :: (67, .v undef) :: (68, .v (.bool false)) :: (69, .v (.bool false)) :: (70, .v undef) :: (71, .v undef) :: (72, .v undef) :: (73, .v (.bool false)) :: (0, .v (.bool false)) :: [])) (init := [0, 1, 2, 3, 4, 5, 6, 7]) (fin := [0, 56]) (sps := (⟨[2], [], [8], [(.slot 26)]⟩ :: ⟨[8], [], [9], [(.slot 27)]⟩ :: ⟨[9], [], [10], [(.slot 28)]⟩ :: ⟨[10, 4], [], [11], [(.slot 29)]⟩ :: ⟨[10, 11], [], [12], [(.slot 30)]⟩ :: ⟨[10, 12], [], [13], [(.slot 31)]⟩ :: ⟨[13], [], [14], [(.slot 32)]⟩ :: ⟨[14, 6], [], [15], [(.slot 33)]⟩ :: ⟨[14, 15], [], [16], [(.slot 34)]⟩ :: ⟨[14, 16], [], [17], [(.slot 35)]⟩ :: ⟨[17], [], [18], [(.slot 36)]⟩ :: ⟨[18, 7], [], [19], [(.slot 37)]⟩ :: ⟨[18, 19], [], [20], [(.slot 38)]⟩ :: ⟨[18, 20], [], [21], [(.slot 39)]⟩ :: ⟨[21], [], [22], [(.slot 40)]⟩ :: ⟨[22, 1], [], [23], [(.slot 41)]⟩ :: ⟨[22, 23, 1], [], [24], [(.slot 42)]⟩ :: ⟨[22, 24], [], [25], [(.slot 43)]⟩ :: ⟨[22, 25], [], [26], [(.slot 44)]⟩ :: ⟨[26], [], [27], [(.slot 45)]⟩ :: ⟨[27, 1], [], [28], [(.slot 46)]⟩ :: ⟨[27, 28, 1], [], [29], [(.slot 47)]⟩ :: ⟨[27, 29], [], [30], [(.slot 48)]⟩ :: ⟨[27, 30], [], [31], [(.slot 49)]⟩ :: ⟨[31], [], [32], [(.slot 50)]⟩ :: ⟨[32], [], [33], [(.slot 51)]⟩ :: ⟨[32], [], [34], [(.slot 52)]⟩ :: ⟨[32], [], [35], [(.slot 53)]⟩ :: ⟨[35], [], [36], [(.slot 54)]⟩ :: ⟨[36], [], [37], [(.slot 55)]⟩ :: ⟨[36], [], [38], [(.slot 56)]⟩ :: ⟨[36], [], [39], [(.slot 57)]⟩ :: ⟨[39], [], [40], [(.slot 58)]⟩ :: ⟨[40], [], [41], [(.slot 59)]⟩ :: ⟨[40], [], [42], [(.slot 60)]⟩ :: ⟨[42], [], [43], [(.slot 61)]⟩ :: ⟨[43], [], [44], [(.slot 62)]⟩ :: ⟨[43], [], [45], [(.slot 63)]⟩ :: ⟨[43], [], [46], [(.slot 64)]⟩ :: ⟨[46], [], [47], [(.slot 65)]⟩ :: ⟨[47], [], [48], [(.slot 66)]⟩ :: ⟨[47], [], [49], [(.slot 67)]⟩ :: ⟨[47], [], [50], [(.slot 68)]⟩ :: ⟨[50], [], [51], [(.slot 69)]⟩ :: ⟨[51], [], [52], [(.slot 70)]⟩ :: ⟨[51], [], [53], [(.slot 71)]⟩ :: ⟨[51], [], [54], [(.slot 72)]⟩ :: ⟨[51], [], [55], [(.slot 73)]⟩ :: ⟨[55], [], [56], [(.slot 0)]⟩ :: [])) (es' := [(_, _), (0, .v (.bool false))]) (by kernel_rfl) rfl rfl
          ⟨st_plain rfl (op_move _ _ _ _ rfl rfl),
          st_plain rfl (op_bin _ _ _ _ _ rfl rfl rfl),
          st_plain rfl (op_move _ _ _ _ (congrArg (fun b => AV.v (Value.bool b)) hg5_2) rfl),
          st_run 2 28 true rfl rfl rfl (List.Mem.head _) (op_move _ _ _ _ rfl rfl),
          st_run 2 28 true rfl rfl rfl (List.Mem.head _) (op_bin _ _ _ _ _ rfl rfl rfl),
          st_plain rfl (op_pick _ _ true _ rfl rfl),
          st_plain rfl (op_move _ _ _ _ (congrArg (fun b => AV.v (Value.bool b)) hg5_6) rfl),
          st_run 6 32 true rfl rfl rfl (List.Mem.head _) (op_move _ _ _ _ rfl rfl),
          st_run 6 32 true rfl rfl rfl (List.Mem.head _) (op_bin _ _ _ _ _ rfl rfl rfl),
          st_plain rfl (op_pick _ _ true _ rfl rfl),
          st_plain rfl (op_move _ _ _ _ (congrArg (fun b => AV.v (Value.bool b)) hg5_10) rfl),
          st_run 10 36 true rfl rfl rfl (List.Mem.head _) (op_move _ _ _ _ rfl rfl),
          st_run 10 36 true rfl rfl rfl (List.Mem.head _) (op_bin _ _ _ _ _ rfl rfl rfl),
          st_plain rfl (op_pick _ _ true _ rfl rfl),
          st_plain rfl (op_move _ _ _ _ (congrArg (fun b => AV.v (Value.bool b)) hg5_14) rfl),
          st_run 14 40 true rfl rfl rfl (List.Mem.head _) (op_fieldAddr _ _ _ _ 1 0 _ Tryd.underlying23 rfl sz9 rfl rfl (by decide)),
          st_run 14 40 true rfl rfl rfl (List.Mem.head _) (op_load _ _ _ _ _ _ Tryd.underlying9 rfl rfl rfl (Nat.le_of_ble_eq_true rfl) rfl rfl rfl),
          st_run 14 40 true rfl rfl rfl (List.Mem.head _) (op_bin _ _ _ _ _ rfl rfl rfl),
          st_plain rfl (op_pick _ _ true _ rfl rfl),
          st_plain rfl (op_move _ _ _ _ (congrArg (fun b => AV.v (Value.bool b)) hg5_19) rfl),
          st_run 19 45 true rfl rfl rfl (List.Mem.head _) (op_fieldAddr _ _ _ _ 1 0 _ Tryd.underlying23 rfl sz9 rfl rfl (by decide)),
          st_run 19 45 true rfl rfl rfl (List.Mem.head _) (op_load _ _ _ _ _ _ Tryd.underlying9 rfl rfl rfl (Nat.le_of_ble_eq_true rfl) rfl rfl rfl),
          st_run 19 45 true rfl rfl rfl (List.Mem.head _) (op_bin _ _ _ _ _ rfl rfl rfl),
          st_plain rfl (op_pick _ _ true _ rfl rfl),
          st_plain rfl (op_move _ _ _ _ (congrArg (fun b => AV.v (Value.bool b)) hg5_24) rfl),
          st_skip 24 50 _ true rfl rfl rfl rfl (List.Mem.head _),
          st_skip 24 50 _ true rfl rfl rfl rfl (List.Mem.head _),
          st_plain rfl (op_pick _ _ false _ rfl rfl),
          st_plain rfl (op_move _ _ _ _ rfl rfl),
          st_skip 28 54 _ true rfl rfl rfl rfl (List.Mem.head _),
          st_skip 28 54 _ true rfl rfl rfl rfl (List.Mem.head _),
          st_plain rfl (op_pick _ _ false _ rfl rfl),
          st_plain rfl (op_move _ _ _ _ rfl rfl),
          st_skip 32 58 _ true rfl rfl rfl rfl (List.Mem.head _),
          st_plain rfl (op_pick _ _ false _ rfl rfl),
          st_plain rfl (op_move _ _ _ _ rfl rfl),
          st_skip 35 61 _ true rfl rfl rfl rfl (List.Mem.head _),
          st_skip 35 61 _ true rfl rfl rfl rfl (List.Mem.head _),
          st_plain rfl (op_pick _ _ false _ rfl rfl),
          st_plain rfl (op_move _ _ _ _ rfl rfl),
          st_skip 39 65 _ true rfl rfl rfl rfl (List.Mem.head _),
          st_skip 39 65 _ true rfl rfl rfl rfl (List.Mem.head _),
          st_plain rfl (op_pick _ _ false _ rfl rfl),
          st_plain rfl (op_move _ _ _ _ rfl rfl),
          st_skip 43 69 _ true rfl rfl rfl rfl (List.Mem.head _),
          st_skip 43 69 _ true rfl rfl rfl rfl (List.Mem.head _),
          st_skip 43 69 _ true rfl rfl rfl rfl (List.Mem.head _),
          st_plain rfl (op_pick _ _ false _ rfl rfl),
          st_plain rfl (op_assign _ _ _ _ rfl rfl),
          trivial⟩ ?_
         exact hl11 _ (Option.some.inj h).symm
       ·refine ht_seqR hn (El := (_ :: _ :: _ :: _ :: _ :: _ :: _ :: _ :: (26, .v (.int .i64 v1.2)) :: (27, .v (.bool (v1.2 == 0))) :: (28, .v (.bool true)) :: (29, .v (.int .i64 v2.2)) :: (30, .v (.bool (v2.2 == 0))) :: (31, .v (.bool (v2.2 == 0))) :: (32, .v (.bool true)) :: (33, .v (.int .i64 v3.2)) :: (34, .v (.bool (v3.2 == 0))) :: (35, .v (.bool (v3.2 == 0))) :: (36, .v (.bool true)) :: (37, .v (.int .i64 v4.2)) :: (38, .v (.bool (v4.2 == 5))) :: (39, .v (.bool (v4.2 == 5))) :: (40, .v (.bool true)) :: (41, .ptr 1 1) :: (42, .v (.string v1.1.Local)) :: (43, .v (.bool ((v1.1.Local.toList == (⟨#[97, 46, 98]⟩ : ByteArray).toList)))) :: (44, .v (.bool ((v1.1.Local.toList == (⟨#[97, 46, 98]⟩ : ByteArray).toList)))) :: (45, .v (.bool false)) :: (46, .v undef) :: (47, .v undef) :: (48, .v undef) :: (49, .v (.bool false)) :: (50, .v (.bool false)) :: (51, .v undef) :: (52, .v undef) :: (53, .v (.bool false)) :: (54, .v (.bool false)) :: (55, .v undef) :: (56, .v undef) :: (57, .v (.bool false)) :: (58, .v (.bool false)) :: (59, .v undef) :: (60, .v (.bool false)) :: (61, .v (.bool false)) :: (62, .v undef) :: (63, .v undef) :: (64, .v (.bool false)) :: (65, .v (.bool false)) :: (66, .v undef) :: (67, .v undef) :: (68, .v (.bool false)) :: (69, .v (.bool false)) :: (70, .v undef) :: (71, .v undef) :: (72, .v undef) :: (73, .v (.bool false)) :: (0, .v (.bool false)) :: [])) (init := [0, 1, 2, 3, 4, 5, 6, 7]) (fin := [0, 56]) (sps := (⟨[2], [], [8], [(.slot 26)]⟩ :: ⟨[8], [], [9], [(.slot 27)]⟩ :: ⟨[9], [], [10], [(.slot 28)]⟩ :: ⟨[10, 4], [], [11], [(.slot 29)]⟩ :: ⟨[10, 11], [], [12], [(.slot 30)]⟩ :: ⟨[10, 12], [], [13], [(.slot 31)]⟩ :: ⟨[13], [], [14], [(.slot 32)]⟩ :: ⟨[14, 6], [], [15], [(.slot 33)]⟩ :: ⟨[14, 15], [], [16], [(.slot 34)]⟩ :: ⟨[14, 16], [], [17], [(.slot 35)]⟩ :: ⟨[17], [], [18], [(.slot 36)]⟩ :: ⟨[18, 7], [], [19], [(.slot 37)]⟩ :: ⟨[18, 19], [], [20], [(.slot 38)]⟩ :: ⟨[18, 20], [], [21], [(.slot 39)]⟩ :: ⟨[21], [], [22], [(.slot 40)]⟩ :: ⟨[22, 1], [], [23], [(.slot 41)]⟩ :: ⟨[22, 23, 1], [], [24], [(.slot 42)]⟩ :: ⟨[22, 24], [], [25], [(.slot 43)]⟩ :: ⟨[22, 25], [], [26], [(.slot 44)]⟩ :: ⟨[26], [], [27], [(.slot 45)]⟩ :: ⟨[27], [], [28], [(.slot 46)]⟩ :: ⟨[27], [], [29], [(.slot 47)]⟩ :: ⟨[27], [], [30], [(.slot 48)]⟩ :: ⟨[27], [], [31], [(.slot 49)]⟩ :: ⟨[31], [], [32], [(.slot 50)]⟩ :: ⟨[32], [], [33], [(.slot 51)]⟩ :: ⟨[32], [], [34], [(.slot 52)]⟩ :: ⟨[32], [], [35], [(.slot 53)]⟩ :: ⟨[35], [], [36], [(.slot 54)]⟩ :: ⟨[36], [], [37], [(.slot 55)]⟩ :: ⟨[36], [], [38], [(.slot 56)]⟩ :: ⟨[36], [], [39], [(.slot 57)]⟩ :: ⟨[39], [], [40], [(.slot 58)]⟩ :: ⟨[40], [], [41], [(.slot 59)]⟩ :: ⟨[40], [], [42], [(.slot 60)]⟩ :: ⟨[42], [], [43], [(.slot 61)]⟩ :: ⟨[43], [], [44], [(.slot 62)]⟩ :: ⟨[43], [], [45], [(.slot 63)]⟩ :: ⟨[43], [], [46], [(.slot 64)]⟩ :: ⟨[46], [], [47], [(.slot 65)]⟩ :: ⟨[47], [], [48], [(.slot 66)]⟩ :: ⟨[47], [], [49], [(.slot 67)]⟩ :: ⟨[47], [], [50], [(.slot 68)]⟩ :: ⟨[50], [], [51], [(.slot 69)]⟩ :: ⟨[51], [], [52], [(.slot 70)]⟩ :: ⟨[51], [], [53], [(.slot 71)]⟩ :: ⟨[51], [], [54], [(.slot 72)]⟩ :: ⟨[51], [], [55], [(.slot 73)]⟩ :: ⟨[55], [], [56], [(.slot 0)]⟩ :: [])) (es' := [(_, _), (0, .v (.bool false))]) (by kernel_rfl) rfl rfl
         ⟨st_plain rfl (op_move _ _ _ _ rfl rfl),
         st_plain rfl (op_bin _ _ _ _ _ rfl rfl rfl),
         st_plain rfl (op_move _ _ _ _ (congrArg (fun b => AV.v (Value.bool b)) hg5_2) rfl),
         st_run 2 28 true rfl rfl rfl (List.Mem.head _) (op_move _ _ _ _ rfl rfl),
         st_run 2 28 true rfl rfl rfl (List.Mem.head _) (op_bin _ _ _ _ _ rfl rfl rfl),
         st_plain rfl (op_pick _ _ true _ rfl rfl),
         st_plain rfl (op_move _ _ _ _ (congrArg (fun b => AV.v (Value.bool b)) hg5_6) rfl),
         st_run 6 32 true rfl rfl rfl (List.Mem.head _) (op_move _ _ _ _ rfl rfl),
         st_run 6 32 true rfl rfl rfl (List.Mem.head _) (op_bin _ _ _ _ _ rfl rfl rfl),
         st_plain rfl (op_pick _ _ true _ rfl rfl),
         st_plain rfl (op_move _ _ _ _ (congrArg (fun b => AV.v (Value.bool b)) hg5_10) rfl),
         st_run 10 36 true rfl rfl rfl (List.Mem.head _) (op_move _ _ _ _ rfl rfl),
         st_run 10 36 true rfl rfl rfl (List.Mem.head _) (op_bin _ _ _ _ _ rfl rfl rfl),
         st_plain rfl (op_pick _ _ true _ rfl rfl),
         st_plain rfl (op_move _ _ _ _ (congrArg (fun b => AV.v (Value.bool b)) hg5_14) rfl),
         st_run 14 40 true rfl rfl rfl (List.Mem.head _) (op_fieldAddr _ _ _ _ 1 0 _ Tryd.underlying23 rfl sz9 rfl rfl (by decide)),
         st_run 14 40 true rfl rfl rfl (List.Mem.head _) (op_load _ _ _ _ _ _ Tryd.underlying9 rfl rfl rfl (Nat.le_of_ble_eq_true rfl) rfl rfl rfl),
         st_run 14 40 true rfl rfl rfl (List.Mem.head _) (op_bin _ _ _ _ _ rfl rfl rfl),
         st_plain rfl (op_pick _ _ true _ rfl rfl),
         st_plain rfl (op_move _ _ _ _ (congrArg (fun b => AV.v (Value.bool b)) hg5_19) rfl),
         st_skip 19 45 _ true rfl rfl rfl rfl (List.Mem.head _),
         st_skip 19 45 _ true rfl rfl rfl rfl (List.Mem.head _),
         st_skip 19 45 _ true rfl rfl rfl rfl (List.Mem.head _),
         st_plain rfl (op_pick _ _ false _ rfl rfl),
         st_plain rfl (op_move _ _ _ _ rfl rfl),
         st_skip 24 50 _ true rfl rfl rfl rfl (List.Mem.head _),
         st_skip 24 50 _ true rfl rfl rfl rfl (List.Mem.head _),
         st_plain rfl (op_pick _ _ false _ rfl rfl),
         st_plain rfl (op_move _ _ _ _ rfl rfl),
         st_skip 28 54 _ true rfl rfl rfl rfl (List.Mem.head _),
         st_skip 28 54 _ true rfl rfl rfl rfl (List.Mem.head _),
         st_plain rfl (op_pick _ _ false _ rfl rfl),
         st_plain rfl (op_move _ _ _ _ rfl rfl),
         st_skip 32 58 _ true rfl rfl rfl rfl (List.Mem.head _),
         st_plain rfl (op_pick _ _ false _ rfl rfl),
         st_plain rfl (op_move _ _ _ _ rfl rfl),
         st_skip 35 61 _ true rfl rfl rfl rfl (List.Mem.head _),
         st_skip 35 61 _ true rfl rfl rfl rfl (List.Mem.head _),
         st_plain rfl (op_pick _ _ false _ rfl rfl),
         st_plain rfl (op_move _ _ _ _ rfl rfl),
         st_skip 39 65 _ true rfl rfl rfl rfl (List.Mem.head _),
         st_skip 39 65 _ true rfl rfl rfl rfl (List.Mem.head _),
         st_plain rfl (op_pick _ _ false _ rfl rfl),
         st_plain rfl (op_move _ _ _ _ rfl rfl),
         st_skip 43 69 _ true rfl rfl rfl rfl (List.Mem.head _),
         st_skip 43 69 _ true rfl rfl rfl rfl (List.Mem.head _),
         st_skip 43 69 _ true rfl rfl rfl rfl (List.Mem.head _),
         st_plain rfl (op_pick _ _ false _ rfl rfl),
         st_plain rfl (op_assign _ _ _ _ rfl rfl),
         trivial⟩ ?_
        exact hl11 _ (Option.some.inj h).symm
      ·refine ht_seqR hn (El := (_ :: _ :: _ :: _ :: _ :: _ :: _ :: _ :: (26, .v (.int .i64 v1.2)) :: (27, .v (.bool (v1.2 == 0))) :: (28, .v (.bool true)) :: (29, .v (.int .i64 v2.2)) :: (30, .v (.bool (v2.2 == 0))) :: (31, .v (.bool (v2.2 == 0))) :: (32, .v (.bool true)) :: (33, .v (.int .i64 v3.2)) :: (34, .v (.bool (v3.2 == 0))) :: (35, .v (.bool (v3.2 == 0))) :: (36, .v (.bool true)) :: (37, .v (.int .i64 v4.2)) :: (38, .v (.bool (v4.2 == 5))) :: (39, .v (.bool (v4.2 == 5))) :: (40, .v (.bool false)) :: (41, .v undef) :: (42, .v undef) :: (43, .v undef) :: (44, .v (.bool false)) :: (45, .v (.bool false)) :: (46, .v undef) :: (47, .v undef) :: (48, .v undef) :: (49, .v (.bool false)) :: (50, .v (.bool false)) :: (51, .v undef) :: (52, .v undef) :: (53, .v (.bool false)) :: (54, .v (.bool false)) :: (55, .v undef) :: (56, .v undef) :: (57, .v (.bool false)) :: (58, .v (.bool false)) :: (59, .v undef) :: (60, .v (.bool false)) :: (61, .v (.bool false)) :: (62, .v undef) :: (63, .v undef) :: (64, .v (.bool false)) :: (65, .v (.bool false)) :: (66, .v undef) :: (67, .v undef) :: (68, .v (.bool false)) :: (69, .v (.bool false)) :: (70, .v undef) :: (71, .v undef) :: (72, .v undef) :: (73, .v (.bool false)) :: (0, .v (.bool false)) :: [])) (init := [0, 1, 2, 3, 4, 5, 6, 7]) (fin := [0, 56]) (sps := (⟨[2], [], [8], [(.slot 26)]⟩ :: ⟨[8], [], [9], [(.slot 27)]⟩ :: ⟨[9], [], [10], [(.slot 28)]⟩ :: ⟨[10, 4], [], [11], [(.slot 29)]⟩ :: ⟨[10, 11], [], [12], [(.slot 30)]⟩ :: ⟨[10, 12], [], [13], [(.slot 31)]⟩ :: ⟨[13], [], [14], [(.slot 32)]⟩ :: ⟨[14, 6], [], [15], [(.slot 33)]⟩ :: ⟨[14, 15], [], [16], [(.slot 34)]⟩ :: ⟨[14, 16], [], [17], [(.slot 35)]⟩ :: ⟨[17], [], [18], [(.slot 36)]⟩ :: ⟨[18, 7], [], [19], [(.slot 37)]⟩ :: ⟨[18, 19], [], [20], [(.slot 38)]⟩ :: ⟨[18, 20], [], [21], [(.slot 39)]⟩ :: ⟨[21], [], [22], [(.slot 40)]⟩ :: ⟨[22], [], [23], [(.slot 41)]⟩ :: ⟨[22], [], [24], [(.slot 42)]⟩ :: ⟨[22], [], [25], [(.slot 43)]⟩ :: ⟨[22], [], [26], [(.slot 44)]⟩ :: ⟨[26], [], [27], [(.slot 45)]⟩ :: ⟨[27], [], [28], [(.slot 46)]⟩ :: ⟨[27], [], [29], [(.slot 47)]⟩ :: ⟨[27], [], [30], [(.slot 48)]⟩ :: ⟨[27], [], [31], [(.slot 49)]⟩ :: ⟨[31], [], [32], [(.slot 50)]⟩ :: ⟨[32], [], [33], [(.slot 51)]⟩ :: ⟨[32], [], [34], [(.slot 52)]⟩ :: ⟨[32], [], [35], [(.slot 53)]⟩ :: ⟨[35], [], [36], [(.slot 54)]⟩ :: ⟨[36], [], [37], [(.slot 55)]⟩ :: ⟨[36], [], [38], [(.slot 56)]⟩ :: ⟨[36], [], [39], [(.slot 57)]⟩ :: ⟨[39], [], [40], [(.slot 58)]⟩ :: ⟨[40], [], [41], [(.slot 59)]⟩ :: ⟨[40], [], [42], [(.slot 60)]⟩ :: ⟨[42], [], [43], [(.slot 61)]⟩ :: ⟨[43], [], [44], [(.slot 62)]⟩ :: ⟨[43], [], [45], [(.slot 63)]⟩ :: ⟨[43], [], [46], [(.slot 64)]⟩ :: ⟨[46], [], [47], [(.slot 65)]⟩ :: ⟨[47], [], [48], [(.slot 66)]⟩ :: ⟨[47], [], [49], [(.slot 67)]⟩ :: ⟨[47], [], [50], [(.slot 68)]⟩ :: ⟨[50], [], [51], [(.slot 69)]⟩ :: ⟨[51], [], [52], [(.slot 70)]⟩ :: ⟨[51], [], [53], [(.slot 71)]⟩ :: ⟨[51], [], [54], [(.slot 72)]⟩ :: ⟨[51], [], [55], [(.slot 73)]⟩ :: ⟨[55], [], [56], [(.slot 0)]⟩ :: [])) (es' := [(_, _), (0, .v (.bool false))]) (by kernel_rfl) rfl rfl
        ⟨st_plain rfl (op_move _ _ _ _ rfl rfl),
        st_plain rfl (op_bin _ _ _ _ _ rfl rfl rfl),
        st_plain rfl (op_move _ _ _ _ (congrArg (fun b => AV.v (Value.bool b)) hg5_2) rfl),
        st_run 2 28 true rfl rfl rfl (List.Mem.head _) (op_move _ _ _ _ rfl rfl),
        st_run 2 28 true rfl rfl rfl (List.Mem.head _) (op_bin _ _ _ _ _ rfl rfl rfl),
        st_plain rfl (op_pick _ _ true _ rfl rfl),
        st_plain rfl (op_move _ _ _ _ (congrArg (fun b => AV.v (Value.bool b)) hg5_6) rfl),
        st_run 6 32 true rfl rfl rfl (List.Mem.head _) (op_move _ _ _ _ rfl rfl),
        st_run 6 32 true rfl rfl rfl (List.Mem.head _) (op_bin _ _ _ _ _ rfl rfl rfl),
        st_plain rfl (op_pick _ _ true _ rfl rfl),
        st_plain rfl (op_move _ _ _ _ (congrArg (fun b => AV.v (Value.bool b)) hg5_10) rfl),
        st_run 10 36 true rfl rfl rfl (List.Mem.head _) (op_move _ _ _ _ rfl rfl),
        st_run 10 36 true rfl rfl rfl (List.Mem.head _) (op_bin _ _ _ _ _ rfl rfl rfl),
        st_plain rfl (op_pick _ _ true _ rfl rfl),
        st_plain rfl (op_move _ _ _ _ (congrArg (fun b => AV.v (Value.bool b)) hg5_14) rfl),
        st_skip 14 40 _ true rfl rfl rfl rfl (List.Mem.head _),
        st_skip 14 40 _ true rfl rfl rfl rfl (List.Mem.head _),
        st_skip 14 40 _ true rfl rfl rfl rfl (List.Mem.head _),
        st_plain rfl (op_pick _ _ false _ rfl rfl),
        st_plain rfl (op_move _ _ _ _ rfl rfl),
        st_skip 19 45 _ true rfl rfl rfl rfl (List.Mem.head _),
        st_skip 19 45 _ true rfl rfl rfl rfl (List.Mem.head _),
        st_skip 19 45 _ true rfl rfl rfl rfl (List.Mem.head _),
        st_plain rfl (op_pick _ _ false _ rfl rfl),
        st_plain rfl (op_move _ _ _ _ rfl rfl),
        st_skip 24 50 _ true rfl rfl rfl rfl (List.Mem.head _),
        st_skip 24 50 _ true rfl rfl rfl rfl (List.Mem.head _),
        st_plain rfl (op_pick _ _ false _ rfl rfl),
        st_plain rfl (op_move _ _ _ _ rfl rfl),
        st_skip 28 54 _ true rfl rfl rfl rfl (List.Mem.head _),
        st_skip 28 54 _ true rfl rfl rfl rfl (List.Mem.head _),
        st_plain rfl (op_pick _ _ false _ rfl rfl),
        st_plain rfl (op_move _ _ _ _ rfl rfl),
        st_skip 32 58 _ true rfl rfl rfl rfl (List.Mem.head _),
        st_plain rfl (op_pick _ _ false _ rfl rfl),
        st_plain rfl (op_move _ _ _ _ rfl rfl),
        st_skip 35 61 _ true rfl rfl rfl rfl (List.Mem.head _),
        st_skip 35 61 _ true rfl rfl rfl rfl (List.Mem.head _),
        st_plain rfl (op_pick _ _ false _ rfl rfl),
        st_plain rfl (op_move _ _ _ _ rfl rfl),
        st_skip 39 65 _ true rfl rfl rfl rfl (List.Mem.head _),
        st_skip 39 65 _ true rfl rfl rfl rfl (List.Mem.head _),
        st_plain rfl (op_pick _ _ false _ rfl rfl),
        st_plain rfl (op_move _ _ _ _ rfl rfl),
        st_skip 43 69 _ true rfl rfl rfl rfl (List.Mem.head _),
        st_skip 43 69 _ true rfl rfl rfl rfl (List.Mem.head _),
        st_skip 43 69 _ true rfl rfl rfl rfl (List.Mem.head _),
        st_plain rfl (op_pick _ _ false _ rfl rfl),
        st_plain rfl (op_assign _ _ _ _ rfl rfl),
        trivial⟩ ?_
       exact hl11 _ (Option.some.inj h).symm
     ·refine ht_seqR hn (El := (_ :: _ :: _ :: _ :: _ :: _ :: _ :: _ :: (26, .v (.int .i64 v1.2)) :: (27, .v (.bool (v1.2 == 0))) :: (28, .v (.bool true)) :: (29, .v (.int .i64 v2.2)) :: (30, .v (.bool (v2.2 == 0))) :: (31, .v (.bool (v2.2 == 0))) :: (32, .v (.bool true)) :: (33, .v (.int .i64 v3.2)) :: (34, .v (.bool (v3.2 == 0))) :: (35, .v (.bool (v3.2 == 0))) :: (36, .v (.bool false)) :: (37, .v undef) :: (38, .v undef) :: (39, .v (.bool false)) :: (40, .v (.bool false)) :: (41, .v undef) :: (42, .v undef) :: (43, .v undef) :: (44, .v (.bool false)) :: (45, .v (.bool false)) :: (46, .v undef) :: (47, .v undef) :: (48, .v undef) :: (49, .v (.bool false)) :: (50, .v (.bool false)) :: (51, .v undef) :: (52, .v undef) :: (53, .v (.bool false)) :: (54, .v (.bool false)) :: (55, .v undef) :: (56, .v undef) :: (57, .v (.bool false)) :: (58, .v (.bool false)) :: (59, .v undef) :: (60, .v (.bool false)) :: (61, .v (.bool false)) :: (62, .v undef) :: (63, .v undef) :: (64, .v (.bool false)) :: (65, .v (.bool false)) :: (66, .v undef) :: (67, .v undef) :: (68, .v (.bool false)) :: (69, .v (.bool false)) :: (70, .v undef) :: (71, .v undef) :: (72, .v undef) :: (73, .v (.bool false)) :: (0, .v (.bool false)) :: [])) (init := [0, 1, 2, 3, 4, 5, 6, 7]) (fin := [0, 56]) (sps := (⟨[2], [], [8], [(.slot 26)]⟩ :: ⟨[8], [], [9], [(.slot 27)]⟩ :: ⟨[9], [], [10], [(.slot 28)]⟩ :: ⟨[10, 4], [], [11], [(.slot 29)]⟩ :: ⟨[10, 11], [], [12], [(.slot 30)]⟩ :: ⟨[10, 12], [], [13], [(.slot 31)]⟩ :: ⟨[13], [], [14], [(.slot 32)]⟩ :: ⟨[14, 6], [], [15], [(.slot 33)]⟩ :: ⟨[14, 15], [], [16], [(.slot 34)]⟩ :: ⟨[14, 16], [], [17], [(.slot 35)]⟩ :: ⟨[17], [], [18], [(.slot 36)]⟩ :: ⟨[18], [], [19], [(.slot 37)]⟩ :: ⟨[18], [], [20], [(.slot 38)]⟩ :: ⟨[18], [], [21], [(.slot 39)]⟩ :: ⟨[21], [], [22], [(.slot 40)]⟩ :: ⟨[22], [], [23], [(.slot 41)]⟩ :: ⟨[22], [], [24], [(.slot 42)]⟩ :: ⟨[22], [], [25], [(.slot 43)]⟩ :: ⟨[22], [], [26], [(.slot 44)]⟩ :: ⟨[26], [], [27], [(.slot 45)]⟩ :: ⟨[27], [], [28], [(.slot 46)]⟩ :: ⟨[27], [], [29], [(.slot 47)]⟩ :: ⟨[27], [], [30], [(.slot 48)]⟩ :: ⟨[27], [], [31], [(.slot 49)]⟩ :: ⟨[31], [], [32], [(.slot 50)]⟩ :: ⟨[32], [], [33], [(.slot 51)]⟩ :: ⟨[32], [], [34], [(.slot 52)]⟩ :: ⟨[32], [], [35], [(.slot 53)]⟩ :: ⟨[35], [], [36], [(.slot 54)]⟩ :: ⟨[36], [], [37], [(.slot 55)]⟩ :: ⟨[36], [], [38], [(.slot 56)]⟩ :: ⟨[36], [], [39], [(.slot 57)]⟩ :: ⟨[39], [], [40], [(.slot 58)]⟩ :: ⟨[40], [], [41], [(.slot 59)]⟩ :: ⟨[40], [], [42], [(.slot 60)]⟩ :: ⟨[42], [], [43], [(.slot 61)]⟩ :: ⟨[43], [], [44], [(.slot 62)]⟩ :: ⟨[43], [], [45], [(.slot 63)]⟩ :: ⟨[43], [], [46], [(.slot 64)]⟩ :: ⟨[46], [], [47], [(.slot 65)]⟩ :: ⟨[47], [], [48], [(.slot 66)]⟩ :: ⟨[47], [], [49], [(.slot 67)]⟩ :: ⟨[47], [], [50], [(.slot 68)]⟩ :: ⟨[50], [], [51], [(.slot 69)]⟩ :: ⟨[51], [], [52], [(.slot 70)]⟩ :: ⟨[51], [], [53], [(.slot 71)]⟩ :: ⟨[51], [], [54], [(.slot 72)]⟩ :: ⟨[51], [], [55], [(.slot 73)]⟩ :: ⟨[55], [], [56], [(.slot 0)]⟩ :: [])) (es' := [(_, _), (0, .v (.bool false))]) (by kernel_rfl) rfl rfl
       ⟨st_plain rfl (op_move _ _ _ _ rfl rfl),
       st_plain rfl (op_bin _ _ _ _ _ rfl rfl rfl),
       st_plain rfl (op_move _ _ _ _ (congrArg (fun b => AV.v (Value.bool b)) hg5_2) rfl),
       st_run 2 28 true rfl rfl rfl (List.Mem.head _) (op_move _ _ _ _ rfl rfl),
       st_run 2 28 true rfl rfl rfl (List.Mem.head _) (op_bin _ _ _ _ _ rfl rfl rfl),
       st_plain rfl (op_pick _ _ true _ rfl rfl),
       st_plain rfl (op_move _ _ _ _ (congrArg (fun b => AV.v (Value.bool b)) hg5_6) rfl),
       st_run 6 32 true rfl rfl rfl (List.Mem.head _) (op_move _ _ _ _ rfl rfl),
       st_run 6 32 true rfl rfl rfl (List.Mem.head _) (op_bin _ _ _ _ _ rfl rfl rfl),
       st_plain rfl (op_pick _ _ true _ rfl rfl),
       st_plain rfl (op_move _ _ _ _ (congrArg (fun b => AV.v (Value.bool b)) hg5_10) rfl),
       st_skip 10 36 _ true rfl rfl rfl rfl (List.Mem.head _),
       st_skip 10 36 _ true rfl rfl rfl rfl (List.Mem.head _),
       st_plain rfl (op_pick _ _ false _ rfl rfl),
       st_plain rfl (op_move _ _ _ _ rfl rfl),
       st_skip 14 40 _ true rfl rfl rfl rfl (List.Mem.head _),
       st_skip 14 40 _ true rfl rfl rfl rfl (List.Mem.head _),
       st_skip 14 40 _ true rfl rfl rfl rfl (List.Mem.head _),
       st_plain rfl (op_pick _ _ false _ rfl rfl),
       st_plain rfl (op_move _ _ _ _ rfl rfl),
       st_skip 19 45 _ true rfl rfl rfl rfl (List.Mem.head _),
       st_skip 19 45 _ true rfl rfl rfl rfl (List.Mem.head _),
       st_skip 19 45 _ true rfl rfl rfl rfl (List.Mem.head _),
       st_plain rfl (op_pick _ _ false _ rfl rfl),
       st_plain rfl (op_move _ _ _ _ rfl rfl),
       st_skip 24 50 _ true rfl rfl rfl rfl (List.Mem.head _),
       st_skip 24 50 _ true rfl rfl rfl rfl (List.Mem.head _),
       st_plain rfl (op_pick _ _ false _ rfl rfl),
       st_plain rfl (op_move _ _ _ _ rfl rfl),
       st_skip 28 54 _ true rfl rfl rfl rfl (List.Mem.head _),
       st_skip 28 54 _ true rfl rfl rfl rfl (List.Mem.head _),
       st_plain rfl (op_pick _ _ false _ rfl rfl),
       st_plain rfl (op_move _ _ _ _ rfl rfl),
       st_skip 32 58 _ true rfl rfl rfl rfl (List.Mem.head _),
       st_plain rfl (op_pick _ _ false _ rfl rfl),
       st_plain rfl (op_move _ _ _ _ rfl rfl),
       st_skip 35 61 _ true rfl rfl rfl rfl (List.Mem.head _),
       st_skip 35 61 _ true rfl rfl rfl rfl (List.Mem.head _),
       st_plain rfl (op_pick _ _ false _ rfl rfl),
       st_plain rfl (op_move _ _ _ _ rfl rfl),
       st_skip 39 65 _ true rfl rfl rfl rfl (List.Mem.head _),
       st_skip 39 65 _ true rfl rfl rfl rfl (List.Mem.head _),
       st_plain rfl (op_pick _ _ false _ rfl rfl),
       st_plain rfl (op_move _ _ _ _ rfl rfl),
       st_skip 43 69 _ true rfl rfl rfl rfl (List.Mem.head _),
       st_skip 43 69 _ true rfl rfl rfl rfl (List.Mem.head _),
       st_skip 43 69 _ true rfl rfl rfl rfl (List.Mem.head _),
       st_plain rfl (op_pick _ _ false _ rfl rfl),
       st_plain rfl (op_assign _ _ _ _ rfl rfl),
       trivial⟩ ?_
      exact hl11 _ (Option.some.inj h).symm
    ·refine ht_seqR hn (El := (_ :: _ :: _ :: _ :: _ :: _ :: _ :: _ :: (26, .v (.int .i64 v1.2)) :: (27, .v (.bool (v1.2 == 0))) :: (28, .v (.bool true)) :: (29, .v (.int .i64 v2.2)) :: (30, .v (.bool (v2.2 == 0))) :: (31, .v (.bool (v2.2 == 0))) :: (32, .v (.bool false)) :: (33, .v undef) :: (34, .v undef) :: (35, .v (.bool false)) :: (36, .v (.bool false)) :: (37, .v undef) :: (38, .v undef) :: (39, .v (.bool false)) :: (40, .v (.bool false)) :: (41, .v undef) :: (42, .v undef) :: (43, .v undef) :: (44, .v (.bool false)) :: (45, .v (.bool false)) :: (46, .v undef) :: (47, .v undef) :: (48, .v undef) :: (49, .v (.bool false)) :: (50, .v (.bool false)) :: (51, .v undef) :: (52, .v undef) :: (53, .v (.bool false)) :: (54, .v (.bool false)) :: (55, .v undef) :: (56, .v undef) :: (57, .v (.bool false)) :: (58, .v (.bool false)) :: (59, .v undef) :: (60, .v (.bool false)) :: (61, .v (.bool false)) :: (62, .v undef) :: (63, .v undef) :: (64, .v (.bool false)) :: (65, .v (.bool false)) :: (66, .v undef) :: (67, .v undef) :: (68, .v (.bool false)) :: (69, .v (.bool false)) :: (70, .v undef) :: (71, .v undef) :: (72, .v undef) :: (73, .v (.bool false)) :: (0, .v (.bool false)) :: [])) (init := [0, 1, 2, 3, 4, 5, 6, 7]) (fin := [0, 56]) (sps := (⟨[2], [], [8], [(.slot 26)]⟩ :: ⟨[8], [], [9], [(.slot 27)]⟩ :: ⟨[9], [], [10], [(.slot 28)]⟩ :: ⟨[10, 4], [], [11], [(.slot 29)]⟩ :: ⟨[10, 11], [], [12], [(.slot 30)]⟩ :: ⟨[10, 12], [], [13], [(.slot 31)]⟩ :: ⟨[13], [], [14], [(.slot 32)]⟩ :: ⟨[14], [], [15], [(.slot 33)]⟩ :: ⟨[14], [], [16], [(.slot 34)]⟩ :: ⟨[14], [], [17], [(.slot 35)]⟩ :: ⟨[17], [], [18], [(.slot 36)]⟩ :: ⟨[18], [], [19], [(.slot 37)]⟩ :: ⟨[18], [], [20], [(.slot 38)]⟩ :: ⟨[18], [], [21], [(.slot 39)]⟩ :: ⟨[21], [], [22], [(.slot 40)]⟩ :: ⟨[22], [], [23], [(.slot 41)]⟩ :: ⟨[22], [], [24], [(.slot 42)]⟩ :: ⟨[22], [], [25], [(.slot 43)]⟩ :: ⟨[22], [], [26], [(.slot 44)]⟩ :: ⟨[26], [], [27], [(.slot 45)]⟩ :: ⟨[27], [], [28], [(.slot 46)]⟩ :: ⟨[27], [], [29], [(.slot 47)]⟩ :: ⟨[27], [], [30], [(.slot 48)]⟩ :: ⟨[27], [], [31], [(.slot 49)]⟩ :: ⟨[31], [], [32], [(.slot 50)]⟩ :: ⟨[32], [], [33], [(.slot 51)]⟩ :: ⟨[32], [], [34], [(.slot 52)]⟩ :: ⟨[32], [], [35], [(.slot 53)]⟩ :: ⟨[35], [], [36], [(.slot 54)]⟩ :: ⟨[36], [], [37], [(.slot 55)]⟩ :: ⟨[36], [], [38], [(.slot 56)]⟩ :: ⟨[36], [], [39], [(.slot 57)]⟩ :: ⟨[39], [], [40], [(.slot 58)]⟩ :: ⟨[40], [], [41], [(.slot 59)]⟩ :: ⟨[40], [], [42], [(.slot 60)]⟩ :: ⟨[42], [], [43], [(.slot 61)]⟩ :: ⟨[43], [], [44], [(.slot 62)]⟩ :: ⟨[43], [], [45], [(.slot 63)]⟩ :: ⟨[43], [], [46], [(.slot 64)]⟩ :: ⟨[46], [], [47], [(.slot 65)]⟩ :: ⟨[47], [], [48], [(.slot 66)]⟩ :: ⟨[47], [], [49], [(.slot 67)]⟩ :: ⟨[47], [], [50], [(.slot 68)]⟩ :: ⟨[50], [], [51], [(.slot 69)]⟩ :: ⟨[51], [], [52], [(.slot 70)]⟩ :: ⟨[51], [], [53], [(.slot 71)]⟩ :: ⟨[51], [], [54], [(.slot 72)]⟩ :: ⟨[51], [], [55], [(.slot 73)]⟩ :: ⟨[55], [], [56], [(.slot 0)]⟩ :: [])) (es' := [(_, _), (0, .v (.bool false))]) (by kernel_rfl) rfl rfl
      ⟨st_plain rfl (op_move _ _ _ _ rfl rfl),
      st_plain rfl (op_bin _ _ _ _ _ rfl rfl rfl),
      st_plain rfl (op_move _ _ _ _ (congrArg (fun b => AV.v (Value.bool b)) hg5_2) rfl),
      st_run 2 28 true rfl rfl rfl (List.Mem.head _) (op_move _ _ _ _ rfl rfl),
      st_run 2 28 true rfl rfl rfl (List.Mem.head _) (op_bin _ _ _ _ _ rfl rfl rfl),
      st_plain rfl (op_pick _ _ true _ rfl rfl),
      st_plain rfl (op_move _ _ _ _ (congrArg (fun b => AV.v (Value.bool b)) hg5_6) rfl),
      st_skip 6 32 _ true rfl rfl rfl rfl (List.Mem.head _),
      st_skip 6 32 _ true rfl rfl rfl rfl (List.Mem.head _),
      st_plain rfl (op_pick _ _ false _ rfl rfl),
      st_plain rfl (op_move _ _ _ _ rfl rfl),
      st_skip 10 36 _ true rfl rfl rfl rfl (List.Mem.head _),
      st_skip 10 36 _ true rfl rfl rfl rfl (List.Mem.head _),
      st_plain rfl (op_pick _ _ false _ rfl rfl),
      st_plain rfl (op_move _ _ _ _ rfl rfl),
      st_skip 14 40 _ true rfl rfl rfl rfl (List.Mem.head _),
      st_skip 14 40 _ true rfl rfl rfl rfl (List.Mem.head _),
      st_skip 14 40 _ true rfl rfl rfl rfl (List.Mem.head _),
      st_plain rfl (op_pick _ _ false _ rfl rfl),
      st_plain rfl (op_move _ _ _ _ rfl rfl),
      st_skip 19 45 _ true rfl rfl rfl rfl (List.Mem.head _),
      st_skip 19 45 _ true rfl rfl rfl rfl (List.Mem.head _),
      st_skip 19 45 _ true rfl rfl rfl rfl (List.Mem.head _),
      st_plain rfl (op_pick _ _ false _ rfl rfl),
      st_plain rfl (op_move _ _ _ _ rfl rfl),
      st_skip 24 50 _ true rfl rfl rfl rfl (List.Mem.head _),
      st_skip 24 50 _ true rfl rfl rfl rfl (List.Mem.head _),
      st_plain rfl (op_pick _ _ false _ rfl rfl),
      st_plain rfl (op_move _ _ _ _ rfl rfl),
      st_skip 28 54 _ true rfl rfl rfl rfl (List.Mem.head _),
      st_skip 28 54 _ true rfl rfl rfl rfl (List.Mem.head _),
      st_plain rfl (op_pick _ _ false _ rfl rfl),
      st_plain rfl (op_move _ _ _ _ rfl rfl),
      st_skip 32 58 _ true rfl rfl rfl rfl (List.Mem.head _),
      st_plain rfl (op_pick _ _ false _ rfl rfl),
      st_plain rfl (op_move _ _ _ _ rfl rfl),
      st_skip 35 61 _ true rfl rfl rfl rfl (List.Mem.head _),
      st_skip 35 61 _ true rfl rfl rfl rfl (List.Mem.head _),
      st_plain rfl (op_pick _ _ false _ rfl rfl),
      st_plain rfl (op_move _ _ _ _ rfl rfl),
      st_skip 39 65 _ true rfl rfl rfl rfl (List.Mem.head _),
      st_skip 39 65 _ true rfl rfl rfl rfl (List.Mem.head _),
      st_plain rfl (op_pick _ _ false _ rfl rfl),
      st_plain rfl (op_move _ _ _ _ rfl rfl),
      st_skip 43 69 _ true rfl rfl rfl rfl (List.Mem.head _),
      st_skip 43 69 _ true rfl rfl rfl rfl (List.Mem.head _),
      st_skip 43 69 _ true rfl rfl rfl rfl (List.Mem.head _),
      st_plain rfl (op_pick _ _ false _ rfl rfl),
      st_plain rfl (op_assign _ _ _ _ rfl rfl),
      trivial⟩ ?_
     exact hl11 _ (Option.some.inj h).symm
   ·refine ht_seqR hn (El := (_ :: _ :: _ :: _ :: _ :: _ :: _ :: _ :: (26, .v (.int .i64 v1.2)) :: (27, .v (.bool (v1.2 == 0))) :: (28, .v (.bool false)) :: (29, .v undef) :: (30, .v undef) :: (31, .v (.bool false)) :: (32, .v (.bool false)) :: (33, .v undef) :: (34, .v undef) :: (35, .v (.bool false)) :: (36, .v (.bool false)) :: (37, .v undef) :: (38, .v undef) :: (39, .v (.bool false)) :: (40, .v (.bool false)) :: (41, .v undef) :: (42, .v undef) :: (43, .v undef) :: (44, .v (.bool false)) :: (45, .v (.bool false)) :: (46, .v undef) :: (47, .v undef) :: (48, .v undef) :: (49, .v (.bool false)) :: (50, .v (.bool false)) :: (51, .v undef) :: (52, .v undef) :: (53, .v (.bool false)) :: (54, .v (.bool false)) :: (55, .v undef) :: (56, .v undef) :: (57, .v (.bool false)) :: (58, .v (.bool false)) :: (59, .v undef) :: (60, .v (.bool false)) :: (61, .v (.bool false)) :: (62, .v undef) :: (63, .v undef) :: (64, .v (.bool false)) :: (65, .v (.bool false)) :: (66, .v undef) :: (67, .v undef) :: (68, .v (.bool false)) :: (69, .v (.bool false)) :: (70, .v undef) :: (71, .v undef) :: (72, .v undef) :: (73, .v (.bool false)) :: (0, .v (.bool false)) :: [])) (init := [0, 1, 2, 3, 4, 5, 6, 7]) (fin := [0, 56]) (sps := (⟨[2], [], [8], [(.slot 26)]⟩ :: ⟨[8], [], [9], [(.slot 27)]⟩ :: ⟨[9], [], [10], [(.slot 28)]⟩ :: ⟨[10], [], [11], [(.slot 29)]⟩ :: ⟨[10], [], [12], [(.slot 30)]⟩ :: ⟨[10], [], [13], [(.slot 31)]⟩ :: ⟨[13], [], [14], [(.slot 32)]⟩ :: ⟨[14], [], [15], [(.slot 33)]⟩ :: ⟨[14], [], [16], [(.slot 34)]⟩ :: ⟨[14], [], [17], [(.slot 35)]⟩ :: ⟨[17], [], [18], [(.slot 36)]⟩ :: ⟨[18], [], [19], [(.slot 37)]⟩ :: ⟨[18], [], [20], [(.slot 38)]⟩ :: ⟨[18], [], [21], [(.slot 39)]⟩ :: ⟨[21], [], [22], [(.slot 40)]⟩ :: ⟨[22], [], [23], [(.slot 41)]⟩ :: ⟨[22], [], [24], [(.slot 42)]⟩ :: ⟨[22], [], [25], [(.slot 43)]⟩ :: ⟨[22], [], [26], [(.slot 44)]⟩ :: ⟨[26], [], [27], [(.slot 45)]⟩ :: ⟨[27], [], [28], [(.slot 46)]⟩ :: ⟨[27], [], [29], [(.slot 47)]⟩ :: ⟨[27], [], [30], [(.slot 48)]⟩ :: ⟨[27], [], [31], [(.slot 49)]⟩ :: ⟨[31], [], [32], [(.slot 50)]⟩ :: ⟨[32], [], [33], [(.slot 51)]⟩ :: ⟨[32], [], [34], [(.slot 52)]⟩ :: ⟨[32], [], [35], [(.slot 53)]⟩ :: ⟨[35], [], [36], [(.slot 54)]⟩ :: ⟨[36], [], [37], [(.slot 55)]⟩ :: ⟨[36], [], [38], [(.slot 56)]⟩ :: ⟨[36], [], [39], [(.slot 57)]⟩ :: ⟨[39], [], [40], [(.slot 58)]⟩ :: ⟨[40], [], [41], [(.slot 59)]⟩ :: ⟨[40], [], [42], [(.slot 60)]⟩ :: ⟨[42], [], [43], [(.slot 61)]⟩ :: ⟨[43], [], [44], [(.slot 62)]⟩ :: ⟨[43], [], [45], [(.slot 63)]⟩ :: ⟨[43], [], [46], [(.slot 64)]⟩ :: ⟨[46], [], [47], [(.slot 65)]⟩ :: ⟨[47], [], [48], [(.slot 66)]⟩ :: ⟨[47], [], [49], [(.slot 67)]⟩ :: ⟨[47], [], [50], [(.slot 68)]⟩ :: ⟨[50], [], [51], [(.slot 69)]⟩ :: ⟨[51], [], [52], [(.slot 70)]⟩ :: ⟨[51], [], [53], [(.slot 71)]⟩ :: ⟨[51], [], [54], [(.slot 72)]⟩ :: ⟨[51], [], [55], [(.slot 73)]⟩ :: ⟨[55], [], [56], [(.slot 0)]⟩ :: [])) (es' := [(_, _), (0, .v (.bool false))]) (by kernel_rfl) rfl rfl
     ⟨st_plain rfl (op_move _ _ _ _ rfl rfl),
     st_plain rfl (op_bin _ _ _ _ _ rfl rfl rfl),
     st_plain rfl (op_move _ _ _ _ (congrArg (fun b => AV.v (Value.bool b)) hg5_2) rfl),
     st_skip 2 28 _ true rfl rfl rfl rfl (List.Mem.head _),
     st_skip 2 28 _ true rfl rfl rfl rfl (List.Mem.head _),
     st_plain rfl (op_pick _ _ false _ rfl rfl),
     st_plain rfl (op_move _ _ _ _ rfl rfl),
     st_skip 6 32 _ true rfl rfl rfl rfl (List.Mem.head _),
     st_skip 6 32 _ true rfl rfl rfl rfl (List.Mem.head _),
     st_plain rfl (op_pick _ _ false _ rfl rfl),
     st_plain rfl (op_move _ _ _ _ rfl rfl),
     st_skip 10 36 _ true rfl rfl rfl rfl (List.Mem.head _),
     st_skip 10 36 _ true rfl rfl rfl rfl (List.Mem.head _),
     st_plain rfl (op_pick _ _ false _ rfl rfl),
     st_plain rfl (op_move _ _ _ _ rfl rfl),
     st_skip 14 40 _ true rfl rfl rfl rfl (List.Mem.head _),
     st_skip 14 40 _ true rfl rfl rfl rfl (List.Mem.head _),
     st_skip 14 40 _ true rfl rfl rfl rfl (List.Mem.head _),
     st_plain rfl (op_pick _ _ false _ rfl rfl),
     st_plain rfl (op_move _ _ _ _ rfl rfl),
     st_skip 19 45 _ true rfl rfl rfl rfl (List.Mem.head _),
     st_skip 19 45 _ true rfl rfl rfl rfl (List.Mem.head _),
     st_skip 19 45 _ true rfl rfl rfl rfl (List.Mem.head _),
     st_plain rfl (op_pick _ _ false _ rfl rfl),
     st_plain rfl (op_move _ _ _ _ rfl rfl),
     st_skip 24 50 _ true rfl rfl rfl rfl (List.Mem.head _),
     st_skip 24 50 _ true rfl rfl rfl rfl (List.Mem.head _),
     st_plain rfl (op_pick _ _ false _ rfl rfl),
     st_plain rfl (op_move _ _ _ _ rfl rfl),
     st_skip 28 54 _ true rfl rfl rfl rfl (List.Mem.head _),
     st_skip 28 54 _ true rfl rfl rfl rfl (List.Mem.head _),
     st_plain rfl (op_pick _ _ false _ rfl rfl),
     st_plain rfl (op_move _ _ _ _ rfl rfl),
     st_skip 32 58 _ true rfl rfl rfl rfl (List.Mem.head _),
     st_plain rfl (op_pick _ _ false _ rfl rfl),
     st_plain rfl (op_move _ _ _ _ rfl rfl),
     st_skip 35 61 _ true rfl rfl rfl rfl (List.Mem.head _),
     st_skip 35 61 _ true rfl rfl rfl rfl (List.Mem.head _),
     st_plain rfl (op_pick _ _ false _ rfl rfl),
     st_plain rfl (op_move _ _ _ _ rfl rfl),
     st_skip 39 65 _ true rfl rfl rfl rfl (List.Mem.head _),
     st_skip 39 65 _ true rfl rfl rfl rfl (List.Mem.head _),
     st_plain rfl (op_pick _ _ false _ rfl rfl),
     st_plain rfl (op_move _ _ _ _ rfl rfl),
     st_skip 43 69 _ true rfl rfl rfl rfl (List.Mem.head _),
     st_skip 43 69 _ true rfl rfl rfl rfl (List.Mem.head _),
     st_skip 43 69 _ true rfl rfl rfl rfl (List.Mem.head _),
     st_plain rfl (op_pick _ _ false _ rfl rfl),
     st_plain rfl (op_assign _ _ _ _ rfl rfl),
     trivial⟩ ?_
    exact hl11 _ (Option.some.inj h).symm

set_option maxHeartbeats 1000000 in
theorem ok_wherrylaw11_flip (s : ByteArray) (flips : (List Bool)) (r : ByteArray) (h : Sh.wherrylaw11_flip s flips = some r) : FnOK Tryd.prog 25 [.v (.string s), .fl .shr 1 (List.map Value.bool flips)] (.v (.string r)) := by
  unfold Sh.wherrylaw11_flip at h
  refine fn_ok Tryd.func25 rfl (Nat.le_of_ble_eq_true rfl) rfl rfl fun g0 hn hio => ?_
  refine ht_seq ?_
  refine ht_seqR hn (El := [_, _, (4, .v (.string (⟨#[]⟩ : ByteArray)))]) (init := [0, 1]) (fin := [0, 1]) (sps := [⟨[], [], [2], [(.slot 4)]⟩]) (es' := [(_, _), (_, _)]) (by kernel_rfl) rfl rfl
   ⟨st_plain rfl (op_assign _ _ _ _ rfl rfl),
   trivial⟩ ?_
  refine pt_then ?_
  refine ht_seq ?_
  obtain ⟨v1, hv1, h⟩ := bind_some h
  refine ht_seqR hn (El := [_, _, (7, .v (.string s)), (8, .mkr 5 (List.map (Value.int .u8) v1)), (5, .mkr 5 (List.map (Value.int .u8) v1))]) (init := [0, 1]) (fin := [1, 4]) (sps := [⟨[0], [], [2], [(.slot 7)]⟩, ⟨[2], [], [3], [(.slot 8)]⟩, ⟨[], [3], [4], [(.slot 5)]⟩]) (es' := [(_, _), (5, .mkr 5 (List.map (Value.int .u8) v1))]) (by kernel_rfl) rfl rfl
   ⟨st_plain rfl (op_move _ _ _ _ rfl rfl),
   st_plain rfl ((Option.some.inj hv1) ▸ op_str_mk _ _ _ s Tryd.underlying9 Tryd.underlying43 Tryd.underlying5 rfl),
   st_plain rfl (op_assign_take _ _ _ _ rfl),
   trivial⟩ ?_
  refine pt_then ?_
  refine ht_seq ?_
  refine ht_seq ?_
  refine ht_seqR hn (El := [_, _, (6, .v (.int .i64 0))]) (init := [0, 1]) (fin := [0, 1, 2]) (sps := [⟨[], [], [2], [(.slot 6)]⟩]) (es' := [(_, _), (_, _), (6, .v (.int .i64 0))]) (by kernel_rfl) rfl rfl
   ⟨st_plain rfl (op_assign _ _ _ _ rfl rfl),
   trivial⟩ ?_
  refine pt_then ?_
  refine ht_loopS h (fun ((s54, s55) : (List Int) × Int) => [(1, .fl .shr 1 (List.map Value.bool flips)), (5, .mkr 5 (List.map (Value.int .u8) s54)), (6, .v (.int .i64 s55))]) (fun (s71 : (List Int)) => [(5, .mkr 5 (List.map (Value.int .u8) s71))]) ?_ ?_
  ·rintro s71 h
   refine pt_then ?_
   refine ht_seq ?_
   obtain ⟨v93, hv93, h⟩ := bind_some h
   refine ht_seqR hn (El := [_, (61, .mkr 5 (List.map (Value.int .u8) s71)), (62, .v (.string v93)), (4, .v (.string v93))]) (init := [0]) (fin := [3]) (sps := [⟨[], [0], [1], [(.slot 61)]⟩, ⟨[1], [], [2], [(.slot 62)]⟩, ⟨[2], [], [3], [(.slot 4)]⟩]) (es' := [(4, .v (.string v93))]) (by kernel_rfl) rfl rfl
    ⟨st_plain rfl (op_move_take _ _ _ _ rfl),
    st_plain rfl ((Option.some.inj hv93) ▸ op_mk_str _ _ _ s71 Tryd.underlying43 Tryd.underlying9 Tryd.underlying5 rfl),
    st_plain rfl (op_assign _ _ _ _ rfl rfl),
    trivial⟩ ?_
   refine pt_then ?_
   refine ht_ret ?_
   obtain rfl := Option.some.inj h
   exact pt_ret hio rfl (.tmp _ _ .nil) rfl rfl
  ·rintro u72 hl73 hr74 ⟨s54, s55⟩ rr77 h ho75
   refine ht_seq ?_
   refine ht_seq ?_
   refine ht_seqR hn (El := [_, _, _, (9, .v (.int .i64 s55)), (10, .same (.slot 5)), (11, .v (.int .i64 (s54.length : Int))), (12, .v (.bool ((decide (s55 < (s54.length : Int))))))]) (init := [0, 1, 2]) (fin := [0, 1, 2, 6]) (sps := [⟨[2], [], [3], [(.slot 9)]⟩, ⟨[1], [], [4], [(.slot 10)]⟩, ⟨[4, 1], [], [5], [(.slot 11)]⟩, ⟨[3, 5], [], [6], [(.slot 12)]⟩]) (es' := [(_, _), (_, _), (_, _), (12, .v (.bool ((decide (s55 < (s54.length : Int))))))]) (by kernel_rfl) rfl rfl
    ⟨st_plain rfl (op_move _ _ _ _ rfl rfl),
    st_plain rfl (op_move _ _ _ _ rfl rfl),
    st_plain rfl (op_len_mk _ _ _ Tryd.underlying43 rfl (List.length_map _)),
    st_plain rfl (op_bin _ _ _ _ _ rfl rfl rfl),
    trivial⟩ ?_
   refine pt_then ?_
   refine ht_cond _ rfl (fun hb78 => ?_) (fun hb78 => ?_)
   ·have h := cond_t hb78 h
    refine ht_skip ?_
    refine pt_then ?_
    refine ht_seq ?_
    refine ht_joinS h (fun (s84 : (List Int)) => [(1, .fl .shr 1 (List.map Value.bool flips)), (5, .mkr 5 (List.map (Value.int .u8) s84)), (6, .v (.int .i64 s55))]) ?_ ?_
    ·rintro s84 h
     refine pt_then ?_
     obtain ⟨v36, hv36, h⟩ := bind_some h
     refine ht_seqR hn (El := [_, _, _, (13, .v (.int .i64 s55)), (14, .v (.int .i64 v36)), (6, .v (.int .i64 v36))]) (init := [0, 1, 2]) (fin := [0, 1, 5]) (sps := [⟨[2], [], [3], [(.slot 13)]⟩, ⟨[3], [], [4], [(.slot 14)]⟩, ⟨[4], [2], [5], [(.slot 6)]⟩]) (es' := [(_, _), (_, _), (6, .v (.int .i64 v36))]) (by kernel_rfl) rfl rfl
      ⟨st_plain rfl (op_move _ _ _ _ rfl rfl),
      st_plain rfl (op_bin _ _ _ _ _ rfl rfl (ibind (f := Value.int .i64) (Option.some.inj hv36))),
      st_plain rfl (LOp.drop [_] (op_assign _ _ _ _ rfl rfl)),
      trivial⟩ ?_
     exact pt_next _ (Option.some.inj h).symm rfl
    ·intro u85 h hl86 hr87
     refine ht_block ?_
     refine ht_seq ?_
     refine ht_joinS h (fun (s88 : Bool) => [(1, .fl .shr 1 (List.map Value.bool flips)), (5, .mkr 5 (List.map (Value.int .u8) s54)), (6, .v (.int .i64 s55)), (52, .v (.bool s88))]) ?_ ?_
     ·rintro s88 h
      refine pt_then ?_
      refine ht_cond _ rfl (fun hb92 => ?_) (fun hb92 => ?_)
      ·have h := cond_t hb92 h
       obtain ⟨v22, hv22, h⟩ := bind_some h
       obtain ⟨v23, hv23, h⟩ := bind_some h
       obtain ⟨v24, hv24, h⟩ := bind_some h
       obtain ⟨v25, hv25, h⟩ := bind_some h
       obtain ⟨v26, hv26, h⟩ := bind_some h
       refine ht_seqR hn (El := [_, _, _, _, (53, .same (.slot 5)), (54, .v (.int .i64 s55)), (55, .same (.slot 5)), (56, .v (.int .i64 s55)), (57, .eref (.slot 5) (v22 * 1)), (58, .v (.int .u8 v23)), (59, .v (.int .u8 v24)), (60, .eref (.slot 5) (v25 * 1)), (5, .mkr 5 (List.map (Value.int .u8) v26))]) (init := [0, 1, 2, 3]) (fin := [0, 12, 2]) (sps := [⟨[1], [], [4], [(.slot 53)]⟩, ⟨[2], [], [5], [(.slot 54)]⟩, ⟨[1], [], [6], [(.slot 55)]⟩, ⟨[2], [], [7], [(.slot 56)]⟩, ⟨[6, 1, 7], [], [8], [(.slot 57)]⟩, ⟨[8, 1], [], [9], [(.slot 58)]⟩, ⟨[9], [], [10], [(.slot 59)]⟩, ⟨[4, 1, 5], [], [11], [(.slot 60)]⟩, ⟨[11, 10], [1], [12], []⟩]) (es' := [(_, _), (5, .mkr 5 (List.map (Value.int .u8) v26)), (_, _)]) (by kernel_rfl) rfl rfl
        ⟨st_plain rfl (op_move _ _ _ _ rfl rfl),
        st_plain rfl (op_move _ _ _ _ rfl rfl),
        st_plain rfl (op_move _ _ _ _ rfl rfl),
        st_plain rfl (op_move _ _ _ _ rfl rfl),
        st_plain rfl (op_ix_mk _ _ _ _ _ _ _ Tryd.underlying43 sz5 rfl rfl rfl (ix_ok hv22).1 (mk_lt' (ix_ok hv22).2) rfl),
        st_plain rfl (op_load_mk _ _ _ _ _ _ Tryd.underlying5 rfl rfl rfl (map_get hv23)),
        st_plain rfl (op_bin _ _ _ _ _ rfl rfl (ibind (f := Value.int .u8) (Option.some.inj hv24))),
        st_plain rfl (op_ix_mk _ _ _ _ _ _ _ Tryd.underlying43 sz5 rfl rfl rfl (ix_ok hv25).1 (mk_lt' (ix_ok hv25).2) rfl),
        st_plain rfl (op_store_mk _ _ _ _ _ _ _ sz5 rfl rfl rfl (mk_lt (ix_ok hv25).2) (mk_set (f := Value.int .u8) (Option.some.inj hv26))),
        trivial⟩ ?_
       refine pt_inb ?_
       exact hl86 _ (Option.some.inj h).symm
      ·have h := cond_f hb92 h
       refine ht_skip ?_
       refine pt_inb ?_
       refine pt_pick [0, 1, 2] (by kernel_rfl) (es' := [(_, _), (_, _), (_, _)]) rfl ?_
       exact hl86 _ (Option.some.inj h).symm
     ·intro u89 h hl90 hr91
      refine cond_some h (fun hg5_4 h => ?_) (fun hg5_4 h => ?_)
      ·obtain ⟨v3, hv3, h⟩ := bind_some h
       obtain ⟨v4, hv4, h⟩ := bind_some h
       refine cond_some h (fun hg5_10 h => ?_) (fun hg5_10 h => ?_)
       ·obtain ⟨v5, hv5, h⟩ := bind_some h
        obtain ⟨v6, hv6, h⟩ := bind_some h
        refine cond_some h (fun hg5_16 h => ?_) (fun hg5_16 h => ?_)
        ·obtain ⟨v7, hv7, h⟩ := bind_some h
         obtain ⟨v8, hv8, h⟩ := bind_some h
         refine cond_some h (fun hg5_23 h => ?_) (fun hg5_23 h => ?_)
         ·refine ht_seqR hn (El := (_ :: _ :: _ :: _ :: (15, .v (.int .i64 s55)) :: (16, .fl .shr 1 (List.map Value.bool flips)) :: (17, .v (.int .i64 (flips.length : Int))) :: (18, .v (.bool ((decide (s55 < (flips.length : Int)))))) :: (19, .v (.bool true)) :: (20, .fl .shr 1 (List.map Value.bool flips)) :: (21, .v (.int .i64 s55)) :: (22, .eref (.slot 20) (v3 * 1)) :: (23, .v (.bool v4)) :: (24, .v (.bool v4)) :: (25, .v (.bool true)) :: (26, .same (.slot 5)) :: (27, .v (.int .i64 s55)) :: (28, .eref (.slot 5) (v5 * 1)) :: (29, .v (.int .u8 v6)) :: (30, .v (.bool ((decide (97 ≤ v6))))) :: (31, .v (.bool true)) :: (32, .same (.slot 5)) :: (33, .v (.int .i64 s55)) :: (34, .eref (.slot 5) (v7 * 1)) :: (35, .v (.int .u8 v8)) :: (36, .v (.bool ((decide (v8 ≤ 122))))) :: (37, .v (.bool ((decide (v8 ≤ 122))))) :: (38, .v (.bool true)) :: (39, .v undef) :: (40, .v undef) :: (41, .v undef) :: (42, .v undef) :: (43, .v undef) :: (44, .v undef) :: (45, .v undef) :: (46, .v undef) :: (47, .v undef) :: (48, .v undef) :: (49, .v undef) :: (50, .v undef) :: (51, .v (.bool true)) :: (52, .v (.bool true)) :: [])) (init := [0, 1, 2, 3]) (fin := [0, 1, 2, 41]) (sps := (⟨[2], [], [4], [(.slot 15)]⟩ :: ⟨[0], [], [5], [(.slot 16)]⟩ :: ⟨[5], [], [6], [(.slot 17)]⟩ :: ⟨[4, 6], [], [7], [(.slot 18)]⟩ :: ⟨[7], [], [8], [(.slot 19)]⟩ :: ⟨[8, 0], [], [9], [(.slot 20)]⟩ :: ⟨[8, 2], [], [10], [(.slot 21)]⟩ :: ⟨[8, 9, 10], [], [11], [(.slot 22)]⟩ :: ⟨[8, 11, 9], [], [12], [(.slot 23)]⟩ :: ⟨[8, 12], [], [13], [(.slot 24)]⟩ :: ⟨[13], [], [14], [(.slot 25)]⟩ :: ⟨[14, 1], [], [15], [(.slot 26)]⟩ :: ⟨[14, 2], [], [16], [(.slot 27)]⟩ :: ⟨[14, 15, 1, 16], [], [17], [(.slot 28)]⟩ :: ⟨[14, 17, 1], [], [18], [(.slot 29)]⟩ :: ⟨[14, 18], [], [19], [(.slot 30)]⟩ :: ⟨[14, 19], [], [20], [(.slot 31)]⟩ :: ⟨[20, 1], [], [21], [(.slot 32)]⟩ :: ⟨[20, 2], [], [22], [(.slot 33)]⟩ :: ⟨[20, 21, 1, 22], [], [23], [(.slot 34)]⟩ :: ⟨[20, 23, 1], [], [24], [(.slot 35)]⟩ :: ⟨[20, 24], [], [25], [(.slot 36)]⟩ :: ⟨[14, 20, 25], [], [26], [(.slot 37)]⟩ :: ⟨[14, 26], [], [27], [(.slot 38)]⟩ :: ⟨[27], [], [28], [(.slot 39)]⟩ :: ⟨[27], [], [29], [(.slot 40)]⟩ :: ⟨[27], [], [30], [(.slot 41)]⟩ :: ⟨[27], [], [31], [(.slot 42)]⟩ :: ⟨[27], [], [32], [(.slot 43)]⟩ :: ⟨[27], [], [33], [(.slot 44)]⟩ :: ⟨[33], [], [34], [(.slot 45)]⟩ :: ⟨[33], [], [35], [(.slot 46)]⟩ :: ⟨[33], [], [36], [(.slot 47)]⟩ :: ⟨[33], [], [37], [(.slot 48)]⟩ :: ⟨[33], [], [38], [(.slot 49)]⟩ :: ⟨[27], [], [39], [(.slot 50)]⟩ :: ⟨[14, 27], [], [40], [(.slot 51)]⟩ :: ⟨[14, 40], [], [41], [(.slot 52)]⟩ :: [])) (es' := [(_, _), (_, _), (_, _), (52, .v (.bool true))]) (by kernel_rfl) rfl rfl
           ⟨st_plain rfl (op_move _ _ _ _ rfl rfl),
           st_plain rfl (op_move _ _ _ _ rfl rfl),
           st_plain rfl (op_len_fl _ _ _ Tryd.underlying40 rfl (by decide) (map_len _)),
           st_plain rfl (op_bin _ _ _ _ _ rfl rfl rfl),
           st_plain rfl (op_move _ _ _ _ (congrArg (fun b => AV.v (Value.bool b)) hg5_4) rfl),
           st_run 4 19 true rfl rfl rfl (List.Mem.head _) (op_move _ _ _ _ rfl rfl),
           st_run 4 19 true rfl rfl rfl (List.Mem.head _) (op_move _ _ _ _ rfl rfl),
           st_run 4 19 true rfl rfl rfl (List.Mem.head _) (op_ix _ _ _ _ _ _ _ _ Tryd.underlying40 sz4 (by decide) rfl rfl rfl (ix_ok hv3).1 (map_lt (ix_ok hv3).2) rfl),
           st_run 4 19 true rfl rfl rfl (List.Mem.head _) (op_load_e _ _ _ _ _ _ Tryd.underlying4 rfl rfl rfl (map_get hv4)),
           st_plain rfl (op_pick _ _ true _ rfl rfl),
           st_plain rfl (op_move _ _ _ _ (congrArg (fun b => AV.v (Value.bool b)) hg5_10) rfl),
           st_run 10 25 true rfl rfl rfl (List.Mem.head _) (op_move _ _ _ _ rfl rfl),
           st_run 10 25 true rfl rfl rfl (List.Mem.head _) (op_move _ _ _ _ rfl rfl),
           st_run 10 25 true rfl rfl rfl (List.Mem.head _) (op_ix_mk _ _ _ _ _ _ _ Tryd.underlying43 sz5 rfl rfl rfl (ix_ok hv5).1 (mk_lt' (ix_ok hv5).2) rfl),
           st_run 10 25 true rfl rfl rfl (List.Mem.head _) (op_load_mk _ _ _ _ _ _ Tryd.underlying5 rfl rfl rfl (map_get hv6)),
           st_run 10 25 true rfl rfl rfl (List.Mem.head _) (op_bin _ _ _ _ _ rfl rfl rfl),
           st_run 10 25 true rfl rfl rfl (List.Mem.head _) (op_move _ _ _ _ (congrArg (fun b => AV.v (Value.bool b)) hg5_16) rfl),
           st_run 16 31 true rfl rfl rfl (List.Mem.head _) (op_move _ _ _ _ rfl rfl),
           st_run 16 31 true rfl rfl rfl (List.Mem.head _) (op_move _ _ _ _ rfl rfl),
           st_run 16 31 true rfl rfl rfl (List.Mem.head _) (op_ix_mk _ _ _ _ _ _ _ Tryd.underlying43 sz5 rfl rfl rfl (ix_ok hv7).1 (mk_lt' (ix_ok hv7).2) rfl),
           st_run 16 31 true rfl rfl rfl (List.Mem.head _) (op_load_mk _ _ _ _ _ _ Tryd.underlying5 rfl rfl rfl (map_get hv8)),
           st_run 16 31 true rfl rfl rfl (List.Mem.head _) (op_bin _ _ _ _ _ rfl rfl rfl),
           st_run 10 25 true rfl rfl rfl (List.Mem.head _) (op_pick _ _ true _ rfl rfl),
           st_run 10 25 true rfl rfl rfl (List.Mem.head _) (op_move _ _ _ _ (congrArg (fun b => AV.v (Value.bool b)) hg5_23) rfl),
           st_skip 23 38 _ false rfl rfl rfl rfl (List.Mem.head _),
           st_skip 23 38 _ false rfl rfl rfl rfl (List.Mem.head _),
           st_skip 23 38 _ false rfl rfl rfl rfl (List.Mem.head _),
           st_skip 23 38 _ false rfl rfl rfl rfl (List.Mem.head _),
           st_skip 23 38 _ false rfl rfl rfl rfl (List.Mem.head _),
           st_skip 23 38 _ false rfl rfl rfl rfl (List.Mem.head _),
           st_skipU 29 44 _ true rfl rfl rfl rfl (List.Mem.head _),
           st_skipU 29 44 _ true rfl rfl rfl rfl (List.Mem.head _),
           st_skipU 29 44 _ true rfl rfl rfl rfl (List.Mem.head _),
           st_skipU 29 44 _ true rfl rfl rfl rfl (List.Mem.head _),
           st_skipU 29 44 _ true rfl rfl rfl rfl (List.Mem.head _),
           st_skip 23 38 _ false rfl rfl rfl rfl (List.Mem.head _),
           st_run 10 25 true rfl rfl rfl (List.Mem.head _) (op_pick _ _ true _ rfl rfl),
           st_plain rfl (op_pick _ _ true _ rfl rfl),
           trivial⟩ ?_
          exact hl90 _ (Option.some.inj h).symm
         ·obtain ⟨v9, hv9, h⟩ := bind_some h
          obtain ⟨v10, hv10, h⟩ := bind_some h
          refine cond_some h (fun hg5_29 h => ?_) (fun hg5_29 h => ?_)
          ·obtain ⟨v11, hv11, h⟩ := bind_some h
           obtain ⟨v12, hv12, h⟩ := bind_some h
           refine ht_seqR hn (El := (_ :: _ :: _ :: _ :: (15, .v (.int .i64 s55)) :: (16, .fl .shr 1 (List.map Value.bool flips)) :: (17, .v (.int .i64 (flips.length : Int))) :: (18, .v (.bool ((decide (s55 < (flips.length : Int)))))) :: (19, .v (.bool true)) :: (20, .fl .shr 1 (List.map Value.bool flips)) :: (21, .v (.int .i64 s55)) :: (22, .eref (.slot 20) (v3 * 1)) :: (23, .v (.bool v4)) :: (24, .v (.bool v4)) :: (25, .v (.bool true)) :: (26, .same (.slot 5)) :: (27, .v (.int .i64 s55)) :: (28, .eref (.slot 5) (v5 * 1)) :: (29, .v (.int .u8 v6)) :: (30, .v (.bool ((decide (97 ≤ v6))))) :: (31, .v (.bool true)) :: (32, .same (.slot 5)) :: (33, .v (.int .i64 s55)) :: (34, .eref (.slot 5) (v7 * 1)) :: (35, .v (.int .u8 v8)) :: (36, .v (.bool ((decide (v8 ≤ 122))))) :: (37, .v (.bool ((decide (v8 ≤ 122))))) :: (38, .v (.bool false)) :: (39, .same (.slot 5)) :: (40, .v (.int .i64 s55)) :: (41, .eref (.slot 5) (v9 * 1)) :: (42, .v (.int .u8 v10)) :: (43, .v (.bool ((decide (65 ≤ v10))))) :: (44, .v (.bool true)) :: (45, .same (.slot 5)) :: (46, .v (.int .i64 s55)) :: (47, .eref (.slot 5) (v11 * 1)) :: (48, .v (.int .u8 v12)) :: (49, .v (.bool ((decide (v12 ≤ 90))))) :: (50, .v (.bool ((decide (v12 ≤ 90))))) :: (51, .v (.bool ((decide (v12 ≤ 90))))) :: (52, .v (.bool ((decide (v12 ≤ 90))))) :: [])) (init := [0, 1, 2, 3]) (fin := [0, 1, 2, 41]) (sps := (⟨[2], [], [4], [(.slot 15)]⟩ :: ⟨[0], [], [5], [(.slot 16)]⟩ :: ⟨[5], [], [6], [(.slot 17)]⟩ :: ⟨[4, 6], [], [7], [(.slot 18)]⟩ :: ⟨[7], [], [8], [(.slot 19)]⟩ :: ⟨[8, 0], [], [9], [(.slot 20)]⟩ :: ⟨[8, 2], [], [10], [(.slot 21)]⟩ :: ⟨[8, 9, 10], [], [11], [(.slot 22)]⟩ :: ⟨[8, 11, 9], [], [12], [(.slot 23)]⟩ :: ⟨[8, 12], [], [13], [(.slot 24)]⟩ :: ⟨[13], [], [14], [(.slot 25)]⟩ :: ⟨[14, 1], [], [15], [(.slot 26)]⟩ :: ⟨[14, 2], [], [16], [(.slot 27)]⟩ :: ⟨[14, 15, 1, 16], [], [17], [(.slot 28)]⟩ :: ⟨[14, 17, 1], [], [18], [(.slot 29)]⟩ :: ⟨[14, 18], [], [19], [(.slot 30)]⟩ :: ⟨[14, 19], [], [20], [(.slot 31)]⟩ :: ⟨[20, 1], [], [21], [(.slot 32)]⟩ :: ⟨[20, 2], [], [22], [(.slot 33)]⟩ :: ⟨[20, 21, 1, 22], [], [23], [(.slot 34)]⟩ :: ⟨[20, 23, 1], [], [24], [(.slot 35)]⟩ :: ⟨[20, 24], [], [25], [(.slot 36)]⟩ :: ⟨[14, 20, 25], [], [26], [(.slot 37)]⟩ :: ⟨[14, 26], [], [27], [(.slot 38)]⟩ :: ⟨[27, 1], [], [28], [(.slot 39)]⟩ :: ⟨[27, 2], [], [29], [(.slot 40)]⟩ :: ⟨[27, 28, 1, 29], [], [30], [(.slot 41)]⟩ :: ⟨[27, 30, 1], [], [31], [(.slot 42)]⟩ :: ⟨[27, 31], [], [32], [(.slot 43)]⟩ :: ⟨[27, 32], [], [33], [(.slot 44)]⟩ :: ⟨[33, 1], [], [34], [(.slot 45)]⟩ :: ⟨[33, 2], [], [35], [(.slot 46)]⟩ :: ⟨[33, 34, 1, 35], [], [36], [(.slot 47)]⟩ :: ⟨[33, 36, 1], [], [37], [(.slot 48)]⟩ :: ⟨[33, 37], [], [38], [(.slot 49)]⟩ :: ⟨[27, 33, 38], [], [39], [(.slot 50)]⟩ :: ⟨[14, 27, 39], [], [40], [(.slot 51)]⟩ :: ⟨[14, 40], [], [41], [(.slot 52)]⟩ :: [])) (es' := [(_, _), (_, _), (_, _), (52, .v (.bool ((decide (v12 ≤ 90)))))]) (by kernel_rfl) rfl rfl
            ⟨st_plain rfl (op_move _ _ _ _ rfl rfl),
            st_plain rfl (op_move _ _ _ _ rfl rfl),
            st_plain rfl (op_len_fl _ _ _ Tryd.underlying40 rfl (by decide) (map_len _)),
            st_plain rfl (op_bin _ _ _ _ _ rfl rfl rfl),
            st_plain rfl (op_move _ _ _ _ (congrArg (fun b => AV.v (Value.bool b)) hg5_4) rfl),
            st_run 4 19 true rfl rfl rfl (List.Mem.head _) (op_move _ _ _ _ rfl rfl),
            st_run 4 19 true rfl rfl rfl (List.Mem.head _) (op_move _ _ _ _ rfl rfl),
            st_run 4 19 true rfl rfl rfl (List.Mem.head _) (op_ix _ _ _ _ _ _ _ _ Tryd.underlying40 sz4 (by decide) rfl rfl rfl (ix_ok hv3).1 (map_lt (ix_ok hv3).2) rfl),
            st_run 4 19 true rfl rfl rfl (List.Mem.head _) (op_load_e _ _ _ _ _ _ Tryd.underlying4 rfl rfl rfl (map_get hv4)),
            st_plain rfl (op_pick _ _ true _ rfl rfl),
            st_plain rfl (op_move _ _ _ _ (congrArg (fun b => AV.v (Value.bool b)) hg5_10) rfl),
            st_run 10 25 true rfl rfl rfl (List.Mem.head _) (op_move _ _ _ _ rfl rfl),
            st_run 10 25 true rfl rfl rfl (List.Mem.head _) (op_move _ _ _ _ rfl rfl),
            st_run 10 25 true rfl rfl rfl (List.Mem.head _) (op_ix_mk _ _ _ _ _ _ _ Tryd.underlying43 sz5 rfl rfl rfl (ix_ok hv5).1 (mk_lt' (ix_ok hv5).2) rfl),
            st_run 10 25 true rfl rfl rfl (List.Mem.head _) (op_load_mk _ _ _ _ _ _ Tryd.underlying5 rfl rfl rfl (map_get hv6)),
            st_run 10 25 true rfl rfl rfl (List.Mem.head _) (op_bin _ _ _ _ _ rfl rfl rfl),
            st_run 10 25 true rfl rfl rfl (List.Mem.head _) (op_move _ _ _ _ (congrArg (fun b => AV.v (Value.bool b)) hg5_16) rfl),
            st_run 16 31 true rfl rfl rfl (List.Mem.head _) (op_move _ _ _ _ rfl rfl),
            st_run 16 31 true rfl rfl rfl (List.Mem.head _) (op_move _ _ _ _ rfl rfl),
            st_run 16 31 true rfl rfl rfl (List.Mem.head _) (op_ix_mk _ _ _ _ _ _ _ Tryd.underlying43 sz5 rfl rfl rfl (ix_ok hv7).1 (mk_lt' (ix_ok hv7).2) rfl),
            st_run 16 31 true rfl rfl rfl (List.Mem.head _) (op_load_mk _ _ _ _ _ _ Tryd.underlying5 rfl rfl rfl (map_get hv8)),
            st_run 16 31 true rfl rfl rfl (List.Mem.head _) (op_bin _ _ _ _ _ rfl rfl rfl),
            st_run 10 25 true rfl rfl rfl (List.Mem.head _) (op_pick _ _ true _ rfl rfl),
            st_run 10 25 true rfl rfl rfl (List.Mem.head _) (op_move _ _ _ _ (congrArg (fun b => AV.v (Value.bool b)) hg5_23) rfl),
            st_run 23 38 false rfl rfl rfl (List.Mem.head _) (op_move _ _ _ _ rfl rfl),
            st_run 23 38 false rfl rfl rfl (List.Mem.head _) (op_move _ _ _ _ rfl rfl),
            st_run 23 38 false rfl rfl rfl (List.Mem.head _) (op_ix_mk _ _ _ _ _ _ _ Tryd.underlying43 sz5 rfl rfl rfl (ix_ok hv9).1 (mk_lt' (ix_ok hv9).2) rfl),
            st_run 23 38 false rfl rfl rfl (List.Mem.head _) (op_load_mk _ _ _ _ _ _ Tryd.underlying5 rfl rfl rfl (map_get hv10)),
            st_run 23 38 false rfl rfl rfl (List.Mem.head _) (op_bin _ _ _ _ _ rfl rfl rfl),
            st_run 23 38 false rfl rfl rfl (List.Mem.head _) (op_move _ _ _ _ (congrArg (fun b => AV.v (Value.bool b)) hg5_29) rfl),
            st_run 29 44 true rfl rfl rfl (List.Mem.head _) (op_move _ _ _ _ rfl rfl),
            st_run 29 44 true rfl rfl rfl (List.Mem.head _) (op_move _ _ _ _ rfl rfl),
            st_run 29 44 true rfl rfl rfl (List.Mem.head _) (op_ix_mk _ _ _ _ _ _ _ Tryd.underlying43 sz5 rfl rfl rfl (ix_ok hv11).1 (mk_lt' (ix_ok hv11).2) rfl),
            st_run 29 44 true rfl rfl rfl (List.Mem.head _) (op_load_mk _ _ _ _ _ _ Tryd.underlying5 rfl rfl rfl (map_get hv12)),
            st_run 29 44 true rfl rfl rfl (List.Mem.head _) (op_bin _ _ _ _ _ rfl rfl rfl),
            st_run 23 38 false rfl rfl rfl (List.Mem.head _) (op_pick _ _ true _ rfl rfl),
            st_run 10 25 true rfl rfl rfl (List.Mem.head _) (op_pick _ _ false _ rfl rfl),
            st_plain rfl (op_pick _ _ true _ rfl rfl),
            trivial⟩ ?_
           exact hl90 _ (Option.some.inj h).symm
          ·refine ht_seqR hn (El := (_ :: _ :: _ :: _ :: (15, .v (.int .i64 s55)) :: (16, .fl .shr 1 (List.map Value.bool flips)) :: (17, .v (.int .i64 (flips.length : Int))) :: (18, .v (.bool ((decide (s55 < (flips.length : Int)))))) :: (19, .v (.bool true)) :: (20, .fl .shr 1 (List.map Value.bool flips)) :: (21, .v (.int .i64 s55)) :: (22, .eref (.slot 20) (v3 * 1)) :: (23, .v (.bool v4)) :: (24, .v (.bool v4)) :: (25, .v (.bool true)) :: (26, .same (.slot 5)) :: (27, .v (.int .i64 s55)) :: (28, .eref (.slot 5) (v5 * 1)) :: (29, .v (.int .u8 v6)) :: (30, .v (.bool ((decide (97 ≤ v6))))) :: (31, .v (.bool true)) :: (32, .same (.slot 5)) :: (33, .v (.int .i64 s55)) :: (34, .eref (.slot 5) (v7 * 1)) :: (35, .v (.int .u8 v8)) :: (36, .v (.bool ((decide (v8 ≤ 122))))) :: (37, .v (.bool ((decide (v8 ≤ 122))))) :: (38, .v (.bool false)) :: (39, .same (.slot 5)) :: (40, .v (.int .i64 s55)) :: (41, .eref (.slot 5) (v9 * 1)) :: (42, .v (.int .u8 v10)) :: (43, .v (.bool ((decide (65 ≤ v10))))) :: (44, .v (.bool false)) :: (45, .v undef) :: (46, .v undef) :: (47, .v undef) :: (48, .v undef) :: (49, .v undef) :: (50, .v (.bool false)) :: (51, .v (.bool false)) :: (52, .v (.bool false)) :: [])) (init := [0, 1, 2, 3]) (fin := [0, 1, 2, 41]) (sps := (⟨[2], [], [4], [(.slot 15)]⟩ :: ⟨[0], [], [5], [(.slot 16)]⟩ :: ⟨[5], [], [6], [(.slot 17)]⟩ :: ⟨[4, 6], [], [7], [(.slot 18)]⟩ :: ⟨[7], [], [8], [(.slot 19)]⟩ :: ⟨[8, 0], [], [9], [(.slot 20)]⟩ :: ⟨[8, 2], [], [10], [(.slot 21)]⟩ :: ⟨[8, 9, 10], [], [11], [(.slot 22)]⟩ :: ⟨[8, 11, 9], [], [12], [(.slot 23)]⟩ :: ⟨[8, 12], [], [13], [(.slot 24)]⟩ :: ⟨[13], [], [14], [(.slot 25)]⟩ :: ⟨[14, 1], [], [15], [(.slot 26)]⟩ :: ⟨[14, 2], [], [16], [(.slot 27)]⟩ :: ⟨[14, 15, 1, 16], [], [17], [(.slot 28)]⟩ :: ⟨[14, 17, 1], [], [18], [(.slot 29)]⟩ :: ⟨[14, 18], [], [19], [(.slot 30)]⟩ :: ⟨[14, 19], [], [20], [(.slot 31)]⟩ :: ⟨[20, 1], [], [21], [(.slot 32)]⟩ :: ⟨[20, 2], [], [22], [(.slot 33)]⟩ :: ⟨[20, 21, 1, 22], [], [23], [(.slot 34)]⟩ :: ⟨[20, 23, 1], [], [24], [(.slot 35)]⟩ :: ⟨[20, 24], [], [25], [(.slot 36)]⟩ :: ⟨[14, 20, 25], [], [26], [(.slot 37)]⟩ :: ⟨[14, 26], [], [27], [(.slot 38)]⟩ :: ⟨[27, 1], [], [28], [(.slot 39)]⟩ :: ⟨[27, 2], [], [29], [(.slot 40)]⟩ :: ⟨[27, 28, 1, 29], [], [30], [(.slot 41)]⟩ :: ⟨[27, 30, 1], [], [31], [(.slot 42)]⟩ :: ⟨[27, 31], [], [32], [(.slot 43)]⟩ :: ⟨[27, 32], [], [33], [(.slot 44)]⟩ :: ⟨[33], [], [34], [(.slot 45)]⟩ :: ⟨[33], [], [35], [(.slot 46)]⟩ :: ⟨[33], [], [36], [(.slot 47)]⟩ :: ⟨[33], [], [37], [(.slot 48)]⟩ :: ⟨[33], [], [38], [(.slot 49)]⟩ :: ⟨[27, 33], [], [39], [(.slot 50)]⟩ :: ⟨[14, 27, 39], [], [40], [(.slot 51)]⟩ :: ⟨[14, 40], [], [41], [(.slot 52)]⟩ :: [])) (es' := [(_, _), (_, _), (_, _), (52, .v (.bool false))]) (by kernel_rfl) rfl rfl
            ⟨st_plain rfl (op_move _ _ _ _ rfl rfl),
            st_plain rfl (op_move _ _ _ _ rfl rfl),
            st_plain rfl (op_len_fl _ _ _ Tryd.underlying40 rfl (by decide) (map_len _)),
            st_plain rfl (op_bin _ _ _ _ _ rfl rfl rfl),
            st_plain rfl (op_move _ _ _ _ (congrArg (fun b => AV.v (Value.bool b)) hg5_4) rfl),
            st_run 4 19 true rfl rfl rfl (List.Mem.head _) (op_move _ _ _ _ rfl rfl),
            st_run 4 19 true rfl rfl rfl (List.Mem.head _) (op_move _ _ _ _ rfl rfl),
            st_run 4 19 true rfl rfl rfl (List.Mem.head _) (op_ix _ _ _ _ _ _ _ _ Tryd.underlying40 sz4 (by decide) rfl rfl rfl (ix_ok hv3).1 (map_lt (ix_ok hv3).2) rfl),
            st_run 4 19 true rfl rfl rfl (List.Mem.head _) (op_load_e _ _ _ _ _ _ Tryd.underlying4 rfl rfl rfl (map_get hv4)),
            st_plain rfl (op_pick _ _ true _ rfl rfl),
            st_plain rfl (op_move _ _ _ _ (congrArg (fun b => AV.v (Value.bool b)) hg5_10) rfl),
            st_run 10 25 true rfl rfl rfl (List.Mem.head _) (op_move _ _ _ _ rfl rfl),
            st_run 10 25 true rfl rfl rfl (List.Mem.head _) (op_move _ _ _ _ rfl rfl),
            st_run 10 25 true rfl rfl rfl (List.Mem.head _) (op_ix_mk _ _ _ _ _ _ _ Tryd.underlying43 sz5 rfl rfl rfl (ix_ok hv5).1 (mk_lt' (ix_ok hv5).2) rfl),
            st_run 10 25 true rfl rfl rfl (List.Mem.head _) (op_load_mk _ _ _ _ _ _ Tryd.underlying5 rfl rfl rfl (map_get hv6)),
            st_run 10 25 true rfl rfl rfl (List.Mem.head _) (op_bin _ _ _ _ _ rfl rfl rfl),
            st_run 10 25 true rfl rfl rfl (List.Mem.head _) (op_move _ _ _ _ (congrArg (fun b => AV.v (Value.bool b)) hg5_16) rfl),
            st_run 16 31 true rfl rfl rfl (List.Mem.head _) (op_move _ _ _ _ rfl rfl),
            st_run 16 31 true rfl rfl rfl (List.Mem.head _) (op_move _ _ _ _ rfl rfl),
            st_run 16 31 true rfl rfl rfl (List.Mem.head _) (op_ix_mk _ _ _ _ _ _ _ Tryd.underlying43 sz5 rfl rfl rfl (ix_ok hv7).1 (mk_lt' (ix_ok hv7).2) rfl),
            st_run 16 31 true rfl rfl rfl (List.Mem.head _) (op_load_mk _ _ _ _ _ _ Tryd.underlying5 rfl rfl rfl (map_get hv8)),
            st_run 16 31 true rfl rfl rfl (List.Mem.head _) (op_bin _ _ _ _ _ rfl rfl rfl),
            st_run 10 25 true rfl rfl rfl (List.Mem.head _) (op_pick _ _ true _ rfl rfl),
            st_run 10 25 true rfl rfl rfl (List.Mem.head _) (op_move _ _ _ _ (congrArg (fun b => AV.v (Value.bool b)) hg5_23) rfl),
            st_run 23 38 false rfl rfl rfl (List.Mem.head _) (op_move _ _ _ _ rfl rfl),
            st_run 23 38 false rfl rfl rfl (List.Mem.head _) (op_move _ _ _ _ rfl rfl),
            st_run 23 38 false rfl rfl rfl (List.Mem.head _) (op_ix_mk _ _ _ _ _ _ _ Tryd.underlying43 sz5 rfl rfl rfl (ix_ok hv9).1 (mk_lt' (ix_ok hv9).2) rfl),
            st_run 23 38 false rfl rfl rfl (List.Mem.head _) (op_load_mk _ _ _ _ _ _ Tryd.underlying5 rfl rfl rfl (map_get hv10)),
            st_run 23 38 false rfl rfl rfl (List.Mem.head _) (op_bin _ _ _ _ _ rfl rfl rfl),
            st_run 23 38 false rfl rfl rfl (List.Mem.head _) (op_move _ _ _ _ (congrArg (fun b => AV.v (Value.bool b)) hg5_29) rfl),
            st_skip 29 44 _ true rfl rfl rfl rfl (List.Mem.head _),
            st_skip 29 44 _ true rfl rfl rfl rfl (List.Mem.head _),
            st_skip 29 44 _ true rfl rfl rfl rfl (List.Mem.head _),
            st_skip 29 44 _ true rfl rfl rfl rfl (List.Mem.head _),
            st_skip 29 44 _ true rfl rfl rfl rfl (List.Mem.head _),
            st_run 23 38 false rfl rfl rfl (List.Mem.head _) (op_pick _ _ false _ rfl rfl),
            st_run 10 25 true rfl rfl rfl (List.Mem.head _) (op_pick _ _ false _ rfl rfl),
            st_plain rfl (op_pick _ _ true _ rfl rfl),
            trivial⟩ ?_
           exact hl90 _ (Option.some.inj h).symm
        ·obtain ⟨v13, hv13, h⟩ := bind_some h
         obtain ⟨v14, hv14, h⟩ := bind_some h
         refine cond_some h (fun hg5_29 h => ?_) (fun hg5_29 h => ?_)
         ·obtain ⟨v15, hv15, h⟩ := bind_some h
          obtain ⟨v16, hv16, h⟩ := bind_some h
          refine ht_seqR hn (El := (_ :: _ :: _ :: _ :: (15, .v (.int .i64 s55)) :: (16, .fl .shr 1 (List.map Value.bool flips)) :: (17, .v (.int .i64 (flips.length : Int))) :: (18, .v (.bool ((decide (s55 < (flips.length : Int)))))) :: (19, .v (.bool true)) :: (20, .fl .shr 1 (List.map Value.bool flips)) :: (21, .v (.int .i64 s55)) :: (22, .eref (.slot 20) (v3 * 1)) :: (23, .v (.bool v4)) :: (24, .v (.bool v4)) :: (25, .v (.bool true)) :: (26, .same (.slot 5)) :: (27, .v (.int .i64 s55)) :: (28, .eref (.slot 5) (v5 * 1)) :: (29, .v (.int .u8 v6)) :: (30, .v (.bool ((decide (97 ≤ v6))))) :: (31, .v (.bool false)) :: (32, .v undef) :: (33, .v undef) :: (34, .v undef) :: (35, .v undef) :: (36, .v undef) :: (37, .v (.bool false)) :: (38, .v (.bool false)) :: (39, .same (.slot 5)) :: (40, .v (.int .i64 s55)) :: (41, .eref (.slot 5) (v13 * 1)) :: (42, .v (.int .u8 v14)) :: (43, .v (.bool ((decide (65 ≤ v14))))) :: (44, .v (.bool true)) :: (45, .same (.slot 5)) :: (46, .v (.int .i64 s55)) :: (47, .eref (.slot 5) (v15 * 1)) :: (48, .v (.int .u8 v16)) :: (49, .v (.bool ((decide (v16 ≤ 90))))) :: (50, .v (.bool ((decide (v16 ≤ 90))))) :: (51, .v (.bool ((decide (v16 ≤ 90))))) :: (52, .v (.bool ((decide (v16 ≤ 90))))) :: [])) (init := [0, 1, 2, 3]) (fin := [0, 1, 2, 41]) (sps := (⟨[2], [], [4], [(.slot 15)]⟩ :: ⟨[0], [], [5], [(.slot 16)]⟩ :: ⟨[5], [], [6], [(.slot 17)]⟩ :: ⟨[4, 6], [], [7], [(.slot 18)]⟩ :: ⟨[7], [], [8], [(.slot 19)]⟩ :: ⟨[8, 0], [], [9], [(.slot 20)]⟩ :: ⟨[8, 2], [], [10], [(.slot 21)]⟩ :: ⟨[8, 9, 10], [], [11], [(.slot 22)]⟩ :: ⟨[8, 11, 9], [], [12], [(.slot 23)]⟩ :: ⟨[8, 12], [], [13], [(.slot 24)]⟩ :: ⟨[13], [], [14], [(.slot 25)]⟩ :: ⟨[14, 1], [], [15], [(.slot 26)]⟩ :: ⟨[14, 2], [], [16], [(.slot 27)]⟩ :: ⟨[14, 15, 1, 16], [], [17], [(.slot 28)]⟩ :: ⟨[14, 17, 1], [], [18], [(.slot 29)]⟩ :: ⟨[14, 18], [], [19], [(.slot 30)]⟩ :: ⟨[14, 19], [], [20], [(.slot 31)]⟩ :: ⟨[20], [], [21], [(.slot 32)]⟩ :: ⟨[20], [], [22], [(.slot 33)]⟩ :: ⟨[20], [], [23], [(.slot 34)]⟩ :: ⟨[20], [], [24], [(.slot 35)]⟩ :: ⟨[20], [], [25], [(.slot 36)]⟩ :: ⟨[14, 20], [], [26], [(.slot 37)]⟩ :: ⟨[14, 26], [], [27], [(.slot 38)]⟩ :: ⟨[27, 1], [], [28], [(.slot 39)]⟩ :: ⟨[27, 2], [], [29], [(.slot 40)]⟩ :: ⟨[27, 28, 1, 29], [], [30], [(.slot 41)]⟩ :: ⟨[27, 30, 1], [], [31], [(.slot 42)]⟩ :: ⟨[27, 31], [], [32], [(.slot 43)]⟩ :: ⟨[27, 32], [], [33], [(.slot 44)]⟩ :: ⟨[33, 1], [], [34], [(.slot 45)]⟩ :: ⟨[33, 2], [], [35], [(.slot 46)]⟩ :: ⟨[33, 34, 1, 35], [], [36], [(.slot 47)]⟩ :: ⟨[33, 36, 1], [], [37], [(.slot 48)]⟩ :: ⟨[33, 37], [], [38], [(.slot 49)]⟩ :: ⟨[27, 33, 38], [], [39], [(.slot 50)]⟩ :: ⟨[14, 27, 39], [], [40], [(.slot 51)]⟩ :: ⟨[14, 40], [], [41], [(.slot 52)]⟩ :: [])) (es' := [(_, _), (_, _), (_, _), (52, .v (.bool ((decide (v16 ≤ 90)))))]) (by kernel_rfl) rfl rfl
           ⟨st_plain rfl (op_move _ _ _ _ rfl rfl),
           st_plain rfl (op_move _ _ _ _ rfl rfl),
           st_plain rfl (op_len_fl _ _ _ Tryd.underlying40 rfl (by decide) (map_len _)),
           st_plain rfl (op_bin _ _ _ _ _ rfl rfl rfl),
           st_plain rfl (op_move _ _ _ _ (congrArg (fun b => AV.v (Value.bool b)) hg5_4) rfl),
           st_run 4 19 true rfl rfl rfl (List.Mem.head _) (op_move _ _ _ _ rfl rfl),
           st_run 4 19 true rfl rfl rfl (List.Mem.head _) (op_move _ _ _ _ rfl rfl),
           st_run 4 19 true rfl rfl rfl (List.Mem.head _) (op_ix _ _ _ _ _ _ _ _ Tryd.underlying40 sz4 (by decide) rfl rfl rfl (ix_ok hv3).1 (map_lt (ix_ok hv3).2) rfl),
           st_run 4 19 true rfl rfl rfl (List.Mem.head _) (op_load_e _ _ _ _ _ _ Tryd.underlying4 rfl rfl rfl (map_get hv4)),
           st_plain rfl (op_pick _ _ true _ rfl rfl),
           st_plain rfl (op_move _ _ _ _ (congrArg (fun b => AV.v (Value.bool b)) hg5_10) rfl),
           st_run 10 25 true rfl rfl rfl (List.Mem.head _) (op_move _ _ _ _ rfl rfl),
           st_run 10 25 true rfl rfl rfl (List.Mem.head _) (op_move _ _ _ _ rfl rfl),
           st_run 10 25 true rfl rfl rfl (List.Mem.head _) (op_ix_mk _ _ _ _ _ _ _ Tryd.underlying43 sz5 rfl rfl rfl (ix_ok hv5).1 (mk_lt' (ix_ok hv5).2) rfl),
           st_run 10 25 true rfl rfl rfl (List.Mem.head _) (op_load_mk _ _ _ _ _ _ Tryd.underlying5 rfl rfl rfl (map_get hv6)),
           st_run 10 25 true rfl rfl rfl (List.Mem.head _) (op_bin _ _ _ _ _ rfl rfl rfl),
           st_run 10 25 true rfl rfl rfl (List.Mem.head _) (op_move _ _ _ _ (congrArg (fun b => AV.v (Value.bool b)) hg5_16) rfl),
           st_skip 16 31 _ true rfl rfl rfl rfl (List.Mem.head _),
           st_skip 16 31 _ true rfl rfl rfl rfl (List.Mem.head _),
           st_skip 16 31 _ true rfl rfl rfl rfl (List.Mem.head _),
           st_skip 16 31 _ true rfl rfl rfl rfl (List.Mem.head _),
           st_skip 16 31 _ true rfl rfl rfl rfl (List.Mem.head _),
           st_run 10 25 true rfl rfl rfl (List.Mem.head _) (op_pick _ _ false _ rfl rfl),
           st_run 10 25 true rfl rfl rfl (List.Mem.head _) (op_move _ _ _ _ rfl rfl),
           st_run 23 38 false rfl rfl rfl (List.Mem.head _) (op_move _ _ _ _ rfl rfl),
           st_run 23 38 false rfl rfl rfl (List.Mem.head _) (op_move _ _ _ _ rfl rfl),
           st_run 23 38 false rfl rfl rfl (List.Mem.head _) (op_ix_mk _ _ _ _ _ _ _ Tryd.underlying43 sz5 rfl rfl rfl (ix_ok hv13).1 (mk_lt' (ix_ok hv13).2) rfl),
           st_run 23 38 false rfl rfl rfl (List.Mem.head _) (op_load_mk _ _ _ _ _ _ Tryd.underlying5 rfl rfl rfl (map_get hv14)),
           st_run 23 38 false rfl rfl rfl (List.Mem.head _) (op_bin _ _ _ _ _ rfl rfl rfl),
           st_run 23 38 false rfl rfl rfl (List.Mem.head _) (op_move _ _ _ _ (congrArg (fun b => AV.v (Value.bool b)) hg5_29) rfl),
           st_run 29 44 true rfl rfl rfl (List.Mem.head _) (op_move _ _ _ _ rfl rfl),
           st_run 29 44 true rfl rfl rfl (List.Mem.head _) (op_move _ _ _ _ rfl rfl),
           st_run 29 44 true rfl rfl rfl (List.Mem.head _) (op_ix_mk _ _ _ _ _ _ _ Tryd.underlying43 sz5 rfl rfl rfl (ix_ok hv15).1 (mk_lt' (ix_ok hv15).2) rfl),
           st_run 29 44 true rfl rfl rfl (List.Mem.head _) (op_load_mk _ _ _ _ _ _ Tryd.underlying5 rfl rfl rfl (map_get hv16)),
           st_run 29 44 true rfl rfl rfl (List.Mem.head _) (op_bin _ _ _ _ _ rfl rfl rfl),
           st_run 23 38 false rfl rfl rfl (List.Mem.head _) (op_pick _ _ true _ rfl rfl),
           st_run 10 25 true rfl rfl rfl (List.Mem.head _) (op_pick _ _ false _ rfl rfl),
           st_plain rfl (op_pick _ _ true _ rfl rfl),
           trivial⟩ ?_
          exact hl90 _ (Option.some.inj h).symm
         ·refine ht_seqR hn (El := (_ :: _ :: _ :: _ :: (15, .v (.int .i64 s55)) :: (16, .fl .shr 1 (List.map Value.bool flips)) :: (17, .v (.int .i64 (flips.length : Int))) :: (18, .v (.bool ((decide (s55 < (flips.length : Int)))))) :: (19, .v (.bool true)) :: (20, .fl .shr 1 (List.map Value.bool flips)) :: (21, .v (.int .i64 s55)) :: (22, .eref (.slot 20) (v3 * 1)) :: (23, .v (.bool v4)) :: (24, .v (.bool v4)) :: (25, .v (.bool true)) :: (26, .same (.slot 5)) :: (27, .v (.int .i64 s55)) :: (28, .eref (.slot 5) (v5 * 1)) :: (29, .v (.int .u8 v6)) :: (30, .v (.bool ((decide (97 ≤ v6))))) :: (31, .v (.bool false)) :: (32, .v undef) :: (33, .v undef) :: (34, .v undef) :: (35, .v undef) :: (36, .v undef) :: (37, .v (.bool false)) :: (38, .v (.bool false)) :: (39, .same (.slot 5)) :: (40, .v (.int .i64 s55)) :: (41, .eref (.slot 5) (v13 * 1)) :: (42, .v (.int .u8 v14)) :: (43, .v (.bool ((decide (65 ≤ v14))))) :: (44, .v (.bool false)) :: (45, .v undef) :: (46, .v undef) :: (47, .v undef) :: (48, .v undef) :: (49, .v undef) :: (50, .v (.bool false)) :: (51, .v (.bool false)) :: (52, .v (.bool false)) :: [])) (init := [0, 1, 2, 3]) (fin := [0, 1, 2, 41]) (sps := (⟨[2], [], [4], [(.slot 15)]⟩ :: ⟨[0], [], [5], [(.slot 16)]⟩ :: ⟨[5], [], [6], [(.slot 17)]⟩ :: ⟨[4, 6], [], [7], [(.slot 18)]⟩ :: ⟨[7], [], [8], [(.slot 19)]⟩ :: ⟨[8, 0], [], [9], [(.slot 20)]⟩ :: ⟨[8, 2], [], [10], [(.slot 21)]⟩ :: ⟨[8, 9, 10], [], [11], [(.slot 22)]⟩ :: ⟨[8, 11, 9], [], [12], [(.slot 23)]⟩ :: ⟨[8, 12], [], [13], [(.slot 24)]⟩ :: ⟨[13], [], [14], [(.slot 25)]⟩ :: ⟨[14, 1], [], [15], [(.slot 26)]⟩ :: ⟨[14, 2], [], [16], [(.slot 27)]⟩ :: ⟨[14, 15, 1, 16], [], [17], [(.slot 28)]⟩ :: ⟨[14, 17, 1], [], [18], [(.slot 29)]⟩ :: ⟨[14, 18], [], [19], [(.slot 30)]⟩ :: ⟨[14, 19], [], [20], [(.slot 31)]⟩ :: ⟨[20], [], [21], [(.slot 32)]⟩ :: ⟨[20], [], [22], [(.slot 33)]⟩ :: ⟨[20], [], [23], [(.slot 34)]⟩ :: ⟨[20], [], [24], [(.slot 35)]⟩ :: ⟨[20], [], [25], [(.slot 36)]⟩ :: ⟨[14, 20], [], [26], [(.slot 37)]⟩ :: ⟨[14, 26], [], [27], [(.slot 38)]⟩ :: ⟨[27, 1], [], [28], [(.slot 39)]⟩ :: ⟨[27, 2], [], [29], [(.slot 40)]⟩ :: ⟨[27, 28, 1, 29], [], [30], [(.slot 41)]⟩ :: ⟨[27, 30, 1], [], [31], [(.slot 42)]⟩ :: ⟨[27, 31], [], [32], [(.slot 43)]⟩ :: ⟨[27, 32], [], [33], [(.slot 44)]⟩ :: ⟨[33], [], [34], [(.slot 45)]⟩ :: ⟨[33], [], [35], [(.slot 46)]⟩ :: ⟨[33], [], [36], [(.slot 47)]⟩ :: ⟨[33], [], [37], [(.slot 48)]⟩ :: ⟨[33], [], [38], [(.slot 49)]⟩ :: ⟨[27, 33], [], [39], [(.slot 50)]⟩ :: ⟨[14, 27, 39], [], [40], [(.slot 51)]⟩ :: ⟨[14, 40], [], [41], [(.slot 52)]⟩ :: [])) (es' := [(_, _), (_, _), (_, _), (52, .v (.bool false))]) (by kernel_rfl) rfl rfl
           ⟨st_plain rfl (op_move _ _ _ _ rfl rfl),
           st_plain rfl (op_move _ _ _ _ rfl rfl),
           st_plain rfl (op_len_fl _ _ _ Tryd.underlying40 rfl (by decide) (map_len _)),
           st_plain rfl (op_bin _ _ _ _ _ rfl rfl rfl),
           st_plain rfl (op_move _ _ _ _ (congrArg (fun b => AV.v (Value.bool b)) hg5_4) rfl),
           st_run 4 19 true rfl rfl rfl (List.Mem.head _) (op_move _ _ _ _ rfl rfl),
           st_run 4 19 true rfl rfl rfl (List.Mem.head _) (op_move _ _ _ _ rfl rfl),
           st_run 4 19 true rfl rfl rfl (List.Mem.head _) (op_ix _ _ _ _ _ _ _ _ Tryd.underlying40 sz4 (by decide) rfl rfl rfl (ix_ok hv3).1 (map_lt (ix_ok hv3).2) rfl),
           st_run 4 19 true rfl rfl rfl (List.Mem.head _) (op_load_e _ _ _ _ _ _ Tryd.underlying4 rfl rfl rfl (map_get hv4)),
           st_plain rfl (op_pick _ _ true _ rfl rfl),
           st_plain rfl (op_move _ _ _ _ (congrArg (fun b => AV.v (Value.bool b)) hg5_10) rfl),
           st_run 10 25 true rfl rfl rfl (List.Mem.head _) (op_move _ _ _ _ rfl rfl),
           st_run 10 25 true rfl rfl rfl (List.Mem.head _) (op_move _ _ _ _ rfl rfl),
           st_run 10 25 true rfl rfl rfl (List.Mem.head _) (op_ix_mk _ _ _ _ _ _ _ Tryd.underlying43 sz5 rfl rfl rfl (ix_ok hv5).1 (mk_lt' (ix_ok hv5).2) rfl),
           st_run 10 25 true rfl rfl rfl (List.Mem.head _) (op_load_mk _ _ _ _ _ _ Tryd.underlying5 rfl rfl rfl (map_get hv6)),
           st_run 10 25 true rfl rfl rfl (List.Mem.head _) (op_bin _ _ _ _ _ rfl rfl rfl),
           st_run 10 25 true rfl rfl rfl (List.Mem.head _) (op_move _ _ _ _ (congrArg (fun b => AV.v (Value.bool b)) hg5_16) rfl),
           st_skip 16 31 _ true rfl rfl rfl rfl (List.Mem.head _),
           st_skip 16 31 _ true rfl rfl rfl rfl (List.Mem.head _),
           st_skip 16 31 _ true rfl rfl rfl rfl (List.Mem.head _),
           st_skip 16 31 _ true rfl rfl rfl rfl (List.Mem.head _),
           st_skip 16 31 _ true rfl rfl rfl rfl (List.Mem.head _),
           st_run 10 25 true rfl rfl rfl (List.Mem.head _) (op_pick _ _ false _ rfl rfl),
           st_run 10 25 true rfl rfl rfl (List.Mem.head _) (op_move _ _ _ _ rfl rfl),
           st_run 23 38 false rfl rfl rfl (List.Mem.head _) (op_move _ _ _ _ rfl rfl),
           st_run 23 38 false rfl rfl rfl (List.Mem.head _) (op_move _ _ _ _ rfl rfl),
           st_run 23 38 false rfl rfl rfl (List.Mem.head _) (op_ix_mk _ _ _ _ _ _ _ Tryd.underlying43 sz5 rfl rfl rfl (ix_ok hv13).1 (mk_lt' (ix_ok hv13).2) rfl),
           st_run 23 38 false rfl rfl rfl (List.Mem.head _) (op_load_mk _ _ _ _ _ _ Tryd.underlying5 rfl rfl rfl (map_get hv14)),
           st_run 23 38 false rfl rfl rfl (List.Mem.head _) (op_bin _ _ _ _ _ rfl rfl rfl),
           st_run 23 38 false rfl rfl rfl (List.Mem.head _) (op_move _ _ _ _ (congrArg (fun b => AV.v (Value.bool b)) hg5_29) rfl),
           st_skip 29 44 _ true rfl rfl rfl rfl (List.Mem.head _),
           st_skip 29 44 _ true rfl rfl rfl rfl (List.Mem.head _),
           st_skip 29 44 _ true rfl rfl rfl rfl (List.Mem.head _),
           st_skip 29 44 _ true rfl rfl rfl rfl (List.Mem.head _),
           st_skip 29 44 _ true rfl rfl rfl rfl (List.Mem.head _),
           st_run 23 38 false rfl rfl rfl (List.Mem.head _) (op_pick _ _ false _ rfl rfl),
           st_run 10 25 true rfl rfl rfl (List.Mem.head _) (op_pick _ _ false _ rfl rfl),
           st_plain rfl (op_pick _ _ true _ rfl rfl),
           trivial⟩ ?_
          exact hl90 _ (Option.some.inj h).symm
       ·refine ht_seqR hn (El := (_ :: _ :: _ :: _ :: (15, .v (.int .i64 s55)) :: (16, .fl .shr 1 (List.map Value.bool flips)) :: (17, .v (.int .i64 (flips.length : Int))) :: (18, .v (.bool ((decide (s55 < (flips.length : Int)))))) :: (19, .v (.bool true)) :: (20, .fl .shr 1 (List.map Value.bool flips)) :: (21, .v (.int .i64 s55)) :: (22, .eref (.slot 20) (v3 * 1)) :: (23, .v (.bool v4)) :: (24, .v (.bool v4)) :: (25, .v (.bool false)) :: (26, .v undef) :: (27, .v undef) :: (28, .v undef) :: (29, .v undef) :: (30, .v undef) :: (31, .v undef) :: (32, .v undef) :: (33, .v undef) :: (34, .v undef) :: (35, .v undef) :: (36, .v undef) :: (37, .v undef) :: (38, .v undef) :: (39, .v undef) :: (40, .v undef) :: (41, .v undef) :: (42, .v undef) :: (43, .v undef) :: (44, .v undef) :: (45, .v undef) :: (46, .v undef) :: (47, .v undef) :: (48, .v undef) :: (49, .v undef) :: (50, .v undef) :: (51, .v undef) :: (52, .v (.bool false)) :: [])) (init := [0, 1, 2, 3]) (fin := [0, 1, 2, 41]) (sps := (⟨[2], [], [4], [(.slot 15)]⟩ :: ⟨[0], [], [5], [(.slot 16)]⟩ :: ⟨[5], [], [6], [(.slot 17)]⟩ :: ⟨[4, 6], [], [7], [(.slot 18)]⟩ :: ⟨[7], [], [8], [(.slot 19)]⟩ :: ⟨[8, 0], [], [9], [(.slot 20)]⟩ :: ⟨[8, 2], [], [10], [(.slot 21)]⟩ :: ⟨[8, 9, 10], [], [11], [(.slot 22)]⟩ :: ⟨[8, 11, 9], [], [12], [(.slot 23)]⟩ :: ⟨[8, 12], [], [13], [(.slot 24)]⟩ :: ⟨[13], [], [14], [(.slot 25)]⟩ :: ⟨[14], [], [15], [(.slot 26)]⟩ :: ⟨[14], [], [16], [(.slot 27)]⟩ :: ⟨[14], [], [17], [(.slot 28)]⟩ :: ⟨[14], [], [18], [(.slot 29)]⟩ :: ⟨[14], [], [19], [(.slot 30)]⟩ :: ⟨[14], [], [20], [(.slot 31)]⟩ :: ⟨[20], [], [21], [(.slot 32)]⟩ :: ⟨[20], [], [22], [(.slot 33)]⟩ :: ⟨[20], [], [23], [(.slot 34)]⟩ :: ⟨[20], [], [24], [(.slot 35)]⟩ :: ⟨[20], [], [25], [(.slot 36)]⟩ :: ⟨[14], [], [26], [(.slot 37)]⟩ :: ⟨[14], [], [27], [(.slot 38)]⟩ :: ⟨[27], [], [28], [(.slot 39)]⟩ :: ⟨[27], [], [29], [(.slot 40)]⟩ :: ⟨[27], [], [30], [(.slot 41)]⟩ :: ⟨[27], [], [31], [(.slot 42)]⟩ :: ⟨[27], [], [32], [(.slot 43)]⟩ :: ⟨[27], [], [33], [(.slot 44)]⟩ :: ⟨[33], [], [34], [(.slot 45)]⟩ :: ⟨[33], [], [35], [(.slot 46)]⟩ :: ⟨[33], [], [36], [(.slot 47)]⟩ :: ⟨[33], [], [37], [(.slot 48)]⟩ :: ⟨[33], [], [38], [(.slot 49)]⟩ :: ⟨[27], [], [39], [(.slot 50)]⟩ :: ⟨[14], [], [40], [(.slot 51)]⟩ :: ⟨[14], [], [41], [(.slot 52)]⟩ :: [])) (es' := [(_, _), (_, _), (_, _), (52, .v (.bool false))]) (by kernel_rfl) rfl rfl
         ⟨st_plain rfl (op_move _ _ _ _ rfl rfl),
         st_plain rfl (op_move _ _ _ _ rfl rfl),
         st_plain rfl (op_len_fl _ _ _ Tryd.underlying40 rfl (by decide) (map_len _)),
         st_plain rfl (op_bin _ _ _ _ _ rfl rfl rfl),
         st_plain rfl (op_move _ _ _ _ (congrArg (fun b => AV.v (Value.bool b)) hg5_4) rfl),
         st_run 4 19 true rfl rfl rfl (List.Mem.head _) (op_move _ _ _ _ rfl rfl),
         st_run 4 19 true rfl rfl rfl (List.Mem.head _) (op_move _ _ _ _ rfl rfl),
         st_run 4 19 true rfl rfl rfl (List.Mem.head _) (op_ix _ _ _ _ _ _ _ _ Tryd.underlying40 sz4 (by decide) rfl rfl rfl (ix_ok hv3).1 (map_lt (ix_ok hv3).2) rfl),
         st_run 4 19 true rfl rfl rfl (List.Mem.head _) (op_load_e _ _ _ _ _ _ Tryd.underlying4 rfl rfl rfl (map_get hv4)),
         st_plain rfl (op_pick _ _ true _ rfl rfl),
         st_plain rfl (op_move _ _ _ _ (congrArg (fun b => AV.v (Value.bool b)) hg5_10) rfl),
         st_skip 10 25 _ true rfl rfl rfl rfl (List.Mem.head _),
         st_skip 10 25 _ true rfl rfl rfl rfl (List.Mem.head _),
         st_skip 10 25 _ true rfl rfl rfl rfl (List.Mem.head _),
         st_skip 10 25 _ true rfl rfl rfl rfl (List.Mem.head _),
         st_skip 10 25 _ true rfl rfl rfl rfl (List.Mem.head _),
         st_skip 10 25 _ true rfl rfl rfl rfl (List.Mem.head _),
         st_skipU 16 31 _ true rfl rfl rfl rfl (List.Mem.head _),
         st_skipU 16 31 _ true rfl rfl rfl rfl (List.Mem.head _),
         st_skipU 16 31 _ true rfl rfl rfl rfl (List.Mem.head _),
         st_skipU 16 31 _ true rfl rfl rfl rfl (List.Mem.head _),
         st_skipU 16 31 _ true rfl rfl rfl rfl (List.Mem.head _),
         st_skip 10 25 _ true rfl rfl rfl rfl (List.Mem.head _),
         st_skip 10 25 _ true rfl rfl rfl rfl (List.Mem.head _),
         st_skipU 23 38 _ false rfl rfl rfl rfl (List.Mem.head _),
         st_skipU 23 38 _ false rfl rfl rfl rfl (List.Mem.head _),
         st_skipU 23 38 _ false rfl rfl rfl rfl (List.Mem.head _),
         st_skipU 23 38 _ false rfl rfl rfl rfl (List.Mem.head _),
         st_skipU 23 38 _ false rfl rfl rfl rfl (List.Mem.head _),
         st_skipU 23 38 _ false rfl rfl rfl rfl (List.Mem.head _),
         st_skipU 29 44 _ true rfl rfl rfl rfl (List.Mem.head _),
         st_skipU 29 44 _ true rfl rfl rfl rfl (List.Mem.head _),
         st_skipU 29 44 _ true rfl rfl rfl rfl (List.Mem.head _),
         st_skipU 29 44 _ true rfl rfl rfl rfl (List.Mem.head _),
         st_skipU 29 44 _ true rfl rfl rfl rfl (List.Mem.head _),
         st_skipU 23 38 _ false rfl rfl rfl rfl (List.Mem.head _),
         st_skip 10 25 _ true rfl rfl rfl rfl (List.Mem.head _),
         st_plain rfl (op_pick _ _ false _ rfl rfl),
         trivial⟩ ?_
        exact hl90 _ (Option.some.inj h).symm
      ·refine ht_seqR hn (El := (_ :: _ :: _ :: _ :: (15, .v (.int .i64 s55)) :: (16, .fl .shr 1 (List.map Value.bool flips)) :: (17, .v (.int .i64 (flips.length : Int))) :: (18, .v (.bool ((decide (s55 < (flips.length : Int)))))) :: (19, .v (.bool false)) :: (20, .v undef) :: (21, .v undef) :: (22, .v undef) :: (23, .v undef) :: (24, .v (.bool false)) :: (25, .v (.bool false)) :: (26, .v undef) :: (27, .v undef) :: (28, .v undef) :: (29, .v undef) :: (30, .v undef) :: (31, .v undef) :: (32, .v undef) :: (33, .v undef) :: (34, .v undef) :: (35, .v undef) :: (36, .v undef) :: (37, .v undef) :: (38, .v undef) :: (39, .v undef) :: (40, .v undef) :: (41, .v undef) :: (42, .v undef) :: (43, .v undef) :: (44, .v undef) :: (45, .v undef) :: (46, .v undef) :: (47, .v undef) :: (48, .v undef) :: (49, .v undef) :: (50, .v undef) :: (51, .v undef) :: (52, .v (.bool false)) :: [])) (init := [0, 1, 2, 3]) (fin := [0, 1, 2, 41]) (sps := (⟨[2], [], [4], [(.slot 15)]⟩ :: ⟨[0], [], [5], [(.slot 16)]⟩ :: ⟨[5], [], [6], [(.slot 17)]⟩ :: ⟨[4, 6], [], [7], [(.slot 18)]⟩ :: ⟨[7], [], [8], [(.slot 19)]⟩ :: ⟨[8], [], [9], [(.slot 20)]⟩ :: ⟨[8], [], [10], [(.slot 21)]⟩ :: ⟨[8], [], [11], [(.slot 22)]⟩ :: ⟨[8], [], [12], [(.slot 23)]⟩ :: ⟨[8], [], [13], [(.slot 24)]⟩ :: ⟨[13], [], [14], [(.slot 25)]⟩ :: ⟨[14], [], [15], [(.slot 26)]⟩ :: ⟨[14], [], [16], [(.slot 27)]⟩ :: ⟨[14], [], [17], [(.slot 28)]⟩ :: ⟨[14], [], [18], [(.slot 29)]⟩ :: ⟨[14], [], [19], [(.slot 30)]⟩ :: ⟨[14], [], [20], [(.slot 31)]⟩ :: ⟨[20], [], [21], [(.slot 32)]⟩ :: ⟨[20], [], [22], [(.slot 33)]⟩ :: ⟨[20], [], [23], [(.slot 34)]⟩ :: ⟨[20], [], [24], [(.slot 35)]⟩ :: ⟨[20], [], [25], [(.slot 36)]⟩ :: ⟨[14], [], [26], [(.slot 37)]⟩ :: ⟨[14], [], [27], [(.slot 38)]⟩ :: ⟨[27], [], [28], [(.slot 39)]⟩ :: ⟨[27], [], [29], [(.slot 40)]⟩ :: ⟨[27], [], [30], [(.slot 41)]⟩ :: ⟨[27], [], [31], [(.slot 42)]⟩ :: ⟨[27], [], [32], [(.slot 43)]⟩ :: ⟨[27], [], [33], [(.slot 44)]⟩ :: ⟨[33], [], [34], [(.slot 45)]⟩ :: ⟨[33], [], [35], [(.slot 46)]⟩ :: ⟨[33], [], [36], [(.slot 47)]⟩ :: ⟨[33], [], [37], [(.slot 48)]⟩ :: ⟨[33], [], [38], [(.slot 49)]⟩ :: ⟨[27], [], [39], [(.slot 50)]⟩ :: ⟨[14], [], [40], [(.slot 51)]⟩ :: ⟨[14], [], [41], [(.slot 52)]⟩ :: [])) (es' := [(_, _), (_, _), (_, _), (52, .v (.bool false))]) (by kernel_rfl) rfl rfl
        ⟨st_plain rfl (op_move _ _ _ _ rfl rfl),
        st_plain rfl (op_move _ _ _ _ rfl rfl),
        st_plain rfl (op_len_fl _ _ _ Tryd.underlying40 rfl (by decide) (map_len _)),
        st_plain rfl (op_bin _ _ _ _ _ rfl rfl rfl),
        st_plain rfl (op_move _ _ _ _ (congrArg (fun b => AV.v (Value.bool b)) hg5_4) rfl),
        st_skip 4 19 _ true rfl rfl rfl rfl (List.Mem.head _),
        st_skip 4 19 _ true rfl rfl rfl rfl (List.Mem.head _),
        st_skip 4 19 _ true rfl rfl rfl rfl (List.Mem.head _),
        st_skip 4 19 _ true rfl rfl rfl rfl (List.Mem.head _),
        st_plain rfl (op_pick _ _ false _ rfl rfl),
        st_plain rfl (op_move _ _ _ _ rfl rfl),
        st_skip 10 25 _ true rfl rfl rfl rfl (List.Mem.head _),
        st_skip 10 25 _ true rfl rfl rfl rfl (List.Mem.head _),
        st_skip 10 25 _ true rfl rfl rfl rfl (List.Mem.head _),
        st_skip 10 25 _ true rfl rfl rfl rfl (List.Mem.head _),
        st_skip 10 25 _ true rfl rfl rfl rfl (List.Mem.head _),
        st_skip 10 25 _ true rfl rfl rfl rfl (List.Mem.head _),
        st_skipU 16 31 _ true rfl rfl rfl rfl (List.Mem.head _),
        st_skipU 16 31 _ true rfl rfl rfl rfl (List.Mem.head _),
        st_skipU 16 31 _ true rfl rfl rfl rfl (List.Mem.head _),
        st_skipU 16 31 _ true rfl rfl rfl rfl (List.Mem.head _),
        st_skipU 16 31 _ true rfl rfl rfl rfl (List.Mem.head _),
        st_skip 10 25 _ true rfl rfl rfl rfl (List.Mem.head _),
        st_skip 10 25 _ true rfl rfl rfl rfl (List.Mem.head _),
        st_skipU 23 38 _ false rfl rfl rfl rfl (List.Mem.head _),
        st_skipU 23 38 _ false rfl rfl rfl rfl (List.Mem.head _),
        st_skipU 23 38 _ false rfl rfl rfl rfl (List.Mem.head _),
        st_skipU 23 38 _ false rfl rfl rfl rfl (List.Mem.head _),
        st_skipU 23 38 _ false rfl rfl rfl rfl (List.Mem.head _),
        st_skipU 23 38 _ false rfl rfl rfl rfl (List.Mem.head _),
        st_skipU 29 44 _ true rfl rfl rfl rfl (List.Mem.head _),
        st_skipU 29 44 _ true rfl rfl rfl rfl (List.Mem.head _),
        st_skipU 29 44 _ true rfl rfl rfl rfl (List.Mem.head _),
        st_skipU 29 44 _ true rfl rfl rfl rfl (List.Mem.head _),
        st_skipU 29 44 _ true rfl rfl rfl rfl (List.Mem.head _),
        st_skipU 23 38 _ false rfl rfl rfl rfl (List.Mem.head _),
        st_skip 10 25 _ true rfl rfl rfl rfl (List.Mem.head _),
        st_plain rfl (op_pick _ _ false _ rfl rfl),
        trivial⟩ ?_
       exact hl90 _ (Option.some.inj h).symm
   ·have h := cond_f hb78 h
    refine ht_exit ?_
    refine pt_x_then ?_
    refine pt_x_then ?_
    refine pt_x_in ?_
    refine pt_pick [1] (by kernel_rfl) (es' := [(_, _)]) rfl ?_
    exact hl73 _ (ho75 _ (Option.some.inj h).symm).symm

end Go.Proofs.YtpmngahekkagpaaDoor
