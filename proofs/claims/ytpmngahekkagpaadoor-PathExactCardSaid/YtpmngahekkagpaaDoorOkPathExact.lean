/-
  The model's runs are what is told in Lean.
-/
import Derived.Test.YtpmngahekkagpaaDoorProg
import Derived.KernelRfl
import Derived.Test.YtpmngahekkagpaaDoorShelf
import Derived.Test.YtpmngahekkagpaaDoorOkc3
set_option linter.unusedVariables false
set_option linter.unusedSimpArgs false
namespace Go.Proofs.YtpmngahekkagpaaDoor
open Go.Abs Go.Abs.Sh

set_option maxHeartbeats 1000000 in
theorem ok_wherrylaw11_PathExact (mx : Int) (p : T_Path) (q : T_Path) (s : ByteArray) (r : Bool) (h : Sh.wherrylaw11_PathExact p q s = some r) : FnG Tryd.prog (GL mx) 3 [.agg [.v (.bool p.Null), .v (.string p.Local), .v (.string p.Domain)], .agg [.v (.bool q.Null), .v (.string q.Local), .v (.string q.Domain)], .v (.string s)] (.v (.bool r)) := by
  unfold Sh.wherrylaw11_PathExact at h
  refine fn_okG Tryd.func3 rfl (Nat.le_of_ble_eq_true rfl) rfl rfl fun g0 hn hio => ?_
  refine ht_seq ?_
  refine ht_seqR hn (El := [_, _, _, _, (3, .box 23 [.v (.bool p.Null), .v (.string p.Local), .v (.string p.Domain)]), (4, .box 23 [.v (.bool q.Null), .v (.string q.Local), .v (.string q.Domain)]), (6, .v (.bool false))]) (init := [0, 1, 2, 3]) (fin := [2, 3, 4, 5]) (sps := [⟨[0], [], [4], [(.slot 3)]⟩, ⟨[1], [], [5], [(.slot 4)]⟩, ⟨[], [], [6], [(.slot 6)]⟩]) (es' := [(_, _), (_, _), (3, .box 23 [.v (.bool p.Null), .v (.string p.Local), .v (.string p.Domain)]), (4, .box 23 [.v (.bool q.Null), .v (.string q.Local), .v (.string q.Domain)])]) (by kernel_rfl) rfl rfl
   ⟨st_plain rfl (op_box _ _ _ _ rfl rfl rfl),
   st_plain rfl (op_box _ _ _ _ rfl rfl rfl),
   st_plain rfl (op_assign _ _ _ _ rfl rfl),
   trivial⟩ ?_
  refine pt_then ?_
  refine ht_seq ?_
  refine ht_seq ?_
  obtain ⟨v1, hv1, h⟩ := bind_some h
  obtain ⟨v2, hv2, h⟩ := bind_some h
  obtain ⟨v3, hv3, h⟩ := bind_some h
  obtain ⟨v4, hv4, h⟩ := bind_some h
  refine ht_seqR hn (El := (_ :: _ :: _ :: _ :: (14, .ptr 3 1) :: (15, .v (.string p.Local)) :: (16, .v (.int .i64 (p.Local.size : Int))) :: (17, .ptr 3 2) :: (18, .v (.string p.Domain)) :: (19, .v (.int .i64 (p.Domain.size : Int))) :: (20, .v (.int .i64 v1)) :: (21, .ptr 4 1) :: (22, .v (.string q.Local)) :: (23, .v (.int .i64 (q.Local.size : Int))) :: (24, .v (.int .i64 v2)) :: (25, .ptr 4 2) :: (26, .v (.string q.Domain)) :: (27, .v (.int .i64 (q.Domain.size : Int))) :: (28, .v (.int .i64 v3)) :: (29, .v (.string s)) :: (30, .v (.int .i64 (s.size : Int))) :: (31, .v (.int .i64 v4)) :: (32, .v (.bool ((decide (2000 < v4))))) :: [])) (init := [0, 1, 2, 3]) (fin := [0, 1, 2, 3, 22]) (sps := (⟨[2], [], [4], [(.slot 14)]⟩ :: ⟨[4, 2], [], [5], [(.slot 15)]⟩ :: ⟨[5], [], [6], [(.slot 16)]⟩ :: ⟨[2], [], [7], [(.slot 17)]⟩ :: ⟨[7, 2], [], [8], [(.slot 18)]⟩ :: ⟨[8], [], [9], [(.slot 19)]⟩ :: ⟨[6, 9], [], [10], [(.slot 20)]⟩ :: ⟨[3], [], [11], [(.slot 21)]⟩ :: ⟨[11, 3], [], [12], [(.slot 22)]⟩ :: ⟨[12], [], [13], [(.slot 23)]⟩ :: ⟨[10, 13], [], [14], [(.slot 24)]⟩ :: ⟨[3], [], [15], [(.slot 25)]⟩ :: ⟨[15, 3], [], [16], [(.slot 26)]⟩ :: ⟨[16], [], [17], [(.slot 27)]⟩ :: ⟨[14, 17], [], [18], [(.slot 28)]⟩ :: ⟨[0], [], [19], [(.slot 29)]⟩ :: ⟨[19], [], [20], [(.slot 30)]⟩ :: ⟨[18, 20], [], [21], [(.slot 31)]⟩ :: ⟨[21], [], [22], [(.slot 32)]⟩ :: [])) (es' := [(_, _), (_, _), (_, _), (_, _), (32, .v (.bool ((decide (2000 < v4)))))]) (by kernel_rfl) rfl rfl
   ⟨st_plain rfl (op_fieldAddr _ _ _ _ 3 0 _ Tryd.underlying23 rfl sz9 rfl rfl (by decide)),
   st_plain rfl (op_load _ _ _ _ _ _ Tryd.underlying9 rfl rfl rfl (Nat.le_of_ble_eq_true rfl) rfl rfl rfl),
   st_plain rfl (op_len_str _ _ _ Tryd.underlying9 rfl),
   st_plain rfl (op_fieldAddr _ _ _ _ 3 0 _ Tryd.underlying23 rfl sz9 rfl rfl (by decide)),
   st_plain rfl (op_load _ _ _ _ _ _ Tryd.underlying9 rfl rfl rfl (Nat.le_of_ble_eq_true rfl) rfl rfl rfl),
   st_plain rfl (op_len_str _ _ _ Tryd.underlying9 rfl),
   st_plain rfl (op_bin _ _ _ _ _ rfl rfl (ibind (f := Value.int .i64) (Option.some.inj hv1))),
   st_plain rfl (op_fieldAddr _ _ _ _ 4 0 _ Tryd.underlying23 rfl sz9 rfl rfl (by decide)),
   st_plain rfl (op_load _ _ _ _ _ _ Tryd.underlying9 rfl rfl rfl (Nat.le_of_ble_eq_true rfl) rfl rfl rfl),
   st_plain rfl (op_len_str _ _ _ Tryd.underlying9 rfl),
   st_plain rfl (op_bin _ _ _ _ _ rfl rfl (ibind (f := Value.int .i64) (Option.some.inj hv2))),
   st_plain rfl (op_fieldAddr _ _ _ _ 4 0 _ Tryd.underlying23 rfl sz9 rfl rfl (by decide)),
   st_plain rfl (op_load _ _ _ _ _ _ Tryd.underlying9 rfl rfl rfl (Nat.le_of_ble_eq_true rfl) rfl rfl rfl),
   st_plain rfl (op_len_str _ _ _ Tryd.underlying9 rfl),
   st_plain rfl (op_bin _ _ _ _ _ rfl rfl (ibind (f := Value.int .i64) (Option.some.inj hv3))),
   st_plain rfl (op_move _ _ _ _ rfl rfl),
   st_plain rfl (op_len_str _ _ _ Tryd.underlying9 rfl),
   st_plain rfl (op_bin _ _ _ _ _ rfl rfl (ibind (f := Value.int .i64) (Option.some.inj hv4))),
   st_plain rfl (op_bin _ _ _ _ _ rfl rfl rfl),
   trivial⟩ ?_
  refine pt_then ?_
  refine ht_cond _ rfl (fun hb5 => ?_) (fun hb5 => ?_)
  ·have h := cond_t hb5 h
   refine ht_seq ?_
   refine ht_seqR hn (El := [_, _, _, _, _, (6, .v (.bool true))]) (init := [0, 1, 2, 3, 4]) (fin := [1, 5]) (sps := [⟨[], [], [5], [(.slot 6)]⟩]) (es' := [(_, _), (6, .v (.bool true))]) (by kernel_rfl) rfl rfl
    ⟨st_plain rfl (op_assign _ _ _ _ rfl rfl),
    trivial⟩ ?_
   refine pt_then ?_
   refine ht_ret ?_
   refine pt_pick [1] (by kernel_rfl) (es' := [(_, _)]) rfl ?_
   refine pt_r_then ?_
   obtain rfl := Option.some.inj h
   exact pt_ret hio rfl (.tmp _ _ .nil) rfl rfl
  ·have h := cond_f hb5 h
   refine ht_skip ?_
   refine pt_then ?_
   refine ht_seq ?_
   obtain ⟨v6, hv6, h⟩ := bind_some h
   refine ht_seqR hn (El := [_, _, _, _, _, (34, .v (.string s)), (35, .tup [.agg [.v (.bool v6.1.Null), .v (.string v6.1.Local), .v (.string v6.1.Domain)], .v (.int .i64 v6.2)]), (33, .tup [.agg [.v (.bool v6.1.Null), .v (.string v6.1.Local), .v (.string v6.1.Domain)], .v (.int .i64 v6.2)]), (36, .agg [.v (.bool v6.1.Null), .v (.string v6.1.Local), .v (.string v6.1.Domain)]), (37, .v (.int .i64 v6.2)), (7, .box 23 [.v (.bool false), .v (.string (⟨#[]⟩ : ByteArray)), .v (.string (⟨#[]⟩ : ByteArray))]), (7, .box 23 [.v (.bool v6.1.Null), .v (.string v6.1.Local), .v (.string v6.1.Domain)]), (8, .v (.int .i64 v6.2))]) (init := [0, 1, 2, 3, 4]) (fin := [0, 1, 2, 3, 11, 12]) (sps := [⟨[0], [], [5], [(.slot 34)]⟩, ⟨[5, 1], [], [6], [(.slot 35)]⟩, ⟨[], [6], [7], [(.slot 33)]⟩, ⟨[7], [], [8], [(.slot 36)]⟩, ⟨[7], [], [9], [(.slot 37)]⟩, ⟨[], [], [10], [(.slot 7)]⟩, ⟨[8], [10], [11], [.cell 7 0, .cell 7 1, .cell 7 2]⟩, ⟨[9], [], [12], [(.slot 8)]⟩]) (es' := [(_, _), (_, _), (_, _), (_, _), (7, .box 23 [.v (.bool v6.1.Null), .v (.string v6.1.Local), .v (.string v6.1.Domain)]), (8, .v (.int .i64 v6.2))]) (by kernel_rfl) rfl rfl
    ⟨st_plain rfl (op_move _ _ _ _ rfl rfl),
    st_plain rfl (op_callG _ _ 140 9 _ _ rfl Tryd.call9 rfl rfl (fun _ h => h) (ok_path_Parse mx s _ hv6) rfl rfl),
    st_plain rfl (op_move_take _ _ _ _ rfl),
    st_plain rfl (op_extract_no _ _ _ _ _ _ rfl rfl (Nat.le_of_ble_eq_true rfl) rfl rfl),
    st_plain rfl (op_extract _ _ _ _ _ rfl rfl (Nat.le_of_ble_eq_true rfl) rfl rfl),
    st_plain rfl (op_alloc _ _ zr23),
    st_plain rfl (op_store _ _ _ _ _ _ _ _ sz23 rfl rfl rfl rfl (Nat.le_of_ble_eq_true rfl) rfl rfl),
    st_plain rfl (op_assign _ _ _ _ rfl rfl),
    trivial⟩ ?_
   refine pt_then ?_
   refine ht_seq ?_
   obtain ⟨v7, hv7, h⟩ := bind_some h
   refine ht_seqR hn (El := [_, _, _, _, _, _, (39, .v (.string s)), (40, .tup [.agg [.v (.bool v7.1.Null), .v (.string v7.1.Local), .v (.string v7.1.Domain)], .v (.bool v7.2)]), (38, .tup [.agg [.v (.bool v7.1.Null), .v (.string v7.1.Local), .v (.string v7.1.Domain)], .v (.bool v7.2)]), (41, .agg [.v (.bool v7.1.Null), .v (.string v7.1.Local), .v (.string v7.1.Domain)]), (42, .v (.bool v7.2)), (9, .box 23 [.v (.bool false), .v (.string (⟨#[]⟩ : ByteArray)), .v (.string (⟨#[]⟩ : ByteArray))]), (9, .box 23 [.v (.bool v7.1.Null), .v (.string v7.1.Local), .v (.string v7.1.Domain)]), (10, .v (.bool v7.2))]) (init := [0, 1, 2, 3, 4, 5]) (fin := [0, 1, 2, 3, 4, 5, 12, 13]) (sps := [⟨[0], [], [6], [(.slot 39)]⟩, ⟨[6], [], [7], [(.slot 40)]⟩, ⟨[], [7], [8], [(.slot 38)]⟩, ⟨[8], [], [9], [(.slot 41)]⟩, ⟨[8], [], [10], [(.slot 42)]⟩, ⟨[], [], [11], [(.slot 9)]⟩, ⟨[9], [11], [12], [.cell 9 0, .cell 9 1, .cell 9 2]⟩, ⟨[10], [], [13], [(.slot 10)]⟩]) (es' := [(_, _), (_, _), (_, _), (_, _), (_, _), (_, _), (9, .box 23 [.v (.bool v7.1.Null), .v (.string v7.1.Local), .v (.string v7.1.Domain)]), (10, .v (.bool v7.2))]) (by kernel_rfl) rfl rfl
    ⟨st_plain rfl (op_move _ _ _ _ rfl rfl),
    st_plain rfl (op_call _ _ 10 _ _ rfl Tryd.call10 rfl (ok_wherryref11_Parse s _ hv7) rfl rfl),
    st_plain rfl (op_move_take _ _ _ _ rfl),
    st_plain rfl (op_extract_no _ _ _ _ _ _ rfl rfl (Nat.le_of_ble_eq_true rfl) rfl rfl),
    st_plain rfl (op_extract _ _ _ _ _ rfl rfl (Nat.le_of_ble_eq_true rfl) rfl rfl),
    st_plain rfl (op_alloc _ _ zr23),
    st_plain rfl (op_store _ _ _ _ _ _ _ _ sz23 rfl rfl rfl rfl (Nat.le_of_ble_eq_true rfl) rfl rfl),
    st_plain rfl (op_assign _ _ _ _ rfl rfl),
    trivial⟩ ?_
   refine pt_then ?_
   refine ht_seq ?_
   obtain ⟨v8, hv8, h⟩ := bind_some h
   refine ht_seqR hn (El := (_ :: _ :: _ :: _ :: _ :: _ :: _ :: _ :: (44, .agg [.v (.bool p.Null), .v (.string p.Local), .v (.string p.Domain)]) :: (45, .tup [.v (.string v8.1), .v (.int .i64 v8.2)]) :: (43, .tup [.v (.string v8.1), .v (.int .i64 v8.2)]) :: (46, .v (.string v8.1)) :: (47, .v (.int .i64 v8.2)) :: (11, .v (.string v8.1)) :: (12, .v (.int .i64 v8.2)) :: [])) (init := [0, 1, 2, 3, 4, 5, 6, 7]) (fin := [0, 1, 2, 3, 4, 5, 6, 7, 13, 14]) (sps := [⟨[2], [], [8], [(.slot 44)]⟩, ⟨[8, 1], [], [9], [(.slot 45)]⟩, ⟨[], [9], [10], [(.slot 43)]⟩, ⟨[10], [], [11], [(.slot 46)]⟩, ⟨[10], [], [12], [(.slot 47)]⟩, ⟨[11], [], [13], [(.slot 11)]⟩, ⟨[12], [], [14], [(.slot 12)]⟩]) (es' := [(_, _), (_, _), (_, _), (_, _), (_, _), (_, _), (_, _), (_, _), (11, .v (.string v8.1)), (12, .v (.int .i64 v8.2))]) (by kernel_rfl) rfl rfl
    ⟨st_plain rfl (op_loadA _ _ _ _ _ _ _ Tryd.underlying23 rfl sz23 rfl rfl (Nat.le_of_ble_eq_true rfl) rfl rfl),
    st_plain rfl (op_callG _ _ 140 11 _ _ rfl Tryd.call11 rfl rfl (fun _ h => h) (ok_path_Text mx p _ hv8) rfl rfl),
    st_plain rfl (op_move_take _ _ _ _ rfl),
    st_plain rfl (op_extract _ _ _ _ _ rfl rfl (Nat.le_of_ble_eq_true rfl) rfl rfl),
    st_plain rfl (op_extract _ _ _ _ _ rfl rfl (Nat.le_of_ble_eq_true rfl) rfl rfl),
    st_plain rfl (op_assign _ _ _ _ rfl rfl),
    st_plain rfl (op_assign _ _ _ _ rfl rfl),
    trivial⟩ ?_
   refine pt_then ?_
   refine ht_seq ?_
   obtain ⟨v9, hv9, h⟩ := bind_some h
   refine ht_seqR hn (El := [_, _, _, _, _, _, _, _, _, _, (48, .agg [.v (.bool p.Null), .v (.string p.Local), .v (.string p.Domain)]), (49, .v (.bool v9)), (13, .v (.bool v9))]) (init := [0, 1, 2, 3, 4, 5, 6, 7, 8, 9]) (fin := [0, 1, 2, 3, 4, 5, 6, 7, 8, 9, 12]) (sps := [⟨[2], [], [10], [(.slot 48)]⟩, ⟨[10], [], [11], [(.slot 49)]⟩, ⟨[11], [], [12], [(.slot 13)]⟩]) (es' := [(_, _), (_, _), (_, _), (_, _), (_, _), (_, _), (_, _), (_, _), (_, _), (_, _), (13, .v (.bool v9))]) (by kernel_rfl) rfl rfl
    ⟨st_plain rfl (op_loadA _ _ _ _ _ _ _ Tryd.underlying23 rfl sz23 rfl rfl (Nat.le_of_ble_eq_true rfl) rfl rfl),
    st_plain rfl (op_call _ _ 12 _ _ rfl Tryd.call12 rfl (ok_wherryref11_Path p _ hv9) rfl rfl),
    st_plain rfl (op_assign _ _ _ _ rfl rfl),
    trivial⟩ ?_
   refine pt_then ?_
   refine ht_seq ?_
   refine ht_seq ?_
   refine ht_joinS h (fun (s25 : Bool) => [(2, .v (.string s)), (140, .glob (GL mx)), (3, .box 23 [.v (.bool p.Null), .v (.string p.Local), .v (.string p.Domain)]), (4, .box 23 [.v (.bool q.Null), .v (.string q.Local), .v (.string q.Domain)]), (11, .v (.string v8.1)), (12, .v (.int .i64 v8.2)), (13, .v (.bool v9)), (90, .v (.bool s25))]) ?_ ?_
   ·rintro s25 h
    refine pt_then ?_
    refine ht_cond _ rfl (fun hb29 => ?_) (fun hb29 => ?_)
    ·have h := cond_t hb29 h
     refine ht_seq ?_
     refine ht_seqR hn (El := [_, _, _, _, _, _, _, _, (6, .v (.bool false))]) (init := [0, 1, 2, 3, 4, 5, 6, 7]) (fin := [1, 8]) (sps := [⟨[], [], [8], [(.slot 6)]⟩]) (es' := [(_, _), (6, .v (.bool false))]) (by kernel_rfl) rfl rfl
      ⟨st_plain rfl (op_assign _ _ _ _ rfl rfl),
      trivial⟩ ?_
     refine pt_then ?_
     refine ht_ret ?_
     refine pt_pick [1] (by kernel_rfl) (es' := [(_, _)]) rfl ?_
     refine pt_r_then ?_
     obtain rfl := Option.some.inj h
     exact pt_ret hio rfl (.tmp _ _ .nil) rfl rfl
    ·have h := cond_f hb29 h
     refine ht_skip ?_
     refine pt_then ?_
     refine ht_seq ?_
     refine ht_seq ?_
     refine ht_joinS h (fun (s31 : Bool) => [(2, .v (.string s)), (140, .glob (GL mx)), (3, .box 23 [.v (.bool p.Null), .v (.string p.Local), .v (.string p.Domain)]), (4, .box 23 [.v (.bool q.Null), .v (.string q.Local), .v (.string q.Domain)]), (113, .v (.bool s31))]) ?_ ?_
     ·rintro s31 h
      refine pt_then ?_
      refine ht_cond _ rfl (fun hb35 => ?_) (fun hb35 => ?_)
      ·have h := cond_t hb35 h
       refine ht_seq ?_
       refine ht_seqR hn (El := [_, _, _, _, _, (6, .v (.bool false))]) (init := [0, 1, 2, 3, 4]) (fin := [1, 5]) (sps := [⟨[], [], [5], [(.slot 6)]⟩]) (es' := [(_, _), (6, .v (.bool false))]) (by kernel_rfl) rfl rfl
        ⟨st_plain rfl (op_assign _ _ _ _ rfl rfl),
        trivial⟩ ?_
       refine pt_then ?_
       refine ht_ret ?_
       refine pt_pick [1] (by kernel_rfl) (es' := [(_, _)]) rfl ?_
       refine pt_r_then ?_
       obtain rfl := Option.some.inj h
       exact pt_ret hio rfl (.tmp _ _ .nil) rfl rfl
      ·have h := cond_f hb35 h
       refine ht_skip ?_
       refine pt_then ?_
       refine ht_seq ?_
       refine ht_joinS h (fun (s45 : Bool) => [(140, .glob (GL mx)), (6, .v (.bool s45))]) ?_ ?_
       ·rintro s45 h
        refine pt_then ?_
        refine ht_ret ?_
        refine pt_pick [1] (by kernel_rfl) (es' := [(_, _)]) rfl ?_
        obtain rfl := Option.some.inj h
        exact pt_ret hio rfl (.tmp _ _ .nil) rfl rfl
       ·intro u46 h hl47 hr48
        obtain ⟨v36, hv36, h⟩ := bind_some h
        obtain ⟨v37, hv37, h⟩ := bind_some h
        obtain ⟨v38, hv38, h⟩ := bind_some h
        refine cond_some h (fun hg11_7 h => ?_) (fun hg11_7 h => ?_)
        ·obtain ⟨v39, hv39, h⟩ := bind_some h
         obtain ⟨v40, hv40, h⟩ := bind_some h
         obtain ⟨v41, hv41, h⟩ := bind_some h
         refine cond_some h (fun hg11_16 h => ?_) (fun hg11_16 h => ?_)
         ·obtain ⟨v42, hv42, h⟩ := bind_some h
          obtain ⟨v43, hv43, h⟩ := bind_some h
          refine cond_some h (fun hg11_23 h => ?_) (fun hg11_23 h => ?_)
          ·obtain ⟨v44, hv44, h⟩ := bind_some h
           refine ht_anyR (by kernel_rfl) hn (El := (_ :: _ :: _ :: _ :: _ :: (114, .agg [.v (.bool p.Null), .v (.string p.Local), .v (.string p.Domain)]) :: (115, .agg [.v (.bool q.Null), .v (.string q.Local), .v (.string q.Domain)]) :: (116, .v (.bool v36)) :: (117, .agg [.v (.bool p.Null), .v (.string p.Local), .v (.string p.Domain)]) :: (118, .agg [.v (.bool q.Null), .v (.string q.Local), .v (.string q.Domain)]) :: (119, .v (.bool v37)) :: (120, .v (.bool (v36 == v37))) :: (121, .v (.bool true)) :: (122, .agg [.v (.bool p.Null), .v (.string p.Local), .v (.string p.Domain)]) :: (123, .v (.string s)) :: (124, .v (.bool v39)) :: (125, .agg [.v (.bool p.Null), .v (.string p.Local), .v (.string p.Domain)]) :: (126, .v (.string s)) :: (127, .v (.bool v40)) :: (128, .v (.bool (v39 == v40))) :: (129, .v (.bool (v39 == v40))) :: (130, .v (.bool true)) :: (131, .v (.string s)) :: (132, .v (.string v42)) :: (133, .v (.string s)) :: (134, .v (.string v43)) :: (135, .v (.bool (v42.toList == v43.toList))) :: (136, .v (.bool (v42.toList == v43.toList))) :: (137, .v (.bool true)) :: (138, .v (.bool v44)) :: (139, .v (.bool v44)) :: (6, .v (.bool v44)) :: [])) (init := [0, 1, 2, 3, 4]) (fin := [1, 31]) (sps := (⟨[2], [], [5], [(.slot 114)]⟩ :: ⟨[3], [], [6], [(.slot 115)]⟩ :: ⟨[5, 6, 1], [], [7], [(.slot 116)]⟩ :: ⟨[2], [], [8], [(.slot 117)]⟩ :: ⟨[3], [], [9], [(.slot 118)]⟩ :: ⟨[8, 9], [], [10], [(.slot 119)]⟩ :: ⟨[7, 10], [], [11], [(.slot 120)]⟩ :: ⟨[11], [], [12], [(.slot 121)]⟩ :: ⟨[12, 2], [], [13], [(.slot 122)]⟩ :: ⟨[12, 0], [], [14], [(.slot 123)]⟩ :: ⟨[12, 13, 14, 1], [], [15], [(.slot 124)]⟩ :: ⟨[12, 2], [], [16], [(.slot 125)]⟩ :: ⟨[12, 0], [], [17], [(.slot 126)]⟩ :: ⟨[12, 16, 17], [], [18], [(.slot 127)]⟩ :: ⟨[12, 15, 18], [], [19], [(.slot 128)]⟩ :: ⟨[12, 19], [], [20], [(.slot 129)]⟩ :: ⟨[20], [], [21], [(.slot 130)]⟩ :: ⟨[21, 0], [], [22], [(.slot 131)]⟩ :: ⟨[21, 22], [], [23], [(.slot 132)]⟩ :: ⟨[21, 0], [], [24], [(.slot 133)]⟩ :: ⟨[21, 24], [], [25], [(.slot 134)]⟩ :: ⟨[21, 23, 25], [], [26], [(.slot 135)]⟩ :: ⟨[21, 26], [], [27], [(.slot 136)]⟩ :: ⟨[27], [], [28], [(.slot 137)]⟩ :: ⟨[28, 1], [], [29], [(.slot 138)]⟩ :: ⟨[28, 29], [], [30], [(.slot 139)]⟩ :: ⟨[30], [], [31], [(.slot 6)]⟩ :: [])) (es' := [(_, _), (6, .v (.bool v44))]) (by kernel_rfl) rfl rfl
            ⟨st_plain rfl (op_loadA _ _ _ _ _ _ _ Tryd.underlying23 rfl sz23 rfl rfl (Nat.le_of_ble_eq_true rfl) rfl rfl),
            st_plain rfl (op_loadA _ _ _ _ _ _ _ Tryd.underlying23 rfl sz23 rfl rfl (Nat.le_of_ble_eq_true rfl) rfl rfl),
            st_plain rfl (op_callG _ _ 140 18 _ _ rfl Tryd.call18 rfl rfl (fun _ h => h) (ok_path_Same mx (T_Path.mk p.Null p.Local p.Domain) (T_Path.mk q.Null q.Local q.Domain) _ hv36) rfl rfl),
            st_plain rfl (op_loadA _ _ _ _ _ _ _ Tryd.underlying23 rfl sz23 rfl rfl (Nat.le_of_ble_eq_true rfl) rfl rfl),
            st_plain rfl (op_loadA _ _ _ _ _ _ _ Tryd.underlying23 rfl sz23 rfl rfl (Nat.le_of_ble_eq_true rfl) rfl rfl),
            st_plain rfl (op_call _ _ 19 _ _ rfl Tryd.call19 rfl (ok_wherryref11_Same (T_Path.mk p.Null p.Local p.Domain) (T_Path.mk q.Null q.Local q.Domain) _ hv37) rfl rfl),
            st_plain rfl (op_beq _ _ _ _ Tryd.underlying4 rfl rfl),
            st_plain rfl (op_move _ _ _ _ (congrArg (fun b => AV.v (Value.bool b)) hg11_7) rfl),
            st_run 7 121 true rfl rfl rfl (List.Mem.head _) (op_loadA _ _ _ _ _ _ _ Tryd.underlying23 rfl sz23 rfl rfl (Nat.le_of_ble_eq_true rfl) rfl rfl),
            st_run 7 121 true rfl rfl rfl (List.Mem.head _) (op_move _ _ _ _ rfl rfl),
            st_run 7 121 true rfl rfl rfl (List.Mem.head _) (op_callG _ _ 140 20 _ _ rfl Tryd.call20 rfl rfl (fun _ h => h) (ok_path_At mx (T_Path.mk p.Null p.Local p.Domain) s _ hv39) rfl rfl),
            st_run 7 121 true rfl rfl rfl (List.Mem.head _) (op_loadA _ _ _ _ _ _ _ Tryd.underlying23 rfl sz23 rfl rfl (Nat.le_of_ble_eq_true rfl) rfl rfl),
            st_run 7 121 true rfl rfl rfl (List.Mem.head _) (op_move _ _ _ _ rfl rfl),
            st_run 7 121 true rfl rfl rfl (List.Mem.head _) (op_call _ _ 21 _ _ rfl Tryd.call21 rfl (ok_wherryref11_At (T_Path.mk p.Null p.Local p.Domain) s _ hv40) rfl rfl),
            st_run 7 121 true rfl rfl rfl (List.Mem.head _) (op_beq _ _ _ _ Tryd.underlying4 rfl rfl),
            st_plain rfl (op_pick _ _ true _ rfl rfl),
            st_plain rfl (op_move _ _ _ _ (congrArg (fun b => AV.v (Value.bool b)) hg11_16) rfl),
            st_run 16 130 true rfl rfl rfl (List.Mem.head _) (op_move _ _ _ _ rfl rfl),
            st_run 16 130 true rfl rfl rfl (List.Mem.head _) (op_call _ _ 22 _ _ rfl Tryd.call22 rfl (ok_path_Fold s _ hv42) rfl rfl),
            st_run 16 130 true rfl rfl rfl (List.Mem.head _) (op_move _ _ _ _ rfl rfl),
            st_run 16 130 true rfl rfl rfl (List.Mem.head _) (op_call _ _ 23 _ _ rfl Tryd.call23 rfl (ok_wherryref11_Fold s _ hv43) rfl rfl),
            st_run 16 130 true rfl rfl rfl (List.Mem.head _) (op_bin _ _ _ _ _ rfl rfl rfl),
            st_plain rfl (op_pick _ _ true _ rfl rfl),
            st_plain rfl (op_move _ _ _ _ (congrArg (fun b => AV.v (Value.bool b)) hg11_23) rfl),
            st_run 23 137 true rfl rfl rfl (List.Mem.head _) (op_callG _ _ 140 24 _ _ rfl Tryd.call24 rfl rfl (fun _ h => h) (ok_wherrylaw11_wakes mx  _ hv44) rfl rfl),
            st_plain rfl (op_pick _ _ true _ rfl rfl),
            st_plain rfl (op_assign _ _ _ _ rfl rfl),
            trivial⟩ ?_
           exact hl47 _ (Option.some.inj h).symm
          ·refine ht_anyR (by kernel_rfl) hn (El := (_ :: _ :: _ :: _ :: _ :: (114, .agg [.v (.bool p.Null), .v (.string p.Local), .v (.string p.Domain)]) :: (115, .agg [.v (.bool q.Null), .v (.string q.Local), .v (.string q.Domain)]) :: (116, .v (.bool v36)) :: (117, .agg [.v (.bool p.Null), .v (.string p.Local), .v (.string p.Domain)]) :: (118, .agg [.v (.bool q.Null), .v (.string q.Local), .v (.string q.Domain)]) :: (119, .v (.bool v37)) :: (120, .v (.bool (v36 == v37))) :: (121, .v (.bool true)) :: (122, .agg [.v (.bool p.Null), .v (.string p.Local), .v (.string p.Domain)]) :: (123, .v (.string s)) :: (124, .v (.bool v39)) :: (125, .agg [.v (.bool p.Null), .v (.string p.Local), .v (.string p.Domain)]) :: (126, .v (.string s)) :: (127, .v (.bool v40)) :: (128, .v (.bool (v39 == v40))) :: (129, .v (.bool (v39 == v40))) :: (130, .v (.bool true)) :: (131, .v (.string s)) :: (132, .v (.string v42)) :: (133, .v (.string s)) :: (134, .v (.string v43)) :: (135, .v (.bool (v42.toList == v43.toList))) :: (136, .v (.bool (v42.toList == v43.toList))) :: (137, .v (.bool false)) :: (138, .v undef) :: (139, .v (.bool false)) :: (6, .v (.bool false)) :: [])) (init := [0, 1, 2, 3, 4]) (fin := [1, 31]) (sps := (⟨[2], [], [5], [(.slot 114)]⟩ :: ⟨[3], [], [6], [(.slot 115)]⟩ :: ⟨[5, 6, 1], [], [7], [(.slot 116)]⟩ :: ⟨[2], [], [8], [(.slot 117)]⟩ :: ⟨[3], [], [9], [(.slot 118)]⟩ :: ⟨[8, 9], [], [10], [(.slot 119)]⟩ :: ⟨[7, 10], [], [11], [(.slot 120)]⟩ :: ⟨[11], [], [12], [(.slot 121)]⟩ :: ⟨[12, 2], [], [13], [(.slot 122)]⟩ :: ⟨[12, 0], [], [14], [(.slot 123)]⟩ :: ⟨[12, 13, 14, 1], [], [15], [(.slot 124)]⟩ :: ⟨[12, 2], [], [16], [(.slot 125)]⟩ :: ⟨[12, 0], [], [17], [(.slot 126)]⟩ :: ⟨[12, 16, 17], [], [18], [(.slot 127)]⟩ :: ⟨[12, 15, 18], [], [19], [(.slot 128)]⟩ :: ⟨[12, 19], [], [20], [(.slot 129)]⟩ :: ⟨[20], [], [21], [(.slot 130)]⟩ :: ⟨[21, 0], [], [22], [(.slot 131)]⟩ :: ⟨[21, 22], [], [23], [(.slot 132)]⟩ :: ⟨[21, 0], [], [24], [(.slot 133)]⟩ :: ⟨[21, 24], [], [25], [(.slot 134)]⟩ :: ⟨[21, 23, 25], [], [26], [(.slot 135)]⟩ :: ⟨[21, 26], [], [27], [(.slot 136)]⟩ :: ⟨[27], [], [28], [(.slot 137)]⟩ :: ⟨[28], [], [29], [(.slot 138)]⟩ :: ⟨[28], [], [30], [(.slot 139)]⟩ :: ⟨[30], [], [31], [(.slot 6)]⟩ :: [])) (es' := [(_, _), (6, .v (.bool false))]) (by kernel_rfl) rfl rfl
            ⟨st_plain rfl (op_loadA _ _ _ _ _ _ _ Tryd.underlying23 rfl sz23 rfl rfl (Nat.le_of_ble_eq_true rfl) rfl rfl),
            st_plain rfl (op_loadA _ _ _ _ _ _ _ Tryd.underlying23 rfl sz23 rfl rfl (Nat.le_of_ble_eq_true rfl) rfl rfl),
            st_plain rfl (op_callG _ _ 140 18 _ _ rfl Tryd.call18 rfl rfl (fun _ h => h) (ok_path_Same mx (T_Path.mk p.Null p.Local p.Domain) (T_Path.mk q.Null q.Local q.Domain) _ hv36) rfl rfl),
            st_plain rfl (op_loadA _ _ _ _ _ _ _ Tryd.underlying23 rfl sz23 rfl rfl (Nat.le_of_ble_eq_true rfl) rfl rfl),
            st_plain rfl (op_loadA _ _ _ _ _ _ _ Tryd.underlying23 rfl sz23 rfl rfl (Nat.le_of_ble_eq_true rfl) rfl rfl),
            st_plain rfl (op_call _ _ 19 _ _ rfl Tryd.call19 rfl (ok_wherryref11_Same (T_Path.mk p.Null p.Local p.Domain) (T_Path.mk q.Null q.Local q.Domain) _ hv37) rfl rfl),
            st_plain rfl (op_beq _ _ _ _ Tryd.underlying4 rfl rfl),
            st_plain rfl (op_move _ _ _ _ (congrArg (fun b => AV.v (Value.bool b)) hg11_7) rfl),
            st_run 7 121 true rfl rfl rfl (List.Mem.head _) (op_loadA _ _ _ _ _ _ _ Tryd.underlying23 rfl sz23 rfl rfl (Nat.le_of_ble_eq_true rfl) rfl rfl),
            st_run 7 121 true rfl rfl rfl (List.Mem.head _) (op_move _ _ _ _ rfl rfl),
            st_run 7 121 true rfl rfl rfl (List.Mem.head _) (op_callG _ _ 140 20 _ _ rfl Tryd.call20 rfl rfl (fun _ h => h) (ok_path_At mx (T_Path.mk p.Null p.Local p.Domain) s _ hv39) rfl rfl),
            st_run 7 121 true rfl rfl rfl (List.Mem.head _) (op_loadA _ _ _ _ _ _ _ Tryd.underlying23 rfl sz23 rfl rfl (Nat.le_of_ble_eq_true rfl) rfl rfl),
            st_run 7 121 true rfl rfl rfl (List.Mem.head _) (op_move _ _ _ _ rfl rfl),
            st_run 7 121 true rfl rfl rfl (List.Mem.head _) (op_call _ _ 21 _ _ rfl Tryd.call21 rfl (ok_wherryref11_At (T_Path.mk p.Null p.Local p.Domain) s _ hv40) rfl rfl),
            st_run 7 121 true rfl rfl rfl (List.Mem.head _) (op_beq _ _ _ _ Tryd.underlying4 rfl rfl),
            st_plain rfl (op_pick _ _ true _ rfl rfl),
            st_plain rfl (op_move _ _ _ _ (congrArg (fun b => AV.v (Value.bool b)) hg11_16) rfl),
            st_run 16 130 true rfl rfl rfl (List.Mem.head _) (op_move _ _ _ _ rfl rfl),
            st_run 16 130 true rfl rfl rfl (List.Mem.head _) (op_call _ _ 22 _ _ rfl Tryd.call22 rfl (ok_path_Fold s _ hv42) rfl rfl),
            st_run 16 130 true rfl rfl rfl (List.Mem.head _) (op_move _ _ _ _ rfl rfl),
            st_run 16 130 true rfl rfl rfl (List.Mem.head _) (op_call _ _ 23 _ _ rfl Tryd.call23 rfl (ok_wherryref11_Fold s _ hv43) rfl rfl),
            st_run 16 130 true rfl rfl rfl (List.Mem.head _) (op_bin _ _ _ _ _ rfl rfl rfl),
            st_plain rfl (op_pick _ _ true _ rfl rfl),
            st_plain rfl (op_move _ _ _ _ (congrArg (fun b => AV.v (Value.bool b)) hg11_23) rfl),
            st_skip 23 137 _ true rfl rfl rfl rfl (List.Mem.head _),
            st_plain rfl (op_pick _ _ false _ rfl rfl),
            st_plain rfl (op_assign _ _ _ _ rfl rfl),
            trivial⟩ ?_
           exact hl47 _ (Option.some.inj h).symm
         ·refine ht_anyR (by kernel_rfl) hn (El := (_ :: _ :: _ :: _ :: _ :: (114, .agg [.v (.bool p.Null), .v (.string p.Local), .v (.string p.Domain)]) :: (115, .agg [.v (.bool q.Null), .v (.string q.Local), .v (.string q.Domain)]) :: (116, .v (.bool v36)) :: (117, .agg [.v (.bool p.Null), .v (.string p.Local), .v (.string p.Domain)]) :: (118, .agg [.v (.bool q.Null), .v (.string q.Local), .v (.string q.Domain)]) :: (119, .v (.bool v37)) :: (120, .v (.bool (v36 == v37))) :: (121, .v (.bool true)) :: (122, .agg [.v (.bool p.Null), .v (.string p.Local), .v (.string p.Domain)]) :: (123, .v (.string s)) :: (124, .v (.bool v39)) :: (125, .agg [.v (.bool p.Null), .v (.string p.Local), .v (.string p.Domain)]) :: (126, .v (.string s)) :: (127, .v (.bool v40)) :: (128, .v (.bool (v39 == v40))) :: (129, .v (.bool (v39 == v40))) :: (130, .v (.bool false)) :: (131, .v undef) :: (132, .v undef) :: (133, .v undef) :: (134, .v undef) :: (135, .v undef) :: (136, .v (.bool false)) :: (137, .v (.bool false)) :: (138, .v undef) :: (139, .v (.bool false)) :: (6, .v (.bool false)) :: [])) (init := [0, 1, 2, 3, 4]) (fin := [1, 31]) (sps := (⟨[2], [], [5], [(.slot 114)]⟩ :: ⟨[3], [], [6], [(.slot 115)]⟩ :: ⟨[5, 6, 1], [], [7], [(.slot 116)]⟩ :: ⟨[2], [], [8], [(.slot 117)]⟩ :: ⟨[3], [], [9], [(.slot 118)]⟩ :: ⟨[8, 9], [], [10], [(.slot 119)]⟩ :: ⟨[7, 10], [], [11], [(.slot 120)]⟩ :: ⟨[11], [], [12], [(.slot 121)]⟩ :: ⟨[12, 2], [], [13], [(.slot 122)]⟩ :: ⟨[12, 0], [], [14], [(.slot 123)]⟩ :: ⟨[12, 13, 14, 1], [], [15], [(.slot 124)]⟩ :: ⟨[12, 2], [], [16], [(.slot 125)]⟩ :: ⟨[12, 0], [], [17], [(.slot 126)]⟩ :: ⟨[12, 16, 17], [], [18], [(.slot 127)]⟩ :: ⟨[12, 15, 18], [], [19], [(.slot 128)]⟩ :: ⟨[12, 19], [], [20], [(.slot 129)]⟩ :: ⟨[20], [], [21], [(.slot 130)]⟩ :: ⟨[21], [], [22], [(.slot 131)]⟩ :: ⟨[21], [], [23], [(.slot 132)]⟩ :: ⟨[21], [], [24], [(.slot 133)]⟩ :: ⟨[21], [], [25], [(.slot 134)]⟩ :: ⟨[21], [], [26], [(.slot 135)]⟩ :: ⟨[21], [], [27], [(.slot 136)]⟩ :: ⟨[27], [], [28], [(.slot 137)]⟩ :: ⟨[28], [], [29], [(.slot 138)]⟩ :: ⟨[28], [], [30], [(.slot 139)]⟩ :: ⟨[30], [], [31], [(.slot 6)]⟩ :: [])) (es' := [(_, _), (6, .v (.bool false))]) (by kernel_rfl) rfl rfl
           ⟨st_plain rfl (op_loadA _ _ _ _ _ _ _ Tryd.underlying23 rfl sz23 rfl rfl (Nat.le_of_ble_eq_true rfl) rfl rfl),
           st_plain rfl (op_loadA _ _ _ _ _ _ _ Tryd.underlying23 rfl sz23 rfl rfl (Nat.le_of_ble_eq_true rfl) rfl rfl),
           st_plain rfl (op_callG _ _ 140 18 _ _ rfl Tryd.call18 rfl rfl (fun _ h => h) (ok_path_Same mx (T_Path.mk p.Null p.Local p.Domain) (T_Path.mk q.Null q.Local q.Domain) _ hv36) rfl rfl),
           st_plain rfl (op_loadA _ _ _ _ _ _ _ Tryd.underlying23 rfl sz23 rfl rfl (Nat.le_of_ble_eq_true rfl) rfl rfl),
           st_plain rfl (op_loadA _ _ _ _ _ _ _ Tryd.underlying23 rfl sz23 rfl rfl (Nat.le_of_ble_eq_true rfl) rfl rfl),
           st_plain rfl (op_call _ _ 19 _ _ rfl Tryd.call19 rfl (ok_wherryref11_Same (T_Path.mk p.Null p.Local p.Domain) (T_Path.mk q.Null q.Local q.Domain) _ hv37) rfl rfl),
           st_plain rfl (op_beq _ _ _ _ Tryd.underlying4 rfl rfl),
           st_plain rfl (op_move _ _ _ _ (congrArg (fun b => AV.v (Value.bool b)) hg11_7) rfl),
           st_run 7 121 true rfl rfl rfl (List.Mem.head _) (op_loadA _ _ _ _ _ _ _ Tryd.underlying23 rfl sz23 rfl rfl (Nat.le_of_ble_eq_true rfl) rfl rfl),
           st_run 7 121 true rfl rfl rfl (List.Mem.head _) (op_move _ _ _ _ rfl rfl),
           st_run 7 121 true rfl rfl rfl (List.Mem.head _) (op_callG _ _ 140 20 _ _ rfl Tryd.call20 rfl rfl (fun _ h => h) (ok_path_At mx (T_Path.mk p.Null p.Local p.Domain) s _ hv39) rfl rfl),
           st_run 7 121 true rfl rfl rfl (List.Mem.head _) (op_loadA _ _ _ _ _ _ _ Tryd.underlying23 rfl sz23 rfl rfl (Nat.le_of_ble_eq_true rfl) rfl rfl),
           st_run 7 121 true rfl rfl rfl (List.Mem.head _) (op_move _ _ _ _ rfl rfl),
           st_run 7 121 true rfl rfl rfl (List.Mem.head _) (op_call _ _ 21 _ _ rfl Tryd.call21 rfl (ok_wherryref11_At (T_Path.mk p.Null p.Local p.Domain) s _ hv40) rfl rfl),
           st_run 7 121 true rfl rfl rfl (List.Mem.head _) (op_beq _ _ _ _ Tryd.underlying4 rfl rfl),
           st_plain rfl (op_pick _ _ true _ rfl rfl),
           st_plain rfl (op_move _ _ _ _ (congrArg (fun b => AV.v (Value.bool b)) hg11_16) rfl),
           st_skip 16 130 _ true rfl rfl rfl rfl (List.Mem.head _),
           st_skip 16 130 _ true rfl rfl rfl rfl (List.Mem.head _),
           st_skip 16 130 _ true rfl rfl rfl rfl (List.Mem.head _),
           st_skip 16 130 _ true rfl rfl rfl rfl (List.Mem.head _),
           st_skip 16 130 _ true rfl rfl rfl rfl (List.Mem.head _),
           st_plain rfl (op_pick _ _ false _ rfl rfl),
           st_plain rfl (op_move _ _ _ _ rfl rfl),
           st_skip 23 137 _ true rfl rfl rfl rfl (List.Mem.head _),
           st_plain rfl (op_pick _ _ false _ rfl rfl),
           st_plain rfl (op_assign _ _ _ _ rfl rfl),
           trivial⟩ ?_
          exact hl47 _ (Option.some.inj h).symm
        ·refine ht_anyR (by kernel_rfl) hn (El := (_ :: _ :: _ :: _ :: _ :: (114, .agg [.v (.bool p.Null), .v (.string p.Local), .v (.string p.Domain)]) :: (115, .agg [.v (.bool q.Null), .v (.string q.Local), .v (.string q.Domain)]) :: (116, .v (.bool v36)) :: (117, .agg [.v (.bool p.Null), .v (.string p.Local), .v (.string p.Domain)]) :: (118, .agg [.v (.bool q.Null), .v (.string q.Local), .v (.string q.Domain)]) :: (119, .v (.bool v37)) :: (120, .v (.bool (v36 == v37))) :: (121, .v (.bool false)) :: (122, .v undef) :: (123, .v undef) :: (124, .v undef) :: (125, .v undef) :: (126, .v undef) :: (127, .v undef) :: (128, .v undef) :: (129, .v (.bool false)) :: (130, .v (.bool false)) :: (131, .v undef) :: (132, .v undef) :: (133, .v undef) :: (134, .v undef) :: (135, .v undef) :: (136, .v (.bool false)) :: (137, .v (.bool false)) :: (138, .v undef) :: (139, .v (.bool false)) :: (6, .v (.bool false)) :: [])) (init := [0, 1, 2, 3, 4]) (fin := [1, 31]) (sps := (⟨[2], [], [5], [(.slot 114)]⟩ :: ⟨[3], [], [6], [(.slot 115)]⟩ :: ⟨[5, 6, 1], [], [7], [(.slot 116)]⟩ :: ⟨[2], [], [8], [(.slot 117)]⟩ :: ⟨[3], [], [9], [(.slot 118)]⟩ :: ⟨[8, 9], [], [10], [(.slot 119)]⟩ :: ⟨[7, 10], [], [11], [(.slot 120)]⟩ :: ⟨[11], [], [12], [(.slot 121)]⟩ :: ⟨[12], [], [13], [(.slot 122)]⟩ :: ⟨[12], [], [14], [(.slot 123)]⟩ :: ⟨[12], [], [15], [(.slot 124)]⟩ :: ⟨[12], [], [16], [(.slot 125)]⟩ :: ⟨[12], [], [17], [(.slot 126)]⟩ :: ⟨[12], [], [18], [(.slot 127)]⟩ :: ⟨[12], [], [19], [(.slot 128)]⟩ :: ⟨[12], [], [20], [(.slot 129)]⟩ :: ⟨[20], [], [21], [(.slot 130)]⟩ :: ⟨[21], [], [22], [(.slot 131)]⟩ :: ⟨[21], [], [23], [(.slot 132)]⟩ :: ⟨[21], [], [24], [(.slot 133)]⟩ :: ⟨[21], [], [25], [(.slot 134)]⟩ :: ⟨[21], [], [26], [(.slot 135)]⟩ :: ⟨[21], [], [27], [(.slot 136)]⟩ :: ⟨[27], [], [28], [(.slot 137)]⟩ :: ⟨[28], [], [29], [(.slot 138)]⟩ :: ⟨[28], [], [30], [(.slot 139)]⟩ :: ⟨[30], [], [31], [(.slot 6)]⟩ :: [])) (es' := [(_, _), (6, .v (.bool false))]) (by kernel_rfl) rfl rfl
          ⟨st_plain rfl (op_loadA _ _ _ _ _ _ _ Tryd.underlying23 rfl sz23 rfl rfl (Nat.le_of_ble_eq_true rfl) rfl rfl),
          st_plain rfl (op_loadA _ _ _ _ _ _ _ Tryd.underlying23 rfl sz23 rfl rfl (Nat.le_of_ble_eq_true rfl) rfl rfl),
          st_plain rfl (op_callG _ _ 140 18 _ _ rfl Tryd.call18 rfl rfl (fun _ h => h) (ok_path_Same mx (T_Path.mk p.Null p.Local p.Domain) (T_Path.mk q.Null q.Local q.Domain) _ hv36) rfl rfl),
          st_plain rfl (op_loadA _ _ _ _ _ _ _ Tryd.underlying23 rfl sz23 rfl rfl (Nat.le_of_ble_eq_true rfl) rfl rfl),
          st_plain rfl (op_loadA _ _ _ _ _ _ _ Tryd.underlying23 rfl sz23 rfl rfl (Nat.le_of_ble_eq_true rfl) rfl rfl),
          st_plain rfl (op_call _ _ 19 _ _ rfl Tryd.call19 rfl (ok_wherryref11_Same (T_Path.mk p.Null p.Local p.Domain) (T_Path.mk q.Null q.Local q.Domain) _ hv37) rfl rfl),
          st_plain rfl (op_beq _ _ _ _ Tryd.underlying4 rfl rfl),
          st_plain rfl (op_move _ _ _ _ (congrArg (fun b => AV.v (Value.bool b)) hg11_7) rfl),
          st_skip 7 121 _ true rfl rfl rfl rfl (List.Mem.head _),
          st_skip 7 121 _ true rfl rfl rfl rfl (List.Mem.head _),
          st_skip 7 121 _ true rfl rfl rfl rfl (List.Mem.head _),
          st_skip 7 121 _ true rfl rfl rfl rfl (List.Mem.head _),
          st_skip 7 121 _ true rfl rfl rfl rfl (List.Mem.head _),
          st_skip 7 121 _ true rfl rfl rfl rfl (List.Mem.head _),
          st_skip 7 121 _ true rfl rfl rfl rfl (List.Mem.head _),
          st_plain rfl (op_pick _ _ false _ rfl rfl),
          st_plain rfl (op_move _ _ _ _ rfl rfl),
          st_skip 16 130 _ true rfl rfl rfl rfl (List.Mem.head _),
          st_skip 16 130 _ true rfl rfl rfl rfl (List.Mem.head _),
          st_skip 16 130 _ true rfl rfl rfl rfl (List.Mem.head _),
          st_skip 16 130 _ true rfl rfl rfl rfl (List.Mem.head _),
          st_skip 16 130 _ true rfl rfl rfl rfl (List.Mem.head _),
          st_plain rfl (op_pick _ _ false _ rfl rfl),
          st_plain rfl (op_move _ _ _ _ rfl rfl),
          st_skip 23 137 _ true rfl rfl rfl rfl (List.Mem.head _),
          st_plain rfl (op_pick _ _ false _ rfl rfl),
          st_plain rfl (op_assign _ _ _ _ rfl rfl),
          trivial⟩ ?_
         exact hl47 _ (Option.some.inj h).symm
     ·intro u32 h hl33 hr34
      refine cond_some h (fun hg9_1 h => ?_) (fun hg9_1 h => ?_)
      ·refine cond_some h (fun hg9_4 h => ?_) (fun hg9_4 h => ?_)
       ·refine ht_seqR hn (El := (_ :: _ :: _ :: _ :: _ :: _ :: _ :: _ :: (91, .v (.bool v9)) :: (92, .v (.bool true)) :: (93, .v (.int .i64 v8.2)) :: (94, .v (.bool (v8.2 != 0))) :: (95, .v (.bool true)) :: (96, .v undef) :: (97, .v undef) :: (98, .v undef) :: (99, .v undef) :: (100, .v (.bool true)) :: (101, .v (.bool true)) :: (102, .v (.bool true)) :: (103, .v undef) :: (104, .v undef) :: (105, .v undef) :: (106, .v undef) :: (107, .v undef) :: (108, .v undef) :: (109, .v undef) :: (110, .v undef) :: (111, .v undef) :: (112, .v undef) :: (113, .v (.bool true)) :: [])) (init := [0, 1, 2, 3, 4, 5, 6, 7]) (fin := [0, 1, 2, 3, 30]) (sps := (⟨[6], [], [8], [(.slot 91)]⟩ :: ⟨[8], [], [9], [(.slot 92)]⟩ :: ⟨[9, 5], [], [10], [(.slot 93)]⟩ :: ⟨[9, 10], [], [11], [(.slot 94)]⟩ :: ⟨[9, 11], [], [12], [(.slot 95)]⟩ :: ⟨[12], [], [13], [(.slot 96)]⟩ :: ⟨[12], [], [14], [(.slot 97)]⟩ :: ⟨[12], [], [15], [(.slot 98)]⟩ :: ⟨[12], [], [16], [(.slot 99)]⟩ :: ⟨[9, 12], [], [17], [(.slot 100)]⟩ :: ⟨[9, 17], [], [18], [(.slot 101)]⟩ :: ⟨[18], [], [19], [(.slot 102)]⟩ :: ⟨[19], [], [20], [(.slot 103)]⟩ :: ⟨[19], [], [21], [(.slot 104)]⟩ :: ⟨[19], [], [22], [(.slot 105)]⟩ :: ⟨[22], [], [23], [(.slot 106)]⟩ :: ⟨[22], [], [24], [(.slot 107)]⟩ :: ⟨[22], [], [25], [(.slot 108)]⟩ :: ⟨[25], [], [26], [(.slot 109)]⟩ :: ⟨[25], [], [27], [(.slot 110)]⟩ :: ⟨[22], [], [28], [(.slot 111)]⟩ :: ⟨[19], [], [29], [(.slot 112)]⟩ :: ⟨[19], [], [30], [(.slot 113)]⟩ :: [])) (es' := [(_, _), (_, _), (_, _), (_, _), (113, .v (.bool true))]) (by kernel_rfl) rfl rfl
         ⟨st_plain rfl (op_move _ _ _ _ rfl rfl),
         st_plain rfl (op_move _ _ _ _ (congrArg (fun b => AV.v (Value.bool b)) hg9_1) rfl),
         st_run 1 92 true rfl rfl rfl (List.Mem.head _) (op_move _ _ _ _ rfl rfl),
         st_run 1 92 true rfl rfl rfl (List.Mem.head _) (op_bin _ _ _ _ _ rfl rfl rfl),
         st_run 1 92 true rfl rfl rfl (List.Mem.head _) (op_move _ _ _ _ (congrArg (fun b => AV.v (Value.bool b)) hg9_4) rfl),
         st_skip 4 95 _ false rfl rfl rfl rfl (List.Mem.head _),
         st_skip 4 95 _ false rfl rfl rfl rfl (List.Mem.head _),
         st_skip 4 95 _ false rfl rfl rfl rfl (List.Mem.head _),
         st_skip 4 95 _ false rfl rfl rfl rfl (List.Mem.head _),
         st_run 1 92 true rfl rfl rfl (List.Mem.head _) (op_pick _ _ true _ rfl rfl),
         st_plain rfl (op_pick _ _ true _ rfl rfl),
         st_plain rfl (op_move _ _ _ _ rfl rfl),
         st_skip 11 102 _ false rfl rfl rfl rfl (List.Mem.head _),
         st_skip 11 102 _ false rfl rfl rfl rfl (List.Mem.head _),
         st_skip 11 102 _ false rfl rfl rfl rfl (List.Mem.head _),
         st_skipU 14 105 _ true rfl rfl rfl rfl (List.Mem.head _),
         st_skipU 14 105 _ true rfl rfl rfl rfl (List.Mem.head _),
         st_skipU 14 105 _ true rfl rfl rfl rfl (List.Mem.head _),
         st_skipU 17 108 _ false rfl rfl rfl rfl (List.Mem.head _),
         st_skipU 17 108 _ false rfl rfl rfl rfl (List.Mem.head _),
         st_skipU 14 105 _ true rfl rfl rfl rfl (List.Mem.head _),
         st_skip 11 102 _ false rfl rfl rfl rfl (List.Mem.head _),
         st_plain rfl (op_pick _ _ true _ rfl rfl),
         trivial⟩ ?_
        exact hl33 _ (Option.some.inj h).symm
       ·obtain ⟨v30, hv30, h⟩ := bind_some h
        refine cond_some h (fun hg9_11 h => ?_) (fun hg9_11 h => ?_)
        ·refine ht_seqR hn (El := (_ :: _ :: _ :: _ :: _ :: _ :: _ :: _ :: (91, .v (.bool v9)) :: (92, .v (.bool true)) :: (93, .v (.int .i64 v8.2)) :: (94, .v (.bool (v8.2 != 0))) :: (95, .v (.bool false)) :: (96, .v (.string v8.1)) :: (97, .agg [.v (.bool p.Null), .v (.string p.Local), .v (.string p.Domain)]) :: (98, .v (.string v30)) :: (99, .v (.bool ((!(v8.1.toList == v30.toList))))) :: (100, .v (.bool ((!(v8.1.toList == v30.toList))))) :: (101, .v (.bool ((!(v8.1.toList == v30.toList))))) :: (102, .v (.bool true)) :: (103, .v undef) :: (104, .v undef) :: (105, .v undef) :: (106, .v undef) :: (107, .v undef) :: (108, .v undef) :: (109, .v undef) :: (110, .v undef) :: (111, .v undef) :: (112, .v undef) :: (113, .v (.bool true)) :: [])) (init := [0, 1, 2, 3, 4, 5, 6, 7]) (fin := [0, 1, 2, 3, 30]) (sps := (⟨[6], [], [8], [(.slot 91)]⟩ :: ⟨[8], [], [9], [(.slot 92)]⟩ :: ⟨[9, 5], [], [10], [(.slot 93)]⟩ :: ⟨[9, 10], [], [11], [(.slot 94)]⟩ :: ⟨[9, 11], [], [12], [(.slot 95)]⟩ :: ⟨[12, 4], [], [13], [(.slot 96)]⟩ :: ⟨[12, 2], [], [14], [(.slot 97)]⟩ :: ⟨[12, 14], [], [15], [(.slot 98)]⟩ :: ⟨[12, 13, 15], [], [16], [(.slot 99)]⟩ :: ⟨[9, 12, 16], [], [17], [(.slot 100)]⟩ :: ⟨[9, 17], [], [18], [(.slot 101)]⟩ :: ⟨[18], [], [19], [(.slot 102)]⟩ :: ⟨[19], [], [20], [(.slot 103)]⟩ :: ⟨[19], [], [21], [(.slot 104)]⟩ :: ⟨[19], [], [22], [(.slot 105)]⟩ :: ⟨[22], [], [23], [(.slot 106)]⟩ :: ⟨[22], [], [24], [(.slot 107)]⟩ :: ⟨[22], [], [25], [(.slot 108)]⟩ :: ⟨[25], [], [26], [(.slot 109)]⟩ :: ⟨[25], [], [27], [(.slot 110)]⟩ :: ⟨[22], [], [28], [(.slot 111)]⟩ :: ⟨[19], [], [29], [(.slot 112)]⟩ :: ⟨[19], [], [30], [(.slot 113)]⟩ :: [])) (es' := [(_, _), (_, _), (_, _), (_, _), (113, .v (.bool true))]) (by kernel_rfl) rfl rfl
          ⟨st_plain rfl (op_move _ _ _ _ rfl rfl),
          st_plain rfl (op_move _ _ _ _ (congrArg (fun b => AV.v (Value.bool b)) hg9_1) rfl),
          st_run 1 92 true rfl rfl rfl (List.Mem.head _) (op_move _ _ _ _ rfl rfl),
          st_run 1 92 true rfl rfl rfl (List.Mem.head _) (op_bin _ _ _ _ _ rfl rfl rfl),
          st_run 1 92 true rfl rfl rfl (List.Mem.head _) (op_move _ _ _ _ (congrArg (fun b => AV.v (Value.bool b)) hg9_4) rfl),
          st_run 4 95 false rfl rfl rfl (List.Mem.head _) (op_move _ _ _ _ rfl rfl),
          st_run 4 95 false rfl rfl rfl (List.Mem.head _) (op_loadA _ _ _ _ _ _ _ Tryd.underlying23 rfl sz23 rfl rfl (Nat.le_of_ble_eq_true rfl) rfl rfl),
          st_run 4 95 false rfl rfl rfl (List.Mem.head _) (op_call _ _ 17 _ _ rfl Tryd.call17 rfl (ok_wherryref11_Text p _ hv30) rfl rfl),
          st_run 4 95 false rfl rfl rfl (List.Mem.head _) (op_bin _ _ _ _ _ rfl rfl rfl),
          st_run 1 92 true rfl rfl rfl (List.Mem.head _) (op_pick _ _ false _ rfl rfl),
          st_plain rfl (op_pick _ _ true _ rfl rfl),
          st_plain rfl (op_move _ _ _ _ (congrArg (fun b => AV.v (Value.bool b)) hg9_11) rfl),
          st_skip 11 102 _ false rfl rfl rfl rfl (List.Mem.head _),
          st_skip 11 102 _ false rfl rfl rfl rfl (List.Mem.head _),
          st_skip 11 102 _ false rfl rfl rfl rfl (List.Mem.head _),
          st_skipU 14 105 _ true rfl rfl rfl rfl (List.Mem.head _),
          st_skipU 14 105 _ true rfl rfl rfl rfl (List.Mem.head _),
          st_skipU 14 105 _ true rfl rfl rfl rfl (List.Mem.head _),
          st_skipU 17 108 _ false rfl rfl rfl rfl (List.Mem.head _),
          st_skipU 17 108 _ false rfl rfl rfl rfl (List.Mem.head _),
          st_skipU 14 105 _ true rfl rfl rfl rfl (List.Mem.head _),
          st_skip 11 102 _ false rfl rfl rfl rfl (List.Mem.head _),
          st_plain rfl (op_pick _ _ true _ rfl rfl),
          trivial⟩ ?_
         exact hl33 _ (Option.some.inj h).symm
        ·refine cond_some h (fun hg9_14 h => ?_) (fun hg9_14 h => ?_)
         ·refine cond_some h (fun hg9_17 h => ?_) (fun hg9_17 h => ?_)
          ·refine ht_seqR hn (El := (_ :: _ :: _ :: _ :: _ :: _ :: _ :: _ :: (91, .v (.bool v9)) :: (92, .v (.bool true)) :: (93, .v (.int .i64 v8.2)) :: (94, .v (.bool (v8.2 != 0))) :: (95, .v (.bool false)) :: (96, .v (.string v8.1)) :: (97, .agg [.v (.bool p.Null), .v (.string p.Local), .v (.string p.Domain)]) :: (98, .v (.string v30)) :: (99, .v (.bool ((!(v8.1.toList == v30.toList))))) :: (100, .v (.bool ((!(v8.1.toList == v30.toList))))) :: (101, .v (.bool ((!(v8.1.toList == v30.toList))))) :: (102, .v (.bool false)) :: (103, .v (.bool v9)) :: (104, .v (.bool (!v9))) :: (105, .v (.bool true)) :: (106, .v (.int .i64 v8.2)) :: (107, .v (.bool (v8.2 != 5))) :: (108, .v (.bool true)) :: (109, .v undef) :: (110, .v undef) :: (111, .v (.bool true)) :: (112, .v (.bool true)) :: (113, .v (.bool true)) :: [])) (init := [0, 1, 2, 3, 4, 5, 6, 7]) (fin := [0, 1, 2, 3, 30]) (sps := (⟨[6], [], [8], [(.slot 91)]⟩ :: ⟨[8], [], [9], [(.slot 92)]⟩ :: ⟨[9, 5], [], [10], [(.slot 93)]⟩ :: ⟨[9, 10], [], [11], [(.slot 94)]⟩ :: ⟨[9, 11], [], [12], [(.slot 95)]⟩ :: ⟨[12, 4], [], [13], [(.slot 96)]⟩ :: ⟨[12, 2], [], [14], [(.slot 97)]⟩ :: ⟨[12, 14], [], [15], [(.slot 98)]⟩ :: ⟨[12, 13, 15], [], [16], [(.slot 99)]⟩ :: ⟨[9, 12, 16], [], [17], [(.slot 100)]⟩ :: ⟨[9, 17], [], [18], [(.slot 101)]⟩ :: ⟨[18], [], [19], [(.slot 102)]⟩ :: ⟨[19, 6], [], [20], [(.slot 103)]⟩ :: ⟨[19, 20], [], [21], [(.slot 104)]⟩ :: ⟨[19, 21], [], [22], [(.slot 105)]⟩ :: ⟨[22, 5], [], [23], [(.slot 106)]⟩ :: ⟨[22, 23], [], [24], [(.slot 107)]⟩ :: ⟨[22, 24], [], [25], [(.slot 108)]⟩ :: ⟨[25], [], [26], [(.slot 109)]⟩ :: ⟨[25], [], [27], [(.slot 110)]⟩ :: ⟨[22, 25], [], [28], [(.slot 111)]⟩ :: ⟨[19, 22, 28], [], [29], [(.slot 112)]⟩ :: ⟨[19, 29], [], [30], [(.slot 113)]⟩ :: [])) (es' := [(_, _), (_, _), (_, _), (_, _), (113, .v (.bool true))]) (by kernel_rfl) rfl rfl
            ⟨st_plain rfl (op_move _ _ _ _ rfl rfl),
            st_plain rfl (op_move _ _ _ _ (congrArg (fun b => AV.v (Value.bool b)) hg9_1) rfl),
            st_run 1 92 true rfl rfl rfl (List.Mem.head _) (op_move _ _ _ _ rfl rfl),
            st_run 1 92 true rfl rfl rfl (List.Mem.head _) (op_bin _ _ _ _ _ rfl rfl rfl),
            st_run 1 92 true rfl rfl rfl (List.Mem.head _) (op_move _ _ _ _ (congrArg (fun b => AV.v (Value.bool b)) hg9_4) rfl),
            st_run 4 95 false rfl rfl rfl (List.Mem.head _) (op_move _ _ _ _ rfl rfl),
            st_run 4 95 false rfl rfl rfl (List.Mem.head _) (op_loadA _ _ _ _ _ _ _ Tryd.underlying23 rfl sz23 rfl rfl (Nat.le_of_ble_eq_true rfl) rfl rfl),
            st_run 4 95 false rfl rfl rfl (List.Mem.head _) (op_call _ _ 17 _ _ rfl Tryd.call17 rfl (ok_wherryref11_Text p _ hv30) rfl rfl),
            st_run 4 95 false rfl rfl rfl (List.Mem.head _) (op_bin _ _ _ _ _ rfl rfl rfl),
            st_run 1 92 true rfl rfl rfl (List.Mem.head _) (op_pick _ _ false _ rfl rfl),
            st_plain rfl (op_pick _ _ true _ rfl rfl),
            st_plain rfl (op_move _ _ _ _ (congrArg (fun b => AV.v (Value.bool b)) hg9_11) rfl),
            st_run 11 102 false rfl rfl rfl (List.Mem.head _) (op_move _ _ _ _ rfl rfl),
            st_run 11 102 false rfl rfl rfl (List.Mem.head _) (op_un _ _ _ _ rfl rfl),
            st_run 11 102 false rfl rfl rfl (List.Mem.head _) (op_move _ _ _ _ (congrArg (fun b => AV.v (Value.bool b)) hg9_14) rfl),
            st_run 14 105 true rfl rfl rfl (List.Mem.head _) (op_move _ _ _ _ rfl rfl),
            st_run 14 105 true rfl rfl rfl (List.Mem.head _) (op_bin _ _ _ _ _ rfl rfl rfl),
            st_run 14 105 true rfl rfl rfl (List.Mem.head _) (op_move _ _ _ _ (congrArg (fun b => AV.v (Value.bool b)) hg9_17) rfl),
            st_skip 17 108 _ false rfl rfl rfl rfl (List.Mem.head _),
            st_skip 17 108 _ false rfl rfl rfl rfl (List.Mem.head _),
            st_run 14 105 true rfl rfl rfl (List.Mem.head _) (op_pick _ _ true _ rfl rfl),
            st_run 11 102 false rfl rfl rfl (List.Mem.head _) (op_pick _ _ true _ rfl rfl),
            st_plain rfl (op_pick _ _ false _ rfl rfl),
            trivial⟩ ?_
           exact hl33 _ (Option.some.inj h).symm
          ·refine ht_seqR hn (El := (_ :: _ :: _ :: _ :: _ :: _ :: _ :: _ :: (91, .v (.bool v9)) :: (92, .v (.bool true)) :: (93, .v (.int .i64 v8.2)) :: (94, .v (.bool (v8.2 != 0))) :: (95, .v (.bool false)) :: (96, .v (.string v8.1)) :: (97, .agg [.v (.bool p.Null), .v (.string p.Local), .v (.string p.Domain)]) :: (98, .v (.string v30)) :: (99, .v (.bool ((!(v8.1.toList == v30.toList))))) :: (100, .v (.bool ((!(v8.1.toList == v30.toList))))) :: (101, .v (.bool ((!(v8.1.toList == v30.toList))))) :: (102, .v (.bool false)) :: (103, .v (.bool v9)) :: (104, .v (.bool (!v9))) :: (105, .v (.bool true)) :: (106, .v (.int .i64 v8.2)) :: (107, .v (.bool (v8.2 != 5))) :: (108, .v (.bool false)) :: (109, .v (.string v8.1)) :: (110, .v (.bool ((!(v8.1.toList == (⟨#[]⟩ : ByteArray).toList))))) :: (111, .v (.bool ((!(v8.1.toList == (⟨#[]⟩ : ByteArray).toList))))) :: (112, .v (.bool ((!(v8.1.toList == (⟨#[]⟩ : ByteArray).toList))))) :: (113, .v (.bool ((!(v8.1.toList == (⟨#[]⟩ : ByteArray).toList))))) :: [])) (init := [0, 1, 2, 3, 4, 5, 6, 7]) (fin := [0, 1, 2, 3, 30]) (sps := (⟨[6], [], [8], [(.slot 91)]⟩ :: ⟨[8], [], [9], [(.slot 92)]⟩ :: ⟨[9, 5], [], [10], [(.slot 93)]⟩ :: ⟨[9, 10], [], [11], [(.slot 94)]⟩ :: ⟨[9, 11], [], [12], [(.slot 95)]⟩ :: ⟨[12, 4], [], [13], [(.slot 96)]⟩ :: ⟨[12, 2], [], [14], [(.slot 97)]⟩ :: ⟨[12, 14], [], [15], [(.slot 98)]⟩ :: ⟨[12, 13, 15], [], [16], [(.slot 99)]⟩ :: ⟨[9, 12, 16], [], [17], [(.slot 100)]⟩ :: ⟨[9, 17], [], [18], [(.slot 101)]⟩ :: ⟨[18], [], [19], [(.slot 102)]⟩ :: ⟨[19, 6], [], [20], [(.slot 103)]⟩ :: ⟨[19, 20], [], [21], [(.slot 104)]⟩ :: ⟨[19, 21], [], [22], [(.slot 105)]⟩ :: ⟨[22, 5], [], [23], [(.slot 106)]⟩ :: ⟨[22, 23], [], [24], [(.slot 107)]⟩ :: ⟨[22, 24], [], [25], [(.slot 108)]⟩ :: ⟨[25, 4], [], [26], [(.slot 109)]⟩ :: ⟨[25, 26], [], [27], [(.slot 110)]⟩ :: ⟨[22, 25, 27], [], [28], [(.slot 111)]⟩ :: ⟨[19, 22, 28], [], [29], [(.slot 112)]⟩ :: ⟨[19, 29], [], [30], [(.slot 113)]⟩ :: [])) (es' := [(_, _), (_, _), (_, _), (_, _), (113, .v (.bool ((!(v8.1.toList == (⟨#[]⟩ : ByteArray).toList)))))]) (by kernel_rfl) rfl rfl
            ⟨st_plain rfl (op_move _ _ _ _ rfl rfl),
            st_plain rfl (op_move _ _ _ _ (congrArg (fun b => AV.v (Value.bool b)) hg9_1) rfl),
            st_run 1 92 true rfl rfl rfl (List.Mem.head _) (op_move _ _ _ _ rfl rfl),
            st_run 1 92 true rfl rfl rfl (List.Mem.head _) (op_bin _ _ _ _ _ rfl rfl rfl),
            st_run 1 92 true rfl rfl rfl (List.Mem.head _) (op_move _ _ _ _ (congrArg (fun b => AV.v (Value.bool b)) hg9_4) rfl),
            st_run 4 95 false rfl rfl rfl (List.Mem.head _) (op_move _ _ _ _ rfl rfl),
            st_run 4 95 false rfl rfl rfl (List.Mem.head _) (op_loadA _ _ _ _ _ _ _ Tryd.underlying23 rfl sz23 rfl rfl (Nat.le_of_ble_eq_true rfl) rfl rfl),
            st_run 4 95 false rfl rfl rfl (List.Mem.head _) (op_call _ _ 17 _ _ rfl Tryd.call17 rfl (ok_wherryref11_Text p _ hv30) rfl rfl),
            st_run 4 95 false rfl rfl rfl (List.Mem.head _) (op_bin _ _ _ _ _ rfl rfl rfl),
            st_run 1 92 true rfl rfl rfl (List.Mem.head _) (op_pick _ _ false _ rfl rfl),
            st_plain rfl (op_pick _ _ true _ rfl rfl),
            st_plain rfl (op_move _ _ _ _ (congrArg (fun b => AV.v (Value.bool b)) hg9_11) rfl),
            st_run 11 102 false rfl rfl rfl (List.Mem.head _) (op_move _ _ _ _ rfl rfl),
            st_run 11 102 false rfl rfl rfl (List.Mem.head _) (op_un _ _ _ _ rfl rfl),
            st_run 11 102 false rfl rfl rfl (List.Mem.head _) (op_move _ _ _ _ (congrArg (fun b => AV.v (Value.bool b)) hg9_14) rfl),
            st_run 14 105 true rfl rfl rfl (List.Mem.head _) (op_move _ _ _ _ rfl rfl),
            st_run 14 105 true rfl rfl rfl (List.Mem.head _) (op_bin _ _ _ _ _ rfl rfl rfl),
            st_run 14 105 true rfl rfl rfl (List.Mem.head _) (op_move _ _ _ _ (congrArg (fun b => AV.v (Value.bool b)) hg9_17) rfl),
            st_run 17 108 false rfl rfl rfl (List.Mem.head _) (op_move _ _ _ _ rfl rfl),
            st_run 17 108 false rfl rfl rfl (List.Mem.head _) (op_bin _ _ _ _ _ rfl rfl rfl),
            st_run 14 105 true rfl rfl rfl (List.Mem.head _) (op_pick _ _ false _ rfl rfl),
            st_run 11 102 false rfl rfl rfl (List.Mem.head _) (op_pick _ _ true _ rfl rfl),
            st_plain rfl (op_pick _ _ false _ rfl rfl),
            trivial⟩ ?_
           exact hl33 _ (Option.some.inj h).symm
         ·refine ht_seqR hn (El := (_ :: _ :: _ :: _ :: _ :: _ :: _ :: _ :: (91, .v (.bool v9)) :: (92, .v (.bool true)) :: (93, .v (.int .i64 v8.2)) :: (94, .v (.bool (v8.2 != 0))) :: (95, .v (.bool false)) :: (96, .v (.string v8.1)) :: (97, .agg [.v (.bool p.Null), .v (.string p.Local), .v (.string p.Domain)]) :: (98, .v (.string v30)) :: (99, .v (.bool ((!(v8.1.toList == v30.toList))))) :: (100, .v (.bool ((!(v8.1.toList == v30.toList))))) :: (101, .v (.bool ((!(v8.1.toList == v30.toList))))) :: (102, .v (.bool false)) :: (103, .v (.bool v9)) :: (104, .v (.bool (!v9))) :: (105, .v (.bool false)) :: (106, .v undef) :: (107, .v undef) :: (108, .v undef) :: (109, .v undef) :: (110, .v undef) :: (111, .v undef) :: (112, .v (.bool false)) :: (113, .v (.bool false)) :: [])) (init := [0, 1, 2, 3, 4, 5, 6, 7]) (fin := [0, 1, 2, 3, 30]) (sps := (⟨[6], [], [8], [(.slot 91)]⟩ :: ⟨[8], [], [9], [(.slot 92)]⟩ :: ⟨[9, 5], [], [10], [(.slot 93)]⟩ :: ⟨[9, 10], [], [11], [(.slot 94)]⟩ :: ⟨[9, 11], [], [12], [(.slot 95)]⟩ :: ⟨[12, 4], [], [13], [(.slot 96)]⟩ :: ⟨[12, 2], [], [14], [(.slot 97)]⟩ :: ⟨[12, 14], [], [15], [(.slot 98)]⟩ :: ⟨[12, 13, 15], [], [16], [(.slot 99)]⟩ :: ⟨[9, 12, 16], [], [17], [(.slot 100)]⟩ :: ⟨[9, 17], [], [18], [(.slot 101)]⟩ :: ⟨[18], [], [19], [(.slot 102)]⟩ :: ⟨[19, 6], [], [20], [(.slot 103)]⟩ :: ⟨[19, 20], [], [21], [(.slot 104)]⟩ :: ⟨[19, 21], [], [22], [(.slot 105)]⟩ :: ⟨[22], [], [23], [(.slot 106)]⟩ :: ⟨[22], [], [24], [(.slot 107)]⟩ :: ⟨[22], [], [25], [(.slot 108)]⟩ :: ⟨[25], [], [26], [(.slot 109)]⟩ :: ⟨[25], [], [27], [(.slot 110)]⟩ :: ⟨[22], [], [28], [(.slot 111)]⟩ :: ⟨[19, 22], [], [29], [(.slot 112)]⟩ :: ⟨[19, 29], [], [30], [(.slot 113)]⟩ :: [])) (es' := [(_, _), (_, _), (_, _), (_, _), (113, .v (.bool false))]) (by kernel_rfl) rfl rfl
           ⟨st_plain rfl (op_move _ _ _ _ rfl rfl),
           st_plain rfl (op_move _ _ _ _ (congrArg (fun b => AV.v (Value.bool b)) hg9_1) rfl),
           st_run 1 92 true rfl rfl rfl (List.Mem.head _) (op_move _ _ _ _ rfl rfl),
           st_run 1 92 true rfl rfl rfl (List.Mem.head _) (op_bin _ _ _ _ _ rfl rfl rfl),
           st_run 1 92 true rfl rfl rfl (List.Mem.head _) (op_move _ _ _ _ (congrArg (fun b => AV.v (Value.bool b)) hg9_4) rfl),
           st_run 4 95 false rfl rfl rfl (List.Mem.head _) (op_move _ _ _ _ rfl rfl),
           st_run 4 95 false rfl rfl rfl (List.Mem.head _) (op_loadA _ _ _ _ _ _ _ Tryd.underlying23 rfl sz23 rfl rfl (Nat.le_of_ble_eq_true rfl) rfl rfl),
           st_run 4 95 false rfl rfl rfl (List.Mem.head _) (op_call _ _ 17 _ _ rfl Tryd.call17 rfl (ok_wherryref11_Text p _ hv30) rfl rfl),
           st_run 4 95 false rfl rfl rfl (List.Mem.head _) (op_bin _ _ _ _ _ rfl rfl rfl),
           st_run 1 92 true rfl rfl rfl (List.Mem.head _) (op_pick _ _ false _ rfl rfl),
           st_plain rfl (op_pick _ _ true _ rfl rfl),
           st_plain rfl (op_move _ _ _ _ (congrArg (fun b => AV.v (Value.bool b)) hg9_11) rfl),
           st_run 11 102 false rfl rfl rfl (List.Mem.head _) (op_move _ _ _ _ rfl rfl),
           st_run 11 102 false rfl rfl rfl (List.Mem.head _) (op_un _ _ _ _ rfl rfl),
           st_run 11 102 false rfl rfl rfl (List.Mem.head _) (op_move _ _ _ _ (congrArg (fun b => AV.v (Value.bool b)) hg9_14) rfl),
           st_skip 14 105 _ true rfl rfl rfl rfl (List.Mem.head _),
           st_skip 14 105 _ true rfl rfl rfl rfl (List.Mem.head _),
           st_skip 14 105 _ true rfl rfl rfl rfl (List.Mem.head _),
           st_skipU 17 108 _ false rfl rfl rfl rfl (List.Mem.head _),
           st_skipU 17 108 _ false rfl rfl rfl rfl (List.Mem.head _),
           st_skip 14 105 _ true rfl rfl rfl rfl (List.Mem.head _),
           st_run 11 102 false rfl rfl rfl (List.Mem.head _) (op_pick _ _ false _ rfl rfl),
           st_plain rfl (op_pick _ _ false _ rfl rfl),
           trivial⟩ ?_
          exact hl33 _ (Option.some.inj h).symm
      ·refine cond_some h (fun hg9_14 h => ?_) (fun hg9_14 h => ?_)
       ·refine cond_some h (fun hg9_17 h => ?_) (fun hg9_17 h => ?_)
        ·refine ht_seqR hn (El := (_ :: _ :: _ :: _ :: _ :: _ :: _ :: _ :: (91, .v (.bool v9)) :: (92, .v (.bool false)) :: (93, .v undef) :: (94, .v undef) :: (95, .v undef) :: (96, .v undef) :: (97, .v undef) :: (98, .v undef) :: (99, .v undef) :: (100, .v undef) :: (101, .v (.bool false)) :: (102, .v (.bool false)) :: (103, .v (.bool v9)) :: (104, .v (.bool (!v9))) :: (105, .v (.bool true)) :: (106, .v (.int .i64 v8.2)) :: (107, .v (.bool (v8.2 != 5))) :: (108, .v (.bool true)) :: (109, .v undef) :: (110, .v undef) :: (111, .v (.bool true)) :: (112, .v (.bool true)) :: (113, .v (.bool true)) :: [])) (init := [0, 1, 2, 3, 4, 5, 6, 7]) (fin := [0, 1, 2, 3, 30]) (sps := (⟨[6], [], [8], [(.slot 91)]⟩ :: ⟨[8], [], [9], [(.slot 92)]⟩ :: ⟨[9], [], [10], [(.slot 93)]⟩ :: ⟨[9], [], [11], [(.slot 94)]⟩ :: ⟨[9], [], [12], [(.slot 95)]⟩ :: ⟨[12], [], [13], [(.slot 96)]⟩ :: ⟨[12], [], [14], [(.slot 97)]⟩ :: ⟨[12], [], [15], [(.slot 98)]⟩ :: ⟨[12], [], [16], [(.slot 99)]⟩ :: ⟨[9], [], [17], [(.slot 100)]⟩ :: ⟨[9], [], [18], [(.slot 101)]⟩ :: ⟨[18], [], [19], [(.slot 102)]⟩ :: ⟨[19, 6], [], [20], [(.slot 103)]⟩ :: ⟨[19, 20], [], [21], [(.slot 104)]⟩ :: ⟨[19, 21], [], [22], [(.slot 105)]⟩ :: ⟨[22, 5], [], [23], [(.slot 106)]⟩ :: ⟨[22, 23], [], [24], [(.slot 107)]⟩ :: ⟨[22, 24], [], [25], [(.slot 108)]⟩ :: ⟨[25], [], [26], [(.slot 109)]⟩ :: ⟨[25], [], [27], [(.slot 110)]⟩ :: ⟨[22, 25], [], [28], [(.slot 111)]⟩ :: ⟨[19, 22, 28], [], [29], [(.slot 112)]⟩ :: ⟨[19, 29], [], [30], [(.slot 113)]⟩ :: [])) (es' := [(_, _), (_, _), (_, _), (_, _), (113, .v (.bool true))]) (by kernel_rfl) rfl rfl
          ⟨st_plain rfl (op_move _ _ _ _ rfl rfl),
          st_plain rfl (op_move _ _ _ _ (congrArg (fun b => AV.v (Value.bool b)) hg9_1) rfl),
          st_skip 1 92 _ true rfl rfl rfl rfl (List.Mem.head _),
          st_skip 1 92 _ true rfl rfl rfl rfl (List.Mem.head _),
          st_skip 1 92 _ true rfl rfl rfl rfl (List.Mem.head _),
          st_skipU 4 95 _ false rfl rfl rfl rfl (List.Mem.head _),
          st_skipU 4 95 _ false rfl rfl rfl rfl (List.Mem.head _),
          st_skipU 4 95 _ false rfl rfl rfl rfl (List.Mem.head _),
          st_skipU 4 95 _ false rfl rfl rfl rfl (List.Mem.head _),
          st_skip 1 92 _ true rfl rfl rfl rfl (List.Mem.head _),
          st_plain rfl (op_pick _ _ false _ rfl rfl),
          st_plain rfl (op_move _ _ _ _ rfl rfl),
          st_run 11 102 false rfl rfl rfl (List.Mem.head _) (op_move _ _ _ _ rfl rfl),
          st_run 11 102 false rfl rfl rfl (List.Mem.head _) (op_un _ _ _ _ rfl rfl),
          st_run 11 102 false rfl rfl rfl (List.Mem.head _) (op_move _ _ _ _ (congrArg (fun b => AV.v (Value.bool b)) hg9_14) rfl),
          st_run 14 105 true rfl rfl rfl (List.Mem.head _) (op_move _ _ _ _ rfl rfl),
          st_run 14 105 true rfl rfl rfl (List.Mem.head _) (op_bin _ _ _ _ _ rfl rfl rfl),
          st_run 14 105 true rfl rfl rfl (List.Mem.head _) (op_move _ _ _ _ (congrArg (fun b => AV.v (Value.bool b)) hg9_17) rfl),
          st_skip 17 108 _ false rfl rfl rfl rfl (List.Mem.head _),
          st_skip 17 108 _ false rfl rfl rfl rfl (List.Mem.head _),
          st_run 14 105 true rfl rfl rfl (List.Mem.head _) (op_pick _ _ true _ rfl rfl),
          st_run 11 102 false rfl rfl rfl (List.Mem.head _) (op_pick _ _ true _ rfl rfl),
          st_plain rfl (op_pick _ _ false _ rfl rfl),
          trivial⟩ ?_
         exact hl33 _ (Option.some.inj h).symm
        ·refine ht_seqR hn (El := (_ :: _ :: _ :: _ :: _ :: _ :: _ :: _ :: (91, .v (.bool v9)) :: (92, .v (.bool false)) :: (93, .v undef) :: (94, .v undef) :: (95, .v undef) :: (96, .v undef) :: (97, .v undef) :: (98, .v undef) :: (99, .v undef) :: (100, .v undef) :: (101, .v (.bool false)) :: (102, .v (.bool false)) :: (103, .v (.bool v9)) :: (104, .v (.bool (!v9))) :: (105, .v (.bool true)) :: (106, .v (.int .i64 v8.2)) :: (107, .v (.bool (v8.2 != 5))) :: (108, .v (.bool false)) :: (109, .v (.string v8.1)) :: (110, .v (.bool ((!(v8.1.toList == (⟨#[]⟩ : ByteArray).toList))))) :: (111, .v (.bool ((!(v8.1.toList == (⟨#[]⟩ : ByteArray).toList))))) :: (112, .v (.bool ((!(v8.1.toList == (⟨#[]⟩ : ByteArray).toList))))) :: (113, .v (.bool ((!(v8.1.toList == (⟨#[]⟩ : ByteArray).toList))))) :: [])) (init := [0, 1, 2, 3, 4, 5, 6, 7]) (fin := [0, 1, 2, 3, 30]) (sps := (⟨[6], [], [8], [(.slot 91)]⟩ :: ⟨[8], [], [9], [(.slot 92)]⟩ :: ⟨[9], [], [10], [(.slot 93)]⟩ :: ⟨[9], [], [11], [(.slot 94)]⟩ :: ⟨[9], [], [12], [(.slot 95)]⟩ :: ⟨[12], [], [13], [(.slot 96)]⟩ :: ⟨[12], [], [14], [(.slot 97)]⟩ :: ⟨[12], [], [15], [(.slot 98)]⟩ :: ⟨[12], [], [16], [(.slot 99)]⟩ :: ⟨[9], [], [17], [(.slot 100)]⟩ :: ⟨[9], [], [18], [(.slot 101)]⟩ :: ⟨[18], [], [19], [(.slot 102)]⟩ :: ⟨[19, 6], [], [20], [(.slot 103)]⟩ :: ⟨[19, 20], [], [21], [(.slot 104)]⟩ :: ⟨[19, 21], [], [22], [(.slot 105)]⟩ :: ⟨[22, 5], [], [23], [(.slot 106)]⟩ :: ⟨[22, 23], [], [24], [(.slot 107)]⟩ :: ⟨[22, 24], [], [25], [(.slot 108)]⟩ :: ⟨[25, 4], [], [26], [(.slot 109)]⟩ :: ⟨[25, 26], [], [27], [(.slot 110)]⟩ :: ⟨[22, 25, 27], [], [28], [(.slot 111)]⟩ :: ⟨[19, 22, 28], [], [29], [(.slot 112)]⟩ :: ⟨[19, 29], [], [30], [(.slot 113)]⟩ :: [])) (es' := [(_, _), (_, _), (_, _), (_, _), (113, .v (.bool ((!(v8.1.toList == (⟨#[]⟩ : ByteArray).toList)))))]) (by kernel_rfl) rfl rfl
          ⟨st_plain rfl (op_move _ _ _ _ rfl rfl),
          st_plain rfl (op_move _ _ _ _ (congrArg (fun b => AV.v (Value.bool b)) hg9_1) rfl),
          st_skip 1 92 _ true rfl rfl rfl rfl (List.Mem.head _),
          st_skip 1 92 _ true rfl rfl rfl rfl (List.Mem.head _),
          st_skip 1 92 _ true rfl rfl rfl rfl (List.Mem.head _),
          st_skipU 4 95 _ false rfl rfl rfl rfl (List.Mem.head _),
          st_skipU 4 95 _ false rfl rfl rfl rfl (List.Mem.head _),
          st_skipU 4 95 _ false rfl rfl rfl rfl (List.Mem.head _),
          st_skipU 4 95 _ false rfl rfl rfl rfl (List.Mem.head _),
          st_skip 1 92 _ true rfl rfl rfl rfl (List.Mem.head _),
          st_plain rfl (op_pick _ _ false _ rfl rfl),
          st_plain rfl (op_move _ _ _ _ rfl rfl),
          st_run 11 102 false rfl rfl rfl (List.Mem.head _) (op_move _ _ _ _ rfl rfl),
          st_run 11 102 false rfl rfl rfl (List.Mem.head _) (op_un _ _ _ _ rfl rfl),
          st_run 11 102 false rfl rfl rfl (List.Mem.head _) (op_move _ _ _ _ (congrArg (fun b => AV.v (Value.bool b)) hg9_14) rfl),
          st_run 14 105 true rfl rfl rfl (List.Mem.head _) (op_move _ _ _ _ rfl rfl),
          st_run 14 105 true rfl rfl rfl (List.Mem.head _) (op_bin _ _ _ _ _ rfl rfl rfl),
          st_run 14 105 true rfl rfl rfl (List.Mem.head _) (op_move _ _ _ _ (congrArg (fun b => AV.v (Value.bool b)) hg9_17) rfl),
          st_run 17 108 false rfl rfl rfl (List.Mem.head _) (op_move _ _ _ _ rfl rfl),
          st_run 17 108 false rfl rfl rfl (List.Mem.head _) (op_bin _ _ _ _ _ rfl rfl rfl),
          st_run 14 105 true rfl rfl rfl (List.Mem.head _) (op_pick _ _ false _ rfl rfl),
          st_run 11 102 false rfl rfl rfl (List.Mem.head _) (op_pick _ _ true _ rfl rfl),
          st_plain rfl (op_pick _ _ false _ rfl rfl),
          trivial⟩ ?_
         exact hl33 _ (Option.some.inj h).symm
       ·refine ht_seqR hn (El := (_ :: _ :: _ :: _ :: _ :: _ :: _ :: _ :: (91, .v (.bool v9)) :: (92, .v (.bool false)) :: (93, .v undef) :: (94, .v undef) :: (95, .v undef) :: (96, .v undef) :: (97, .v undef) :: (98, .v undef) :: (99, .v undef) :: (100, .v undef) :: (101, .v (.bool false)) :: (102, .v (.bool false)) :: (103, .v (.bool v9)) :: (104, .v (.bool (!v9))) :: (105, .v (.bool false)) :: (106, .v undef) :: (107, .v undef) :: (108, .v undef) :: (109, .v undef) :: (110, .v undef) :: (111, .v undef) :: (112, .v (.bool false)) :: (113, .v (.bool false)) :: [])) (init := [0, 1, 2, 3, 4, 5, 6, 7]) (fin := [0, 1, 2, 3, 30]) (sps := (⟨[6], [], [8], [(.slot 91)]⟩ :: ⟨[8], [], [9], [(.slot 92)]⟩ :: ⟨[9], [], [10], [(.slot 93)]⟩ :: ⟨[9], [], [11], [(.slot 94)]⟩ :: ⟨[9], [], [12], [(.slot 95)]⟩ :: ⟨[12], [], [13], [(.slot 96)]⟩ :: ⟨[12], [], [14], [(.slot 97)]⟩ :: ⟨[12], [], [15], [(.slot 98)]⟩ :: ⟨[12], [], [16], [(.slot 99)]⟩ :: ⟨[9], [], [17], [(.slot 100)]⟩ :: ⟨[9], [], [18], [(.slot 101)]⟩ :: ⟨[18], [], [19], [(.slot 102)]⟩ :: ⟨[19, 6], [], [20], [(.slot 103)]⟩ :: ⟨[19, 20], [], [21], [(.slot 104)]⟩ :: ⟨[19, 21], [], [22], [(.slot 105)]⟩ :: ⟨[22], [], [23], [(.slot 106)]⟩ :: ⟨[22], [], [24], [(.slot 107)]⟩ :: ⟨[22], [], [25], [(.slot 108)]⟩ :: ⟨[25], [], [26], [(.slot 109)]⟩ :: ⟨[25], [], [27], [(.slot 110)]⟩ :: ⟨[22], [], [28], [(.slot 111)]⟩ :: ⟨[19, 22], [], [29], [(.slot 112)]⟩ :: ⟨[19, 29], [], [30], [(.slot 113)]⟩ :: [])) (es' := [(_, _), (_, _), (_, _), (_, _), (113, .v (.bool false))]) (by kernel_rfl) rfl rfl
         ⟨st_plain rfl (op_move _ _ _ _ rfl rfl),
         st_plain rfl (op_move _ _ _ _ (congrArg (fun b => AV.v (Value.bool b)) hg9_1) rfl),
         st_skip 1 92 _ true rfl rfl rfl rfl (List.Mem.head _),
         st_skip 1 92 _ true rfl rfl rfl rfl (List.Mem.head _),
         st_skip 1 92 _ true rfl rfl rfl rfl (List.Mem.head _),
         st_skipU 4 95 _ false rfl rfl rfl rfl (List.Mem.head _),
         st_skipU 4 95 _ false rfl rfl rfl rfl (List.Mem.head _),
         st_skipU 4 95 _ false rfl rfl rfl rfl (List.Mem.head _),
         st_skipU 4 95 _ false rfl rfl rfl rfl (List.Mem.head _),
         st_skip 1 92 _ true rfl rfl rfl rfl (List.Mem.head _),
         st_plain rfl (op_pick _ _ false _ rfl rfl),
         st_plain rfl (op_move _ _ _ _ rfl rfl),
         st_run 11 102 false rfl rfl rfl (List.Mem.head _) (op_move _ _ _ _ rfl rfl),
         st_run 11 102 false rfl rfl rfl (List.Mem.head _) (op_un _ _ _ _ rfl rfl),
         st_run 11 102 false rfl rfl rfl (List.Mem.head _) (op_move _ _ _ _ (congrArg (fun b => AV.v (Value.bool b)) hg9_14) rfl),
         st_skip 14 105 _ true rfl rfl rfl rfl (List.Mem.head _),
         st_skip 14 105 _ true rfl rfl rfl rfl (List.Mem.head _),
         st_skip 14 105 _ true rfl rfl rfl rfl (List.Mem.head _),
         st_skipU 17 108 _ false rfl rfl rfl rfl (List.Mem.head _),
         st_skipU 17 108 _ false rfl rfl rfl rfl (List.Mem.head _),
         st_skip 14 105 _ true rfl rfl rfl rfl (List.Mem.head _),
         st_run 11 102 false rfl rfl rfl (List.Mem.head _) (op_pick _ _ false _ rfl rfl),
         st_plain rfl (op_pick _ _ false _ rfl rfl),
         trivial⟩ ?_
        exact hl33 _ (Option.some.inj h).symm
   ·intro u26 h hl27 hr28
    obtain ⟨v10, hv10, h⟩ := bind_some h
    obtain ⟨v11, hv11, h⟩ := bind_some h
    refine cond_some h (fun hg7_5 h => ?_) (fun hg7_5 h => ?_)
    ·refine ht_seqR hn (El := (_ :: _ :: _ :: _ :: _ :: _ :: _ :: _ :: _ :: _ :: _ :: (50, .agg [.v (.bool p.Null), .v (.string p.Local), .v (.string p.Domain)]) :: (51, .v (.int .i64 v10)) :: (52, .v (.bool (v10 == 0))) :: (53, .v (.bool v9)) :: (54, .v (.bool ((!((v10 == 0) == v9))))) :: (55, .v (.bool true)) :: (56, .v undef) :: (57, .v undef) :: (58, .v undef) :: (59, .v undef) :: (60, .v undef) :: (61, .v undef) :: (62, .v undef) :: (63, .v (.bool true)) :: (64, .v (.bool true)) :: (65, .v undef) :: (66, .v undef) :: (67, .v undef) :: (68, .v undef) :: (69, .v undef) :: (70, .v (.bool true)) :: (71, .v (.bool true)) :: (72, .v undef) :: (73, .v undef) :: (74, .v undef) :: (75, .v undef) :: (76, .v (.bool true)) :: (77, .v (.bool true)) :: (78, .v undef) :: (79, .v undef) :: (80, .v undef) :: (81, .v undef) :: (82, .v undef) :: (83, .v undef) :: (84, .v (.bool true)) :: (85, .v (.bool true)) :: (86, .v undef) :: (87, .v undef) :: (88, .v undef) :: (89, .v undef) :: (90, .v (.bool true)) :: [])) (init := [0, 1, 2, 3, 4, 5, 6, 7, 8, 9, 10]) (fin := [0, 1, 2, 3, 8, 9, 10, 51]) (sps := (⟨[2], [], [11], [(.slot 50)]⟩ :: ⟨[11, 1], [], [12], [(.slot 51)]⟩ :: ⟨[12], [], [13], [(.slot 52)]⟩ :: ⟨[10], [], [14], [(.slot 53)]⟩ :: ⟨[13, 14], [], [15], [(.slot 54)]⟩ :: ⟨[15], [], [16], [(.slot 55)]⟩ :: ⟨[16], [], [17], [(.slot 56)]⟩ :: ⟨[16], [], [18], [(.slot 57)]⟩ :: ⟨[16], [], [19], [(.slot 58)]⟩ :: ⟨[19], [], [20], [(.slot 59)]⟩ :: ⟨[19], [], [21], [(.slot 60)]⟩ :: ⟨[19], [], [22], [(.slot 61)]⟩ :: ⟨[16], [], [23], [(.slot 62)]⟩ :: ⟨[16], [], [24], [(.slot 63)]⟩ :: ⟨[24], [], [25], [(.slot 64)]⟩ :: ⟨[25], [], [26], [(.slot 65)]⟩ :: ⟨[25], [], [27], [(.slot 66)]⟩ :: ⟨[25], [], [28], [(.slot 67)]⟩ :: ⟨[25], [], [29], [(.slot 68)]⟩ :: ⟨[25], [], [30], [(.slot 69)]⟩ :: ⟨[25], [], [31], [(.slot 70)]⟩ :: ⟨[31], [], [32], [(.slot 71)]⟩ :: ⟨[32], [], [33], [(.slot 72)]⟩ :: ⟨[32], [], [34], [(.slot 73)]⟩ :: ⟨[32], [], [35], [(.slot 74)]⟩ :: ⟨[32], [], [36], [(.slot 75)]⟩ :: ⟨[32], [], [37], [(.slot 76)]⟩ :: ⟨[37], [], [38], [(.slot 77)]⟩ :: ⟨[38], [], [39], [(.slot 78)]⟩ :: ⟨[38], [], [40], [(.slot 79)]⟩ :: ⟨[38], [], [41], [(.slot 80)]⟩ :: ⟨[41], [], [42], [(.slot 81)]⟩ :: ⟨[41], [], [43], [(.slot 82)]⟩ :: ⟨[38], [], [44], [(.slot 83)]⟩ :: ⟨[38], [], [45], [(.slot 84)]⟩ :: ⟨[45], [], [46], [(.slot 85)]⟩ :: ⟨[46], [], [47], [(.slot 86)]⟩ :: ⟨[46], [], [48], [(.slot 87)]⟩ :: ⟨[46], [], [49], [(.slot 88)]⟩ :: ⟨[46], [], [50], [(.slot 89)]⟩ :: ⟨[46], [], [51], [(.slot 90)]⟩ :: [])) (es' := [(_, _), (_, _), (_, _), (_, _), (_, _), (_, _), (_, _), (90, .v (.bool true))]) (by kernel_rfl) rfl rfl
      ⟨st_plain rfl (op_loadA _ _ _ _ _ _ _ Tryd.underlying23 rfl sz23 rfl rfl (Nat.le_of_ble_eq_true rfl) rfl rfl),
      st_plain rfl (op_callG _ _ 140 13 _ _ rfl Tryd.call13 rfl rfl (fun _ h => h) (ok_path_Check mx p _ hv10) rfl rfl),
      st_plain rfl (op_bin _ _ _ _ _ rfl rfl rfl),
      st_plain rfl (op_move _ _ _ _ rfl rfl),
      st_plain rfl (op_bne _ _ _ _ Tryd.underlying4 rfl rfl),
      st_plain rfl (op_move _ _ _ _ (congrArg (fun b => AV.v (Value.bool b)) hg7_5) rfl),
      st_skip 5 55 _ false rfl rfl rfl rfl (List.Mem.head _),
      st_skip 5 55 _ false rfl rfl rfl rfl (List.Mem.head _),
      st_skip 5 55 _ false rfl rfl rfl rfl (List.Mem.head _),
      st_skipU 8 58 _ true rfl rfl rfl rfl (List.Mem.head _),
      st_skipU 8 58 _ true rfl rfl rfl rfl (List.Mem.head _),
      st_skipU 8 58 _ true rfl rfl rfl rfl (List.Mem.head _),
      st_skip 5 55 _ false rfl rfl rfl rfl (List.Mem.head _),
      st_plain rfl (op_pick _ _ true _ rfl rfl),
      st_plain rfl (op_move _ _ _ _ rfl rfl),
      st_skip 14 64 _ false rfl rfl rfl rfl (List.Mem.head _),
      st_skip 14 64 _ false rfl rfl rfl rfl (List.Mem.head _),
      st_skip 14 64 _ false rfl rfl rfl rfl (List.Mem.head _),
      st_skip 14 64 _ false rfl rfl rfl rfl (List.Mem.head _),
      st_skip 14 64 _ false rfl rfl rfl rfl (List.Mem.head _),
      st_plain rfl (op_pick _ _ true _ rfl rfl),
      st_plain rfl (op_move _ _ _ _ rfl rfl),
      st_skip 21 71 _ false rfl rfl rfl rfl (List.Mem.head _),
      st_skip 21 71 _ false rfl rfl rfl rfl (List.Mem.head _),
      st_skip 21 71 _ false rfl rfl rfl rfl (List.Mem.head _),
      st_skip 21 71 _ false rfl rfl rfl rfl (List.Mem.head _),
      st_plain rfl (op_pick _ _ true _ rfl rfl),
      st_plain rfl (op_move _ _ _ _ rfl rfl),
      st_skip 27 77 _ false rfl rfl rfl rfl (List.Mem.head _),
      st_skip 27 77 _ false rfl rfl rfl rfl (List.Mem.head _),
      st_skip 27 77 _ false rfl rfl rfl rfl (List.Mem.head _),
      st_skipU 30 80 _ true rfl rfl rfl rfl (List.Mem.head _),
      st_skipU 30 80 _ true rfl rfl rfl rfl (List.Mem.head _),
      st_skip 27 77 _ false rfl rfl rfl rfl (List.Mem.head _),
      st_plain rfl (op_pick _ _ true _ rfl rfl),
      st_plain rfl (op_move _ _ _ _ rfl rfl),
      st_skip 35 85 _ false rfl rfl rfl rfl (List.Mem.head _),
      st_skip 35 85 _ false rfl rfl rfl rfl (List.Mem.head _),
      st_skip 35 85 _ false rfl rfl rfl rfl (List.Mem.head _),
      st_skip 35 85 _ false rfl rfl rfl rfl (List.Mem.head _),
      st_plain rfl (op_pick _ _ true _ rfl rfl),
      trivial⟩ ?_
     exact hl27 _ (Option.some.inj h).symm
    ·refine cond_some h (fun hg7_8 h => ?_) (fun hg7_8 h => ?_)
     ·obtain ⟨v12, hv12, h⟩ := bind_some h
      refine cond_some h (fun hg7_14 h => ?_) (fun hg7_14 h => ?_)
      ·refine ht_seqR hn (El := (_ :: _ :: _ :: _ :: _ :: _ :: _ :: _ :: _ :: _ :: _ :: (50, .agg [.v (.bool p.Null), .v (.string p.Local), .v (.string p.Domain)]) :: (51, .v (.int .i64 v10)) :: (52, .v (.bool (v10 == 0))) :: (53, .v (.bool v9)) :: (54, .v (.bool ((!((v10 == 0) == v9))))) :: (55, .v (.bool false)) :: (56, .v (.bool v9)) :: (57, .v (.bool (!v9))) :: (58, .v (.bool true)) :: (59, .agg [.v (.bool p.Null), .v (.string p.Local), .v (.string p.Domain)]) :: (60, .v (.int .i64 v12)) :: (61, .v (.bool (v12 != 5))) :: (62, .v (.bool (v12 != 5))) :: (63, .v (.bool (v12 != 5))) :: (64, .v (.bool true)) :: (65, .v undef) :: (66, .v undef) :: (67, .v undef) :: (68, .v undef) :: (69, .v undef) :: (70, .v (.bool true)) :: (71, .v (.bool true)) :: (72, .v undef) :: (73, .v undef) :: (74, .v undef) :: (75, .v undef) :: (76, .v (.bool true)) :: (77, .v (.bool true)) :: (78, .v undef) :: (79, .v undef) :: (80, .v undef) :: (81, .v undef) :: (82, .v undef) :: (83, .v undef) :: (84, .v (.bool true)) :: (85, .v (.bool true)) :: (86, .v undef) :: (87, .v undef) :: (88, .v undef) :: (89, .v undef) :: (90, .v (.bool true)) :: [])) (init := [0, 1, 2, 3, 4, 5, 6, 7, 8, 9, 10]) (fin := [0, 1, 2, 3, 8, 9, 10, 51]) (sps := (⟨[2], [], [11], [(.slot 50)]⟩ :: ⟨[11, 1], [], [12], [(.slot 51)]⟩ :: ⟨[12], [], [13], [(.slot 52)]⟩ :: ⟨[10], [], [14], [(.slot 53)]⟩ :: ⟨[13, 14], [], [15], [(.slot 54)]⟩ :: ⟨[15], [], [16], [(.slot 55)]⟩ :: ⟨[16, 10], [], [17], [(.slot 56)]⟩ :: ⟨[16, 17], [], [18], [(.slot 57)]⟩ :: ⟨[16, 18], [], [19], [(.slot 58)]⟩ :: ⟨[19, 2], [], [20], [(.slot 59)]⟩ :: ⟨[19, 20, 1], [], [21], [(.slot 60)]⟩ :: ⟨[19, 21], [], [22], [(.slot 61)]⟩ :: ⟨[16, 19, 22], [], [23], [(.slot 62)]⟩ :: ⟨[16, 23], [], [24], [(.slot 63)]⟩ :: ⟨[24], [], [25], [(.slot 64)]⟩ :: ⟨[25], [], [26], [(.slot 65)]⟩ :: ⟨[25], [], [27], [(.slot 66)]⟩ :: ⟨[25], [], [28], [(.slot 67)]⟩ :: ⟨[25], [], [29], [(.slot 68)]⟩ :: ⟨[25], [], [30], [(.slot 69)]⟩ :: ⟨[25], [], [31], [(.slot 70)]⟩ :: ⟨[31], [], [32], [(.slot 71)]⟩ :: ⟨[32], [], [33], [(.slot 72)]⟩ :: ⟨[32], [], [34], [(.slot 73)]⟩ :: ⟨[32], [], [35], [(.slot 74)]⟩ :: ⟨[32], [], [36], [(.slot 75)]⟩ :: ⟨[32], [], [37], [(.slot 76)]⟩ :: ⟨[37], [], [38], [(.slot 77)]⟩ :: ⟨[38], [], [39], [(.slot 78)]⟩ :: ⟨[38], [], [40], [(.slot 79)]⟩ :: ⟨[38], [], [41], [(.slot 80)]⟩ :: ⟨[41], [], [42], [(.slot 81)]⟩ :: ⟨[41], [], [43], [(.slot 82)]⟩ :: ⟨[38], [], [44], [(.slot 83)]⟩ :: ⟨[38], [], [45], [(.slot 84)]⟩ :: ⟨[45], [], [46], [(.slot 85)]⟩ :: ⟨[46], [], [47], [(.slot 86)]⟩ :: ⟨[46], [], [48], [(.slot 87)]⟩ :: ⟨[46], [], [49], [(.slot 88)]⟩ :: ⟨[46], [], [50], [(.slot 89)]⟩ :: ⟨[46], [], [51], [(.slot 90)]⟩ :: [])) (es' := [(_, _), (_, _), (_, _), (_, _), (_, _), (_, _), (_, _), (90, .v (.bool true))]) (by kernel_rfl) rfl rfl
        ⟨st_plain rfl (op_loadA _ _ _ _ _ _ _ Tryd.underlying23 rfl sz23 rfl rfl (Nat.le_of_ble_eq_true rfl) rfl rfl),
        st_plain rfl (op_callG _ _ 140 13 _ _ rfl Tryd.call13 rfl rfl (fun _ h => h) (ok_path_Check mx p _ hv10) rfl rfl),
        st_plain rfl (op_bin _ _ _ _ _ rfl rfl rfl),
        st_plain rfl (op_move _ _ _ _ rfl rfl),
        st_plain rfl (op_bne _ _ _ _ Tryd.underlying4 rfl rfl),
        st_plain rfl (op_move _ _ _ _ (congrArg (fun b => AV.v (Value.bool b)) hg7_5) rfl),
        st_run 5 55 false rfl rfl rfl (List.Mem.head _) (op_move _ _ _ _ rfl rfl),
        st_run 5 55 false rfl rfl rfl (List.Mem.head _) (op_un _ _ _ _ rfl rfl),
        st_run 5 55 false rfl rfl rfl (List.Mem.head _) (op_move _ _ _ _ (congrArg (fun b => AV.v (Value.bool b)) hg7_8) rfl),
        st_run 8 58 true rfl rfl rfl (List.Mem.head _) (op_loadA _ _ _ _ _ _ _ Tryd.underlying23 rfl sz23 rfl rfl (Nat.le_of_ble_eq_true rfl) rfl rfl),
        st_run 8 58 true rfl rfl rfl (List.Mem.head _) (op_callG _ _ 140 13 _ _ rfl Tryd.call13 rfl rfl (fun _ h => h) (ok_path_Check mx p _ hv12) rfl rfl),
        st_run 8 58 true rfl rfl rfl (List.Mem.head _) (op_bin _ _ _ _ _ rfl rfl rfl),
        st_run 5 55 false rfl rfl rfl (List.Mem.head _) (op_pick _ _ true _ rfl rfl),
        st_plain rfl (op_pick _ _ false _ rfl rfl),
        st_plain rfl (op_move _ _ _ _ (congrArg (fun b => AV.v (Value.bool b)) hg7_14) rfl),
        st_skip 14 64 _ false rfl rfl rfl rfl (List.Mem.head _),
        st_skip 14 64 _ false rfl rfl rfl rfl (List.Mem.head _),
        st_skip 14 64 _ false rfl rfl rfl rfl (List.Mem.head _),
        st_skip 14 64 _ false rfl rfl rfl rfl (List.Mem.head _),
        st_skip 14 64 _ false rfl rfl rfl rfl (List.Mem.head _),
        st_plain rfl (op_pick _ _ true _ rfl rfl),
        st_plain rfl (op_move _ _ _ _ rfl rfl),
        st_skip 21 71 _ false rfl rfl rfl rfl (List.Mem.head _),
        st_skip 21 71 _ false rfl rfl rfl rfl (List.Mem.head _),
        st_skip 21 71 _ false rfl rfl rfl rfl (List.Mem.head _),
        st_skip 21 71 _ false rfl rfl rfl rfl (List.Mem.head _),
        st_plain rfl (op_pick _ _ true _ rfl rfl),
        st_plain rfl (op_move _ _ _ _ rfl rfl),
        st_skip 27 77 _ false rfl rfl rfl rfl (List.Mem.head _),
        st_skip 27 77 _ false rfl rfl rfl rfl (List.Mem.head _),
        st_skip 27 77 _ false rfl rfl rfl rfl (List.Mem.head _),
        st_skipU 30 80 _ true rfl rfl rfl rfl (List.Mem.head _),
        st_skipU 30 80 _ true rfl rfl rfl rfl (List.Mem.head _),
        st_skip 27 77 _ false rfl rfl rfl rfl (List.Mem.head _),
        st_plain rfl (op_pick _ _ true _ rfl rfl),
        st_plain rfl (op_move _ _ _ _ rfl rfl),
        st_skip 35 85 _ false rfl rfl rfl rfl (List.Mem.head _),
        st_skip 35 85 _ false rfl rfl rfl rfl (List.Mem.head _),
        st_skip 35 85 _ false rfl rfl rfl rfl (List.Mem.head _),
        st_skip 35 85 _ false rfl rfl rfl rfl (List.Mem.head _),
        st_plain rfl (op_pick _ _ true _ rfl rfl),
        trivial⟩ ?_
       exact hl27 _ (Option.some.inj h).symm
      ·obtain ⟨v13, hv13, h⟩ := bind_some h
       obtain ⟨v14, hv14, h⟩ := bind_some h
       obtain ⟨v15, hv15, h⟩ := bind_some h
       refine cond_some h (fun hg7_21 h => ?_) (fun hg7_21 h => ?_)
       ·refine ht_seqR hn (El := (_ :: _ :: _ :: _ :: _ :: _ :: _ :: _ :: _ :: _ :: _ :: (50, .agg [.v (.bool p.Null), .v (.string p.Local), .v (.string p.Domain)]) :: (51, .v (.int .i64 v10)) :: (52, .v (.bool (v10 == 0))) :: (53, .v (.bool v9)) :: (54, .v (.bool ((!((v10 == 0) == v9))))) :: (55, .v (.bool false)) :: (56, .v (.bool v9)) :: (57, .v (.bool (!v9))) :: (58, .v (.bool true)) :: (59, .agg [.v (.bool p.Null), .v (.string p.Local), .v (.string p.Domain)]) :: (60, .v (.int .i64 v12)) :: (61, .v (.bool (v12 != 5))) :: (62, .v (.bool (v12 != 5))) :: (63, .v (.bool (v12 != 5))) :: (64, .v (.bool false)) :: (65, .v (.string s)) :: (66, .v (.bool v13)) :: (67, .v (.string s)) :: (68, .v (.bool v14)) :: (69, .v (.bool ((!(v13 == v14))))) :: (70, .v (.bool ((!(v13 == v14))))) :: (71, .v (.bool true)) :: (72, .v undef) :: (73, .v undef) :: (74, .v undef) :: (75, .v undef) :: (76, .v (.bool true)) :: (77, .v (.bool true)) :: (78, .v undef) :: (79, .v undef) :: (80, .v undef) :: (81, .v undef) :: (82, .v undef) :: (83, .v undef) :: (84, .v (.bool true)) :: (85, .v (.bool true)) :: (86, .v undef) :: (87, .v undef) :: (88, .v undef) :: (89, .v undef) :: (90, .v (.bool true)) :: [])) (init := [0, 1, 2, 3, 4, 5, 6, 7, 8, 9, 10]) (fin := [0, 1, 2, 3, 8, 9, 10, 51]) (sps := (⟨[2], [], [11], [(.slot 50)]⟩ :: ⟨[11, 1], [], [12], [(.slot 51)]⟩ :: ⟨[12], [], [13], [(.slot 52)]⟩ :: ⟨[10], [], [14], [(.slot 53)]⟩ :: ⟨[13, 14], [], [15], [(.slot 54)]⟩ :: ⟨[15], [], [16], [(.slot 55)]⟩ :: ⟨[16, 10], [], [17], [(.slot 56)]⟩ :: ⟨[16, 17], [], [18], [(.slot 57)]⟩ :: ⟨[16, 18], [], [19], [(.slot 58)]⟩ :: ⟨[19, 2], [], [20], [(.slot 59)]⟩ :: ⟨[19, 20, 1], [], [21], [(.slot 60)]⟩ :: ⟨[19, 21], [], [22], [(.slot 61)]⟩ :: ⟨[16, 19, 22], [], [23], [(.slot 62)]⟩ :: ⟨[16, 23], [], [24], [(.slot 63)]⟩ :: ⟨[24], [], [25], [(.slot 64)]⟩ :: ⟨[25, 0], [], [26], [(.slot 65)]⟩ :: ⟨[25, 26, 1], [], [27], [(.slot 66)]⟩ :: ⟨[25, 0], [], [28], [(.slot 67)]⟩ :: ⟨[25, 28], [], [29], [(.slot 68)]⟩ :: ⟨[25, 27, 29], [], [30], [(.slot 69)]⟩ :: ⟨[25, 30], [], [31], [(.slot 70)]⟩ :: ⟨[31], [], [32], [(.slot 71)]⟩ :: ⟨[32], [], [33], [(.slot 72)]⟩ :: ⟨[32], [], [34], [(.slot 73)]⟩ :: ⟨[32], [], [35], [(.slot 74)]⟩ :: ⟨[32], [], [36], [(.slot 75)]⟩ :: ⟨[32], [], [37], [(.slot 76)]⟩ :: ⟨[37], [], [38], [(.slot 77)]⟩ :: ⟨[38], [], [39], [(.slot 78)]⟩ :: ⟨[38], [], [40], [(.slot 79)]⟩ :: ⟨[38], [], [41], [(.slot 80)]⟩ :: ⟨[41], [], [42], [(.slot 81)]⟩ :: ⟨[41], [], [43], [(.slot 82)]⟩ :: ⟨[38], [], [44], [(.slot 83)]⟩ :: ⟨[38], [], [45], [(.slot 84)]⟩ :: ⟨[45], [], [46], [(.slot 85)]⟩ :: ⟨[46], [], [47], [(.slot 86)]⟩ :: ⟨[46], [], [48], [(.slot 87)]⟩ :: ⟨[46], [], [49], [(.slot 88)]⟩ :: ⟨[46], [], [50], [(.slot 89)]⟩ :: ⟨[46], [], [51], [(.slot 90)]⟩ :: [])) (es' := [(_, _), (_, _), (_, _), (_, _), (_, _), (_, _), (_, _), (90, .v (.bool true))]) (by kernel_rfl) rfl rfl
         ⟨st_plain rfl (op_loadA _ _ _ _ _ _ _ Tryd.underlying23 rfl sz23 rfl rfl (Nat.le_of_ble_eq_true rfl) rfl rfl),
         st_plain rfl (op_callG _ _ 140 13 _ _ rfl Tryd.call13 rfl rfl (fun _ h => h) (ok_path_Check mx p _ hv10) rfl rfl),
         st_plain rfl (op_bin _ _ _ _ _ rfl rfl rfl),
         st_plain rfl (op_move _ _ _ _ rfl rfl),
         st_plain rfl (op_bne _ _ _ _ Tryd.underlying4 rfl rfl),
         st_plain rfl (op_move _ _ _ _ (congrArg (fun b => AV.v (Value.bool b)) hg7_5) rfl),
         st_run 5 55 false rfl rfl rfl (List.Mem.head _) (op_move _ _ _ _ rfl rfl),
         st_run 5 55 false rfl rfl rfl (List.Mem.head _) (op_un _ _ _ _ rfl rfl),
         st_run 5 55 false rfl rfl rfl (List.Mem.head _) (op_move _ _ _ _ (congrArg (fun b => AV.v (Value.bool b)) hg7_8) rfl),
         st_run 8 58 true rfl rfl rfl (List.Mem.head _) (op_loadA _ _ _ _ _ _ _ Tryd.underlying23 rfl sz23 rfl rfl (Nat.le_of_ble_eq_true rfl) rfl rfl),
         st_run 8 58 true rfl rfl rfl (List.Mem.head _) (op_callG _ _ 140 13 _ _ rfl Tryd.call13 rfl rfl (fun _ h => h) (ok_path_Check mx p _ hv12) rfl rfl),
         st_run 8 58 true rfl rfl rfl (List.Mem.head _) (op_bin _ _ _ _ _ rfl rfl rfl),
         st_run 5 55 false rfl rfl rfl (List.Mem.head _) (op_pick _ _ true _ rfl rfl),
         st_plain rfl (op_pick _ _ false _ rfl rfl),
         st_plain rfl (op_move _ _ _ _ (congrArg (fun b => AV.v (Value.bool b)) hg7_14) rfl),
         st_run 14 64 false rfl rfl rfl (List.Mem.head _) (op_move _ _ _ _ rfl rfl),
         st_run 14 64 false rfl rfl rfl (List.Mem.head _) (op_callG _ _ 140 14 _ _ rfl Tryd.call14 rfl rfl (fun _ h => h) (ok_path_Domain mx s _ hv13) rfl rfl),
         st_run 14 64 false rfl rfl rfl (List.Mem.head _) (op_move _ _ _ _ rfl rfl),
         st_run 14 64 false rfl rfl rfl (List.Mem.head _) (op_call _ _ 15 _ _ rfl Tryd.call15 rfl (ok_wherryref11_Domain s _ hv14) rfl rfl),
         st_run 14 64 false rfl rfl rfl (List.Mem.head _) (op_bne _ _ _ _ Tryd.underlying4 rfl rfl),
         st_plain rfl (op_pick _ _ false _ rfl rfl),
         st_plain rfl (op_move _ _ _ _ (congrArg (fun b => AV.v (Value.bool b)) hg7_21) rfl),
         st_skip 21 71 _ false rfl rfl rfl rfl (List.Mem.head _),
         st_skip 21 71 _ false rfl rfl rfl rfl (List.Mem.head _),
         st_skip 21 71 _ false rfl rfl rfl rfl (List.Mem.head _),
         st_skip 21 71 _ false rfl rfl rfl rfl (List.Mem.head _),
         st_plain rfl (op_pick _ _ true _ rfl rfl),
         st_plain rfl (op_move _ _ _ _ rfl rfl),
         st_skip 27 77 _ false rfl rfl rfl rfl (List.Mem.head _),
         st_skip 27 77 _ false rfl rfl rfl rfl (List.Mem.head _),
         st_skip 27 77 _ false rfl rfl rfl rfl (List.Mem.head _),
         st_skipU 30 80 _ true rfl rfl rfl rfl (List.Mem.head _),
         st_skipU 30 80 _ true rfl rfl rfl rfl (List.Mem.head _),
         st_skip 27 77 _ false rfl rfl rfl rfl (List.Mem.head _),
         st_plain rfl (op_pick _ _ true _ rfl rfl),
         st_plain rfl (op_move _ _ _ _ rfl rfl),
         st_skip 35 85 _ false rfl rfl rfl rfl (List.Mem.head _),
         st_skip 35 85 _ false rfl rfl rfl rfl (List.Mem.head _),
         st_skip 35 85 _ false rfl rfl rfl rfl (List.Mem.head _),
         st_skip 35 85 _ false rfl rfl rfl rfl (List.Mem.head _),
         st_plain rfl (op_pick _ _ true _ rfl rfl),
         trivial⟩ ?_
        exact hl27 _ (Option.some.inj h).symm
       ·obtain ⟨v16, hv16, h⟩ := bind_some h
        refine cond_some h (fun hg7_27 h => ?_) (fun hg7_27 h => ?_)
        ·refine ht_seqR hn (El := (_ :: _ :: _ :: _ :: _ :: _ :: _ :: _ :: _ :: _ :: _ :: (50, .agg [.v (.bool p.Null), .v (.string p.Local), .v (.string p.Domain)]) :: (51, .v (.int .i64 v10)) :: (52, .v (.bool (v10 == 0))) :: (53, .v (.bool v9)) :: (54, .v (.bool ((!((v10 == 0) == v9))))) :: (55, .v (.bool false)) :: (56, .v (.bool v9)) :: (57, .v (.bool (!v9))) :: (58, .v (.bool true)) :: (59, .agg [.v (.bool p.Null), .v (.string p.Local), .v (.string p.Domain)]) :: (60, .v (.int .i64 v12)) :: (61, .v (.bool (v12 != 5))) :: (62, .v (.bool (v12 != 5))) :: (63, .v (.bool (v12 != 5))) :: (64, .v (.bool false)) :: (65, .v (.string s)) :: (66, .v (.bool v13)) :: (67, .v (.string s)) :: (68, .v (.bool v14)) :: (69, .v (.bool ((!(v13 == v14))))) :: (70, .v (.bool ((!(v13 == v14))))) :: (71, .v (.bool false)) :: (72, .v (.int .i64 v6.2)) :: (73, .v (.bool (v6.2 == 0))) :: (74, .v (.bool v7.2)) :: (75, .v (.bool ((!((v6.2 == 0) == v7.2))))) :: (76, .v (.bool ((!((v6.2 == 0) == v7.2))))) :: (77, .v (.bool true)) :: (78, .v undef) :: (79, .v undef) :: (80, .v undef) :: (81, .v undef) :: (82, .v undef) :: (83, .v undef) :: (84, .v (.bool true)) :: (85, .v (.bool true)) :: (86, .v undef) :: (87, .v undef) :: (88, .v undef) :: (89, .v undef) :: (90, .v (.bool true)) :: [])) (init := [0, 1, 2, 3, 4, 5, 6, 7, 8, 9, 10]) (fin := [0, 1, 2, 3, 8, 9, 10, 51]) (sps := (⟨[2], [], [11], [(.slot 50)]⟩ :: ⟨[11, 1], [], [12], [(.slot 51)]⟩ :: ⟨[12], [], [13], [(.slot 52)]⟩ :: ⟨[10], [], [14], [(.slot 53)]⟩ :: ⟨[13, 14], [], [15], [(.slot 54)]⟩ :: ⟨[15], [], [16], [(.slot 55)]⟩ :: ⟨[16, 10], [], [17], [(.slot 56)]⟩ :: ⟨[16, 17], [], [18], [(.slot 57)]⟩ :: ⟨[16, 18], [], [19], [(.slot 58)]⟩ :: ⟨[19, 2], [], [20], [(.slot 59)]⟩ :: ⟨[19, 20, 1], [], [21], [(.slot 60)]⟩ :: ⟨[19, 21], [], [22], [(.slot 61)]⟩ :: ⟨[16, 19, 22], [], [23], [(.slot 62)]⟩ :: ⟨[16, 23], [], [24], [(.slot 63)]⟩ :: ⟨[24], [], [25], [(.slot 64)]⟩ :: ⟨[25, 0], [], [26], [(.slot 65)]⟩ :: ⟨[25, 26, 1], [], [27], [(.slot 66)]⟩ :: ⟨[25, 0], [], [28], [(.slot 67)]⟩ :: ⟨[25, 28], [], [29], [(.slot 68)]⟩ :: ⟨[25, 27, 29], [], [30], [(.slot 69)]⟩ :: ⟨[25, 30], [], [31], [(.slot 70)]⟩ :: ⟨[31], [], [32], [(.slot 71)]⟩ :: ⟨[32, 5], [], [33], [(.slot 72)]⟩ :: ⟨[32, 33], [], [34], [(.slot 73)]⟩ :: ⟨[32, 7], [], [35], [(.slot 74)]⟩ :: ⟨[32, 34, 35], [], [36], [(.slot 75)]⟩ :: ⟨[32, 36], [], [37], [(.slot 76)]⟩ :: ⟨[37], [], [38], [(.slot 77)]⟩ :: ⟨[38], [], [39], [(.slot 78)]⟩ :: ⟨[38], [], [40], [(.slot 79)]⟩ :: ⟨[38], [], [41], [(.slot 80)]⟩ :: ⟨[41], [], [42], [(.slot 81)]⟩ :: ⟨[41], [], [43], [(.slot 82)]⟩ :: ⟨[38], [], [44], [(.slot 83)]⟩ :: ⟨[38], [], [45], [(.slot 84)]⟩ :: ⟨[45], [], [46], [(.slot 85)]⟩ :: ⟨[46], [], [47], [(.slot 86)]⟩ :: ⟨[46], [], [48], [(.slot 87)]⟩ :: ⟨[46], [], [49], [(.slot 88)]⟩ :: ⟨[46], [], [50], [(.slot 89)]⟩ :: ⟨[46], [], [51], [(.slot 90)]⟩ :: [])) (es' := [(_, _), (_, _), (_, _), (_, _), (_, _), (_, _), (_, _), (90, .v (.bool true))]) (by kernel_rfl) rfl rfl
          ⟨st_plain rfl (op_loadA _ _ _ _ _ _ _ Tryd.underlying23 rfl sz23 rfl rfl (Nat.le_of_ble_eq_true rfl) rfl rfl),
          st_plain rfl (op_callG _ _ 140 13 _ _ rfl Tryd.call13 rfl rfl (fun _ h => h) (ok_path_Check mx p _ hv10) rfl rfl),
          st_plain rfl (op_bin _ _ _ _ _ rfl rfl rfl),
          st_plain rfl (op_move _ _ _ _ rfl rfl),
          st_plain rfl (op_bne _ _ _ _ Tryd.underlying4 rfl rfl),
          st_plain rfl (op_move _ _ _ _ (congrArg (fun b => AV.v (Value.bool b)) hg7_5) rfl),
          st_run 5 55 false rfl rfl rfl (List.Mem.head _) (op_move _ _ _ _ rfl rfl),
          st_run 5 55 false rfl rfl rfl (List.Mem.head _) (op_un _ _ _ _ rfl rfl),
          st_run 5 55 false rfl rfl rfl (List.Mem.head _) (op_move _ _ _ _ (congrArg (fun b => AV.v (Value.bool b)) hg7_8) rfl),
          st_run 8 58 true rfl rfl rfl (List.Mem.head _) (op_loadA _ _ _ _ _ _ _ Tryd.underlying23 rfl sz23 rfl rfl (Nat.le_of_ble_eq_true rfl) rfl rfl),
          st_run 8 58 true rfl rfl rfl (List.Mem.head _) (op_callG _ _ 140 13 _ _ rfl Tryd.call13 rfl rfl (fun _ h => h) (ok_path_Check mx p _ hv12) rfl rfl),
          st_run 8 58 true rfl rfl rfl (List.Mem.head _) (op_bin _ _ _ _ _ rfl rfl rfl),
          st_run 5 55 false rfl rfl rfl (List.Mem.head _) (op_pick _ _ true _ rfl rfl),
          st_plain rfl (op_pick _ _ false _ rfl rfl),
          st_plain rfl (op_move _ _ _ _ (congrArg (fun b => AV.v (Value.bool b)) hg7_14) rfl),
          st_run 14 64 false rfl rfl rfl (List.Mem.head _) (op_move _ _ _ _ rfl rfl),
          st_run 14 64 false rfl rfl rfl (List.Mem.head _) (op_callG _ _ 140 14 _ _ rfl Tryd.call14 rfl rfl (fun _ h => h) (ok_path_Domain mx s _ hv13) rfl rfl),
          st_run 14 64 false rfl rfl rfl (List.Mem.head _) (op_move _ _ _ _ rfl rfl),
          st_run 14 64 false rfl rfl rfl (List.Mem.head _) (op_call _ _ 15 _ _ rfl Tryd.call15 rfl (ok_wherryref11_Domain s _ hv14) rfl rfl),
          st_run 14 64 false rfl rfl rfl (List.Mem.head _) (op_bne _ _ _ _ Tryd.underlying4 rfl rfl),
          st_plain rfl (op_pick _ _ false _ rfl rfl),
          st_plain rfl (op_move _ _ _ _ (congrArg (fun b => AV.v (Value.bool b)) hg7_21) rfl),
          st_run 21 71 false rfl rfl rfl (List.Mem.head _) (op_move _ _ _ _ rfl rfl),
          st_run 21 71 false rfl rfl rfl (List.Mem.head _) (op_bin _ _ _ _ _ rfl rfl rfl),
          st_run 21 71 false rfl rfl rfl (List.Mem.head _) (op_move _ _ _ _ rfl rfl),
          st_run 21 71 false rfl rfl rfl (List.Mem.head _) (op_bne _ _ _ _ Tryd.underlying4 rfl rfl),
          st_plain rfl (op_pick _ _ false _ rfl rfl),
          st_plain rfl (op_move _ _ _ _ (congrArg (fun b => AV.v (Value.bool b)) hg7_27) rfl),
          st_skip 27 77 _ false rfl rfl rfl rfl (List.Mem.head _),
          st_skip 27 77 _ false rfl rfl rfl rfl (List.Mem.head _),
          st_skip 27 77 _ false rfl rfl rfl rfl (List.Mem.head _),
          st_skipU 30 80 _ true rfl rfl rfl rfl (List.Mem.head _),
          st_skipU 30 80 _ true rfl rfl rfl rfl (List.Mem.head _),
          st_skip 27 77 _ false rfl rfl rfl rfl (List.Mem.head _),
          st_plain rfl (op_pick _ _ true _ rfl rfl),
          st_plain rfl (op_move _ _ _ _ rfl rfl),
          st_skip 35 85 _ false rfl rfl rfl rfl (List.Mem.head _),
          st_skip 35 85 _ false rfl rfl rfl rfl (List.Mem.head _),
          st_skip 35 85 _ false rfl rfl rfl rfl (List.Mem.head _),
          st_skip 35 85 _ false rfl rfl rfl rfl (List.Mem.head _),
          st_plain rfl (op_pick _ _ true _ rfl rfl),
          trivial⟩ ?_
         exact hl27 _ (Option.some.inj h).symm
        ·refine cond_some h (fun hg7_30 h => ?_) (fun hg7_30 h => ?_)
         ·refine cond_some h (fun hg7_35 h => ?_) (fun hg7_35 h => ?_)
          ·refine ht_seqR hn (El := (_ :: _ :: _ :: _ :: _ :: _ :: _ :: _ :: _ :: _ :: _ :: (50, .agg [.v (.bool p.Null), .v (.string p.Local), .v (.string p.Domain)]) :: (51, .v (.int .i64 v10)) :: (52, .v (.bool (v10 == 0))) :: (53, .v (.bool v9)) :: (54, .v (.bool ((!((v10 == 0) == v9))))) :: (55, .v (.bool false)) :: (56, .v (.bool v9)) :: (57, .v (.bool (!v9))) :: (58, .v (.bool true)) :: (59, .agg [.v (.bool p.Null), .v (.string p.Local), .v (.string p.Domain)]) :: (60, .v (.int .i64 v12)) :: (61, .v (.bool (v12 != 5))) :: (62, .v (.bool (v12 != 5))) :: (63, .v (.bool (v12 != 5))) :: (64, .v (.bool false)) :: (65, .v (.string s)) :: (66, .v (.bool v13)) :: (67, .v (.string s)) :: (68, .v (.bool v14)) :: (69, .v (.bool ((!(v13 == v14))))) :: (70, .v (.bool ((!(v13 == v14))))) :: (71, .v (.bool false)) :: (72, .v (.int .i64 v6.2)) :: (73, .v (.bool (v6.2 == 0))) :: (74, .v (.bool v7.2)) :: (75, .v (.bool ((!((v6.2 == 0) == v7.2))))) :: (76, .v (.bool ((!((v6.2 == 0) == v7.2))))) :: (77, .v (.bool false)) :: (78, .v (.bool v7.2)) :: (79, .v (.bool (!v7.2))) :: (80, .v (.bool true)) :: (81, .v (.int .i64 v6.2)) :: (82, .v (.bool (v6.2 != 5))) :: (83, .v (.bool (v6.2 != 5))) :: (84, .v (.bool (v6.2 != 5))) :: (85, .v (.bool true)) :: (86, .v undef) :: (87, .v undef) :: (88, .v undef) :: (89, .v undef) :: (90, .v (.bool true)) :: [])) (init := [0, 1, 2, 3, 4, 5, 6, 7, 8, 9, 10]) (fin := [0, 1, 2, 3, 8, 9, 10, 51]) (sps := (⟨[2], [], [11], [(.slot 50)]⟩ :: ⟨[11, 1], [], [12], [(.slot 51)]⟩ :: ⟨[12], [], [13], [(.slot 52)]⟩ :: ⟨[10], [], [14], [(.slot 53)]⟩ :: ⟨[13, 14], [], [15], [(.slot 54)]⟩ :: ⟨[15], [], [16], [(.slot 55)]⟩ :: ⟨[16, 10], [], [17], [(.slot 56)]⟩ :: ⟨[16, 17], [], [18], [(.slot 57)]⟩ :: ⟨[16, 18], [], [19], [(.slot 58)]⟩ :: ⟨[19, 2], [], [20], [(.slot 59)]⟩ :: ⟨[19, 20, 1], [], [21], [(.slot 60)]⟩ :: ⟨[19, 21], [], [22], [(.slot 61)]⟩ :: ⟨[16, 19, 22], [], [23], [(.slot 62)]⟩ :: ⟨[16, 23], [], [24], [(.slot 63)]⟩ :: ⟨[24], [], [25], [(.slot 64)]⟩ :: ⟨[25, 0], [], [26], [(.slot 65)]⟩ :: ⟨[25, 26, 1], [], [27], [(.slot 66)]⟩ :: ⟨[25, 0], [], [28], [(.slot 67)]⟩ :: ⟨[25, 28], [], [29], [(.slot 68)]⟩ :: ⟨[25, 27, 29], [], [30], [(.slot 69)]⟩ :: ⟨[25, 30], [], [31], [(.slot 70)]⟩ :: ⟨[31], [], [32], [(.slot 71)]⟩ :: ⟨[32, 5], [], [33], [(.slot 72)]⟩ :: ⟨[32, 33], [], [34], [(.slot 73)]⟩ :: ⟨[32, 7], [], [35], [(.slot 74)]⟩ :: ⟨[32, 34, 35], [], [36], [(.slot 75)]⟩ :: ⟨[32, 36], [], [37], [(.slot 76)]⟩ :: ⟨[37], [], [38], [(.slot 77)]⟩ :: ⟨[38, 7], [], [39], [(.slot 78)]⟩ :: ⟨[38, 39], [], [40], [(.slot 79)]⟩ :: ⟨[38, 40], [], [41], [(.slot 80)]⟩ :: ⟨[41, 5], [], [42], [(.slot 81)]⟩ :: ⟨[41, 42], [], [43], [(.slot 82)]⟩ :: ⟨[38, 41, 43], [], [44], [(.slot 83)]⟩ :: ⟨[38, 44], [], [45], [(.slot 84)]⟩ :: ⟨[45], [], [46], [(.slot 85)]⟩ :: ⟨[46], [], [47], [(.slot 86)]⟩ :: ⟨[46], [], [48], [(.slot 87)]⟩ :: ⟨[46], [], [49], [(.slot 88)]⟩ :: ⟨[46], [], [50], [(.slot 89)]⟩ :: ⟨[46], [], [51], [(.slot 90)]⟩ :: [])) (es' := [(_, _), (_, _), (_, _), (_, _), (_, _), (_, _), (_, _), (90, .v (.bool true))]) (by kernel_rfl) rfl rfl
            ⟨st_plain rfl (op_loadA _ _ _ _ _ _ _ Tryd.underlying23 rfl sz23 rfl rfl (Nat.le_of_ble_eq_true rfl) rfl rfl),
            st_plain rfl (op_callG _ _ 140 13 _ _ rfl Tryd.call13 rfl rfl (fun _ h => h) (ok_path_Check mx p _ hv10) rfl rfl),
            st_plain rfl (op_bin _ _ _ _ _ rfl rfl rfl),
            st_plain rfl (op_move _ _ _ _ rfl rfl),
            st_plain rfl (op_bne _ _ _ _ Tryd.underlying4 rfl rfl),
            st_plain rfl (op_move _ _ _ _ (congrArg (fun b => AV.v (Value.bool b)) hg7_5) rfl),
            st_run 5 55 false rfl rfl rfl (List.Mem.head _) (op_move _ _ _ _ rfl rfl),
            st_run 5 55 false rfl rfl rfl (List.Mem.head _) (op_un _ _ _ _ rfl rfl),
            st_run 5 55 false rfl rfl rfl (List.Mem.head _) (op_move _ _ _ _ (congrArg (fun b => AV.v (Value.bool b)) hg7_8) rfl),
            st_run 8 58 true rfl rfl rfl (List.Mem.head _) (op_loadA _ _ _ _ _ _ _ Tryd.underlying23 rfl sz23 rfl rfl (Nat.le_of_ble_eq_true rfl) rfl rfl),
            st_run 8 58 true rfl rfl rfl (List.Mem.head _) (op_callG _ _ 140 13 _ _ rfl Tryd.call13 rfl rfl (fun _ h => h) (ok_path_Check mx p _ hv12) rfl rfl),
            st_run 8 58 true rfl rfl rfl (List.Mem.head _) (op_bin _ _ _ _ _ rfl rfl rfl),
            st_run 5 55 false rfl rfl rfl (List.Mem.head _) (op_pick _ _ true _ rfl rfl),
            st_plain rfl (op_pick _ _ false _ rfl rfl),
            st_plain rfl (op_move _ _ _ _ (congrArg (fun b => AV.v (Value.bool b)) hg7_14) rfl),
            st_run 14 64 false rfl rfl rfl (List.Mem.head _) (op_move _ _ _ _ rfl rfl),
            st_run 14 64 false rfl rfl rfl (List.Mem.head _) (op_callG _ _ 140 14 _ _ rfl Tryd.call14 rfl rfl (fun _ h => h) (ok_path_Domain mx s _ hv13) rfl rfl),
            st_run 14 64 false rfl rfl rfl (List.Mem.head _) (op_move _ _ _ _ rfl rfl),
            st_run 14 64 false rfl rfl rfl (List.Mem.head _) (op_call _ _ 15 _ _ rfl Tryd.call15 rfl (ok_wherryref11_Domain s _ hv14) rfl rfl),
            st_run 14 64 false rfl rfl rfl (List.Mem.head _) (op_bne _ _ _ _ Tryd.underlying4 rfl rfl),
            st_plain rfl (op_pick _ _ false _ rfl rfl),
            st_plain rfl (op_move _ _ _ _ (congrArg (fun b => AV.v (Value.bool b)) hg7_21) rfl),
            st_run 21 71 false rfl rfl rfl (List.Mem.head _) (op_move _ _ _ _ rfl rfl),
            st_run 21 71 false rfl rfl rfl (List.Mem.head _) (op_bin _ _ _ _ _ rfl rfl rfl),
            st_run 21 71 false rfl rfl rfl (List.Mem.head _) (op_move _ _ _ _ rfl rfl),
            st_run 21 71 false rfl rfl rfl (List.Mem.head _) (op_bne _ _ _ _ Tryd.underlying4 rfl rfl),
            st_plain rfl (op_pick _ _ false _ rfl rfl),
            st_plain rfl (op_move _ _ _ _ (congrArg (fun b => AV.v (Value.bool b)) hg7_27) rfl),
            st_run 27 77 false rfl rfl rfl (List.Mem.head _) (op_move _ _ _ _ rfl rfl),
            st_run 27 77 false rfl rfl rfl (List.Mem.head _) (op_un _ _ _ _ rfl rfl),
            st_run 27 77 false rfl rfl rfl (List.Mem.head _) (op_move _ _ _ _ (congrArg (fun b => AV.v (Value.bool b)) hg7_30) rfl),
            st_run 30 80 true rfl rfl rfl (List.Mem.head _) (op_move _ _ _ _ rfl rfl),
            st_run 30 80 true rfl rfl rfl (List.Mem.head _) (op_bin _ _ _ _ _ rfl rfl rfl),
            st_run 27 77 false rfl rfl rfl (List.Mem.head _) (op_pick _ _ true _ rfl rfl),
            st_plain rfl (op_pick _ _ false _ rfl rfl),
            st_plain rfl (op_move _ _ _ _ (congrArg (fun b => AV.v (Value.bool b)) hg7_35) rfl),
            st_skip 35 85 _ false rfl rfl rfl rfl (List.Mem.head _),
            st_skip 35 85 _ false rfl rfl rfl rfl (List.Mem.head _),
            st_skip 35 85 _ false rfl rfl rfl rfl (List.Mem.head _),
            st_skip 35 85 _ false rfl rfl rfl rfl (List.Mem.head _),
            st_plain rfl (op_pick _ _ true _ rfl rfl),
            trivial⟩ ?_
           exact hl27 _ (Option.some.inj h).symm
          ·obtain ⟨v17, hv17, h⟩ := bind_some h
           refine ht_seqR hn (El := (_ :: _ :: _ :: _ :: _ :: _ :: _ :: _ :: _ :: _ :: _ :: (50, .agg [.v (.bool p.Null), .v (.string p.Local), .v (.string p.Domain)]) :: (51, .v (.int .i64 v10)) :: (52, .v (.bool (v10 == 0))) :: (53, .v (.bool v9)) :: (54, .v (.bool ((!((v10 == 0) == v9))))) :: (55, .v (.bool false)) :: (56, .v (.bool v9)) :: (57, .v (.bool (!v9))) :: (58, .v (.bool true)) :: (59, .agg [.v (.bool p.Null), .v (.string p.Local), .v (.string p.Domain)]) :: (60, .v (.int .i64 v12)) :: (61, .v (.bool (v12 != 5))) :: (62, .v (.bool (v12 != 5))) :: (63, .v (.bool (v12 != 5))) :: (64, .v (.bool false)) :: (65, .v (.string s)) :: (66, .v (.bool v13)) :: (67, .v (.string s)) :: (68, .v (.bool v14)) :: (69, .v (.bool ((!(v13 == v14))))) :: (70, .v (.bool ((!(v13 == v14))))) :: (71, .v (.bool false)) :: (72, .v (.int .i64 v6.2)) :: (73, .v (.bool (v6.2 == 0))) :: (74, .v (.bool v7.2)) :: (75, .v (.bool ((!((v6.2 == 0) == v7.2))))) :: (76, .v (.bool ((!((v6.2 == 0) == v7.2))))) :: (77, .v (.bool false)) :: (78, .v (.bool v7.2)) :: (79, .v (.bool (!v7.2))) :: (80, .v (.bool true)) :: (81, .v (.int .i64 v6.2)) :: (82, .v (.bool (v6.2 != 5))) :: (83, .v (.bool (v6.2 != 5))) :: (84, .v (.bool (v6.2 != 5))) :: (85, .v (.bool false)) :: (86, .agg [.v (.bool v6.1.Null), .v (.string v6.1.Local), .v (.string v6.1.Domain)]) :: (87, .agg [.v (.bool v7.1.Null), .v (.string v7.1.Local), .v (.string v7.1.Domain)]) :: (88, .v (.bool v17)) :: (89, .v (.bool (!v17))) :: (90, .v (.bool (!v17))) :: [])) (init := [0, 1, 2, 3, 4, 5, 6, 7, 8, 9, 10]) (fin := [0, 1, 2, 3, 8, 9, 10, 51]) (sps := (⟨[2], [], [11], [(.slot 50)]⟩ :: ⟨[11, 1], [], [12], [(.slot 51)]⟩ :: ⟨[12], [], [13], [(.slot 52)]⟩ :: ⟨[10], [], [14], [(.slot 53)]⟩ :: ⟨[13, 14], [], [15], [(.slot 54)]⟩ :: ⟨[15], [], [16], [(.slot 55)]⟩ :: ⟨[16, 10], [], [17], [(.slot 56)]⟩ :: ⟨[16, 17], [], [18], [(.slot 57)]⟩ :: ⟨[16, 18], [], [19], [(.slot 58)]⟩ :: ⟨[19, 2], [], [20], [(.slot 59)]⟩ :: ⟨[19, 20, 1], [], [21], [(.slot 60)]⟩ :: ⟨[19, 21], [], [22], [(.slot 61)]⟩ :: ⟨[16, 19, 22], [], [23], [(.slot 62)]⟩ :: ⟨[16, 23], [], [24], [(.slot 63)]⟩ :: ⟨[24], [], [25], [(.slot 64)]⟩ :: ⟨[25, 0], [], [26], [(.slot 65)]⟩ :: ⟨[25, 26, 1], [], [27], [(.slot 66)]⟩ :: ⟨[25, 0], [], [28], [(.slot 67)]⟩ :: ⟨[25, 28], [], [29], [(.slot 68)]⟩ :: ⟨[25, 27, 29], [], [30], [(.slot 69)]⟩ :: ⟨[25, 30], [], [31], [(.slot 70)]⟩ :: ⟨[31], [], [32], [(.slot 71)]⟩ :: ⟨[32, 5], [], [33], [(.slot 72)]⟩ :: ⟨[32, 33], [], [34], [(.slot 73)]⟩ :: ⟨[32, 7], [], [35], [(.slot 74)]⟩ :: ⟨[32, 34, 35], [], [36], [(.slot 75)]⟩ :: ⟨[32, 36], [], [37], [(.slot 76)]⟩ :: ⟨[37], [], [38], [(.slot 77)]⟩ :: ⟨[38, 7], [], [39], [(.slot 78)]⟩ :: ⟨[38, 39], [], [40], [(.slot 79)]⟩ :: ⟨[38, 40], [], [41], [(.slot 80)]⟩ :: ⟨[41, 5], [], [42], [(.slot 81)]⟩ :: ⟨[41, 42], [], [43], [(.slot 82)]⟩ :: ⟨[38, 41, 43], [], [44], [(.slot 83)]⟩ :: ⟨[38, 44], [], [45], [(.slot 84)]⟩ :: ⟨[45], [], [46], [(.slot 85)]⟩ :: ⟨[46, 4], [], [47], [(.slot 86)]⟩ :: ⟨[46, 6], [], [48], [(.slot 87)]⟩ :: ⟨[46, 47, 48], [], [49], [(.slot 88)]⟩ :: ⟨[46, 49], [], [50], [(.slot 89)]⟩ :: ⟨[46, 50], [], [51], [(.slot 90)]⟩ :: [])) (es' := [(_, _), (_, _), (_, _), (_, _), (_, _), (_, _), (_, _), (90, .v (.bool (!v17)))]) (by kernel_rfl) rfl rfl
            ⟨st_plain rfl (op_loadA _ _ _ _ _ _ _ Tryd.underlying23 rfl sz23 rfl rfl (Nat.le_of_ble_eq_true rfl) rfl rfl),
            st_plain rfl (op_callG _ _ 140 13 _ _ rfl Tryd.call13 rfl rfl (fun _ h => h) (ok_path_Check mx p _ hv10) rfl rfl),
            st_plain rfl (op_bin _ _ _ _ _ rfl rfl rfl),
            st_plain rfl (op_move _ _ _ _ rfl rfl),
            st_plain rfl (op_bne _ _ _ _ Tryd.underlying4 rfl rfl),
            st_plain rfl (op_move _ _ _ _ (congrArg (fun b => AV.v (Value.bool b)) hg7_5) rfl),
            st_run 5 55 false rfl rfl rfl (List.Mem.head _) (op_move _ _ _ _ rfl rfl),
            st_run 5 55 false rfl rfl rfl (List.Mem.head _) (op_un _ _ _ _ rfl rfl),
            st_run 5 55 false rfl rfl rfl (List.Mem.head _) (op_move _ _ _ _ (congrArg (fun b => AV.v (Value.bool b)) hg7_8) rfl),
            st_run 8 58 true rfl rfl rfl (List.Mem.head _) (op_loadA _ _ _ _ _ _ _ Tryd.underlying23 rfl sz23 rfl rfl (Nat.le_of_ble_eq_true rfl) rfl rfl),
            st_run 8 58 true rfl rfl rfl (List.Mem.head _) (op_callG _ _ 140 13 _ _ rfl Tryd.call13 rfl rfl (fun _ h => h) (ok_path_Check mx p _ hv12) rfl rfl),
            st_run 8 58 true rfl rfl rfl (List.Mem.head _) (op_bin _ _ _ _ _ rfl rfl rfl),
            st_run 5 55 false rfl rfl rfl (List.Mem.head _) (op_pick _ _ true _ rfl rfl),
            st_plain rfl (op_pick _ _ false _ rfl rfl),
            st_plain rfl (op_move _ _ _ _ (congrArg (fun b => AV.v (Value.bool b)) hg7_14) rfl),
            st_run 14 64 false rfl rfl rfl (List.Mem.head _) (op_move _ _ _ _ rfl rfl),
            st_run 14 64 false rfl rfl rfl (List.Mem.head _) (op_callG _ _ 140 14 _ _ rfl Tryd.call14 rfl rfl (fun _ h => h) (ok_path_Domain mx s _ hv13) rfl rfl),
            st_run 14 64 false rfl rfl rfl (List.Mem.head _) (op_move _ _ _ _ rfl rfl),
            st_run 14 64 false rfl rfl rfl (List.Mem.head _) (op_call _ _ 15 _ _ rfl Tryd.call15 rfl (ok_wherryref11_Domain s _ hv14) rfl rfl),
            st_run 14 64 false rfl rfl rfl (List.Mem.head _) (op_bne _ _ _ _ Tryd.underlying4 rfl rfl),
            st_plain rfl (op_pick _ _ false _ rfl rfl),
            st_plain rfl (op_move _ _ _ _ (congrArg (fun b => AV.v (Value.bool b)) hg7_21) rfl),
            st_run 21 71 false rfl rfl rfl (List.Mem.head _) (op_move _ _ _ _ rfl rfl),
            st_run 21 71 false rfl rfl rfl (List.Mem.head _) (op_bin _ _ _ _ _ rfl rfl rfl),
            st_run 21 71 false rfl rfl rfl (List.Mem.head _) (op_move _ _ _ _ rfl rfl),
            st_run 21 71 false rfl rfl rfl (List.Mem.head _) (op_bne _ _ _ _ Tryd.underlying4 rfl rfl),
            st_plain rfl (op_pick _ _ false _ rfl rfl),
            st_plain rfl (op_move _ _ _ _ (congrArg (fun b => AV.v (Value.bool b)) hg7_27) rfl),
            st_run 27 77 false rfl rfl rfl (List.Mem.head _) (op_move _ _ _ _ rfl rfl),
            st_run 27 77 false rfl rfl rfl (List.Mem.head _) (op_un _ _ _ _ rfl rfl),
            st_run 27 77 false rfl rfl rfl (List.Mem.head _) (op_move _ _ _ _ (congrArg (fun b => AV.v (Value.bool b)) hg7_30) rfl),
            st_run 30 80 true rfl rfl rfl (List.Mem.head _) (op_move _ _ _ _ rfl rfl),
            st_run 30 80 true rfl rfl rfl (List.Mem.head _) (op_bin _ _ _ _ _ rfl rfl rfl),
            st_run 27 77 false rfl rfl rfl (List.Mem.head _) (op_pick _ _ true _ rfl rfl),
            st_plain rfl (op_pick _ _ false _ rfl rfl),
            st_plain rfl (op_move _ _ _ _ (congrArg (fun b => AV.v (Value.bool b)) hg7_35) rfl),
            st_run 35 85 false rfl rfl rfl (List.Mem.head _) (op_loadA _ _ _ _ _ _ _ Tryd.underlying23 rfl sz23 rfl rfl (Nat.le_of_ble_eq_true rfl) rfl rfl),
            st_run 35 85 false rfl rfl rfl (List.Mem.head _) (op_loadA _ _ _ _ _ _ _ Tryd.underlying23 rfl sz23 rfl rfl (Nat.le_of_ble_eq_true rfl) rfl rfl),
            st_run 35 85 false rfl rfl rfl (List.Mem.head _) (op_call _ _ 16 _ _ rfl Tryd.call16 rfl (ok_wherrykeep_Path (T_Path.mk v6.1.Null v6.1.Local v6.1.Domain) (T_Path.mk v7.1.Null v7.1.Local v7.1.Domain) _ hv17) rfl rfl),
            st_run 35 85 false rfl rfl rfl (List.Mem.head _) (op_un _ _ _ _ rfl rfl),
            st_plain rfl (op_pick _ _ false _ rfl rfl),
            trivial⟩ ?_
           exact hl27 _ (Option.some.inj h).symm
         ·obtain ⟨v18, hv18, h⟩ := bind_some h
          refine ht_seqR hn (El := (_ :: _ :: _ :: _ :: _ :: _ :: _ :: _ :: _ :: _ :: _ :: (50, .agg [.v (.bool p.Null), .v (.string p.Local), .v (.string p.Domain)]) :: (51, .v (.int .i64 v10)) :: (52, .v (.bool (v10 == 0))) :: (53, .v (.bool v9)) :: (54, .v (.bool ((!((v10 == 0) == v9))))) :: (55, .v (.bool false)) :: (56, .v (.bool v9)) :: (57, .v (.bool (!v9))) :: (58, .v (.bool true)) :: (59, .agg [.v (.bool p.Null), .v (.string p.Local), .v (.string p.Domain)]) :: (60, .v (.int .i64 v12)) :: (61, .v (.bool (v12 != 5))) :: (62, .v (.bool (v12 != 5))) :: (63, .v (.bool (v12 != 5))) :: (64, .v (.bool false)) :: (65, .v (.string s)) :: (66, .v (.bool v13)) :: (67, .v (.string s)) :: (68, .v (.bool v14)) :: (69, .v (.bool ((!(v13 == v14))))) :: (70, .v (.bool ((!(v13 == v14))))) :: (71, .v (.bool false)) :: (72, .v (.int .i64 v6.2)) :: (73, .v (.bool (v6.2 == 0))) :: (74, .v (.bool v7.2)) :: (75, .v (.bool ((!((v6.2 == 0) == v7.2))))) :: (76, .v (.bool ((!((v6.2 == 0) == v7.2))))) :: (77, .v (.bool false)) :: (78, .v (.bool v7.2)) :: (79, .v (.bool (!v7.2))) :: (80, .v (.bool false)) :: (81, .v undef) :: (82, .v undef) :: (83, .v (.bool false)) :: (84, .v (.bool false)) :: (85, .v (.bool false)) :: (86, .agg [.v (.bool v6.1.Null), .v (.string v6.1.Local), .v (.string v6.1.Domain)]) :: (87, .agg [.v (.bool v7.1.Null), .v (.string v7.1.Local), .v (.string v7.1.Domain)]) :: (88, .v (.bool v18)) :: (89, .v (.bool (!v18))) :: (90, .v (.bool (!v18))) :: [])) (init := [0, 1, 2, 3, 4, 5, 6, 7, 8, 9, 10]) (fin := [0, 1, 2, 3, 8, 9, 10, 51]) (sps := (⟨[2], [], [11], [(.slot 50)]⟩ :: ⟨[11, 1], [], [12], [(.slot 51)]⟩ :: ⟨[12], [], [13], [(.slot 52)]⟩ :: ⟨[10], [], [14], [(.slot 53)]⟩ :: ⟨[13, 14], [], [15], [(.slot 54)]⟩ :: ⟨[15], [], [16], [(.slot 55)]⟩ :: ⟨[16, 10], [], [17], [(.slot 56)]⟩ :: ⟨[16, 17], [], [18], [(.slot 57)]⟩ :: ⟨[16, 18], [], [19], [(.slot 58)]⟩ :: ⟨[19, 2], [], [20], [(.slot 59)]⟩ :: ⟨[19, 20, 1], [], [21], [(.slot 60)]⟩ :: ⟨[19, 21], [], [22], [(.slot 61)]⟩ :: ⟨[16, 19, 22], [], [23], [(.slot 62)]⟩ :: ⟨[16, 23], [], [24], [(.slot 63)]⟩ :: ⟨[24], [], [25], [(.slot 64)]⟩ :: ⟨[25, 0], [], [26], [(.slot 65)]⟩ :: ⟨[25, 26, 1], [], [27], [(.slot 66)]⟩ :: ⟨[25, 0], [], [28], [(.slot 67)]⟩ :: ⟨[25, 28], [], [29], [(.slot 68)]⟩ :: ⟨[25, 27, 29], [], [30], [(.slot 69)]⟩ :: ⟨[25, 30], [], [31], [(.slot 70)]⟩ :: ⟨[31], [], [32], [(.slot 71)]⟩ :: ⟨[32, 5], [], [33], [(.slot 72)]⟩ :: ⟨[32, 33], [], [34], [(.slot 73)]⟩ :: ⟨[32, 7], [], [35], [(.slot 74)]⟩ :: ⟨[32, 34, 35], [], [36], [(.slot 75)]⟩ :: ⟨[32, 36], [], [37], [(.slot 76)]⟩ :: ⟨[37], [], [38], [(.slot 77)]⟩ :: ⟨[38, 7], [], [39], [(.slot 78)]⟩ :: ⟨[38, 39], [], [40], [(.slot 79)]⟩ :: ⟨[38, 40], [], [41], [(.slot 80)]⟩ :: ⟨[41], [], [42], [(.slot 81)]⟩ :: ⟨[41], [], [43], [(.slot 82)]⟩ :: ⟨[38, 41], [], [44], [(.slot 83)]⟩ :: ⟨[38, 44], [], [45], [(.slot 84)]⟩ :: ⟨[45], [], [46], [(.slot 85)]⟩ :: ⟨[46, 4], [], [47], [(.slot 86)]⟩ :: ⟨[46, 6], [], [48], [(.slot 87)]⟩ :: ⟨[46, 47, 48], [], [49], [(.slot 88)]⟩ :: ⟨[46, 49], [], [50], [(.slot 89)]⟩ :: ⟨[46, 50], [], [51], [(.slot 90)]⟩ :: [])) (es' := [(_, _), (_, _), (_, _), (_, _), (_, _), (_, _), (_, _), (90, .v (.bool (!v18)))]) (by kernel_rfl) rfl rfl
           ⟨st_plain rfl (op_loadA _ _ _ _ _ _ _ Tryd.underlying23 rfl sz23 rfl rfl (Nat.le_of_ble_eq_true rfl) rfl rfl),
           st_plain rfl (op_callG _ _ 140 13 _ _ rfl Tryd.call13 rfl rfl (fun _ h => h) (ok_path_Check mx p _ hv10) rfl rfl),
           st_plain rfl (op_bin _ _ _ _ _ rfl rfl rfl),
           st_plain rfl (op_move _ _ _ _ rfl rfl),
           st_plain rfl (op_bne _ _ _ _ Tryd.underlying4 rfl rfl),
           st_plain rfl (op_move _ _ _ _ (congrArg (fun b => AV.v (Value.bool b)) hg7_5) rfl),
           st_run 5 55 false rfl rfl rfl (List.Mem.head _) (op_move _ _ _ _ rfl rfl),
           st_run 5 55 false rfl rfl rfl (List.Mem.head _) (op_un _ _ _ _ rfl rfl),
           st_run 5 55 false rfl rfl rfl (List.Mem.head _) (op_move _ _ _ _ (congrArg (fun b => AV.v (Value.bool b)) hg7_8) rfl),
           st_run 8 58 true rfl rfl rfl (List.Mem.head _) (op_loadA _ _ _ _ _ _ _ Tryd.underlying23 rfl sz23 rfl rfl (Nat.le_of_ble_eq_true rfl) rfl rfl),
           st_run 8 58 true rfl rfl rfl (List.Mem.head _) (op_callG _ _ 140 13 _ _ rfl Tryd.call13 rfl rfl (fun _ h => h) (ok_path_Check mx p _ hv12) rfl rfl),
           st_run 8 58 true rfl rfl rfl (List.Mem.head _) (op_bin _ _ _ _ _ rfl rfl rfl),
           st_run 5 55 false rfl rfl rfl (List.Mem.head _) (op_pick _ _ true _ rfl rfl),
           st_plain rfl (op_pick _ _ false _ rfl rfl),
           st_plain rfl (op_move _ _ _ _ (congrArg (fun b => AV.v (Value.bool b)) hg7_14) rfl),
           st_run 14 64 false rfl rfl rfl (List.Mem.head _) (op_move _ _ _ _ rfl rfl),
           st_run 14 64 false rfl rfl rfl (List.Mem.head _) (op_callG _ _ 140 14 _ _ rfl Tryd.call14 rfl rfl (fun _ h => h) (ok_path_Domain mx s _ hv13) rfl rfl),
           st_run 14 64 false rfl rfl rfl (List.Mem.head _) (op_move _ _ _ _ rfl rfl),
           st_run 14 64 false rfl rfl rfl (List.Mem.head _) (op_call _ _ 15 _ _ rfl Tryd.call15 rfl (ok_wherryref11_Domain s _ hv14) rfl rfl),
           st_run 14 64 false rfl rfl rfl (List.Mem.head _) (op_bne _ _ _ _ Tryd.underlying4 rfl rfl),
           st_plain rfl (op_pick _ _ false _ rfl rfl),
           st_plain rfl (op_move _ _ _ _ (congrArg (fun b => AV.v (Value.bool b)) hg7_21) rfl),
           st_run 21 71 false rfl rfl rfl (List.Mem.head _) (op_move _ _ _ _ rfl rfl),
           st_run 21 71 false rfl rfl rfl (List.Mem.head _) (op_bin _ _ _ _ _ rfl rfl rfl),
           st_run 21 71 false rfl rfl rfl (List.Mem.head _) (op_move _ _ _ _ rfl rfl),
           st_run 21 71 false rfl rfl rfl (List.Mem.head _) (op_bne _ _ _ _ Tryd.underlying4 rfl rfl),
           st_plain rfl (op_pick _ _ false _ rfl rfl),
           st_plain rfl (op_move _ _ _ _ (congrArg (fun b => AV.v (Value.bool b)) hg7_27) rfl),
           st_run 27 77 false rfl rfl rfl (List.Mem.head _) (op_move _ _ _ _ rfl rfl),
           st_run 27 77 false rfl rfl rfl (List.Mem.head _) (op_un _ _ _ _ rfl rfl),
           st_run 27 77 false rfl rfl rfl (List.Mem.head _) (op_move _ _ _ _ (congrArg (fun b => AV.v (Value.bool b)) hg7_30) rfl),
           st_skip 30 80 _ true rfl rfl rfl rfl (List.Mem.head _),
           st_skip 30 80 _ true rfl rfl rfl rfl (List.Mem.head _),
           st_run 27 77 false rfl rfl rfl (List.Mem.head _) (op_pick _ _ false _ rfl rfl),
           st_plain rfl (op_pick _ _ false _ rfl rfl),
           st_plain rfl (op_move _ _ _ _ rfl rfl),
           st_run 35 85 false rfl rfl rfl (List.Mem.head _) (op_loadA _ _ _ _ _ _ _ Tryd.underlying23 rfl sz23 rfl rfl (Nat.le_of_ble_eq_true rfl) rfl rfl),
           st_run 35 85 false rfl rfl rfl (List.Mem.head _) (op_loadA _ _ _ _ _ _ _ Tryd.underlying23 rfl sz23 rfl rfl (Nat.le_of_ble_eq_true rfl) rfl rfl),
           st_run 35 85 false rfl rfl rfl (List.Mem.head _) (op_call _ _ 16 _ _ rfl Tryd.call16 rfl (ok_wherrykeep_Path (T_Path.mk v6.1.Null v6.1.Local v6.1.Domain) (T_Path.mk v7.1.Null v7.1.Local v7.1.Domain) _ hv18) rfl rfl),
           st_run 35 85 false rfl rfl rfl (List.Mem.head _) (op_un _ _ _ _ rfl rfl),
           st_plain rfl (op_pick _ _ false _ rfl rfl),
           trivial⟩ ?_
          exact hl27 _ (Option.some.inj h).symm
     ·obtain ⟨v19, hv19, h⟩ := bind_some h
      obtain ⟨v20, hv20, h⟩ := bind_some h
      obtain ⟨v21, hv21, h⟩ := bind_some h
      refine cond_some h (fun hg7_21 h => ?_) (fun hg7_21 h => ?_)
      ·refine ht_seqR hn (El := (_ :: _ :: _ :: _ :: _ :: _ :: _ :: _ :: _ :: _ :: _ :: (50, .agg [.v (.bool p.Null), .v (.string p.Local), .v (.string p.Domain)]) :: (51, .v (.int .i64 v10)) :: (52, .v (.bool (v10 == 0))) :: (53, .v (.bool v9)) :: (54, .v (.bool ((!((v10 == 0) == v9))))) :: (55, .v (.bool false)) :: (56, .v (.bool v9)) :: (57, .v (.bool (!v9))) :: (58, .v (.bool false)) :: (59, .v undef) :: (60, .v undef) :: (61, .v undef) :: (62, .v (.bool false)) :: (63, .v (.bool false)) :: (64, .v (.bool false)) :: (65, .v (.string s)) :: (66, .v (.bool v19)) :: (67, .v (.string s)) :: (68, .v (.bool v20)) :: (69, .v (.bool ((!(v19 == v20))))) :: (70, .v (.bool ((!(v19 == v20))))) :: (71, .v (.bool true)) :: (72, .v undef) :: (73, .v undef) :: (74, .v undef) :: (75, .v undef) :: (76, .v (.bool true)) :: (77, .v (.bool true)) :: (78, .v undef) :: (79, .v undef) :: (80, .v undef) :: (81, .v undef) :: (82, .v undef) :: (83, .v undef) :: (84, .v (.bool true)) :: (85, .v (.bool true)) :: (86, .v undef) :: (87, .v undef) :: (88, .v undef) :: (89, .v undef) :: (90, .v (.bool true)) :: [])) (init := [0, 1, 2, 3, 4, 5, 6, 7, 8, 9, 10]) (fin := [0, 1, 2, 3, 8, 9, 10, 51]) (sps := (⟨[2], [], [11], [(.slot 50)]⟩ :: ⟨[11, 1], [], [12], [(.slot 51)]⟩ :: ⟨[12], [], [13], [(.slot 52)]⟩ :: ⟨[10], [], [14], [(.slot 53)]⟩ :: ⟨[13, 14], [], [15], [(.slot 54)]⟩ :: ⟨[15], [], [16], [(.slot 55)]⟩ :: ⟨[16, 10], [], [17], [(.slot 56)]⟩ :: ⟨[16, 17], [], [18], [(.slot 57)]⟩ :: ⟨[16, 18], [], [19], [(.slot 58)]⟩ :: ⟨[19], [], [20], [(.slot 59)]⟩ :: ⟨[19], [], [21], [(.slot 60)]⟩ :: ⟨[19], [], [22], [(.slot 61)]⟩ :: ⟨[16, 19], [], [23], [(.slot 62)]⟩ :: ⟨[16, 23], [], [24], [(.slot 63)]⟩ :: ⟨[24], [], [25], [(.slot 64)]⟩ :: ⟨[25, 0], [], [26], [(.slot 65)]⟩ :: ⟨[25, 26, 1], [], [27], [(.slot 66)]⟩ :: ⟨[25, 0], [], [28], [(.slot 67)]⟩ :: ⟨[25, 28], [], [29], [(.slot 68)]⟩ :: ⟨[25, 27, 29], [], [30], [(.slot 69)]⟩ :: ⟨[25, 30], [], [31], [(.slot 70)]⟩ :: ⟨[31], [], [32], [(.slot 71)]⟩ :: ⟨[32], [], [33], [(.slot 72)]⟩ :: ⟨[32], [], [34], [(.slot 73)]⟩ :: ⟨[32], [], [35], [(.slot 74)]⟩ :: ⟨[32], [], [36], [(.slot 75)]⟩ :: ⟨[32], [], [37], [(.slot 76)]⟩ :: ⟨[37], [], [38], [(.slot 77)]⟩ :: ⟨[38], [], [39], [(.slot 78)]⟩ :: ⟨[38], [], [40], [(.slot 79)]⟩ :: ⟨[38], [], [41], [(.slot 80)]⟩ :: ⟨[41], [], [42], [(.slot 81)]⟩ :: ⟨[41], [], [43], [(.slot 82)]⟩ :: ⟨[38], [], [44], [(.slot 83)]⟩ :: ⟨[38], [], [45], [(.slot 84)]⟩ :: ⟨[45], [], [46], [(.slot 85)]⟩ :: ⟨[46], [], [47], [(.slot 86)]⟩ :: ⟨[46], [], [48], [(.slot 87)]⟩ :: ⟨[46], [], [49], [(.slot 88)]⟩ :: ⟨[46], [], [50], [(.slot 89)]⟩ :: ⟨[46], [], [51], [(.slot 90)]⟩ :: [])) (es' := [(_, _), (_, _), (_, _), (_, _), (_, _), (_, _), (_, _), (90, .v (.bool true))]) (by kernel_rfl) rfl rfl
        ⟨st_plain rfl (op_loadA _ _ _ _ _ _ _ Tryd.underlying23 rfl sz23 rfl rfl (Nat.le_of_ble_eq_true rfl) rfl rfl),
        st_plain rfl (op_callG _ _ 140 13 _ _ rfl Tryd.call13 rfl rfl (fun _ h => h) (ok_path_Check mx p _ hv10) rfl rfl),
        st_plain rfl (op_bin _ _ _ _ _ rfl rfl rfl),
        st_plain rfl (op_move _ _ _ _ rfl rfl),
        st_plain rfl (op_bne _ _ _ _ Tryd.underlying4 rfl rfl),
        st_plain rfl (op_move _ _ _ _ (congrArg (fun b => AV.v (Value.bool b)) hg7_5) rfl),
        st_run 5 55 false rfl rfl rfl (List.Mem.head _) (op_move _ _ _ _ rfl rfl),
        st_run 5 55 false rfl rfl rfl (List.Mem.head _) (op_un _ _ _ _ rfl rfl),
        st_run 5 55 false rfl rfl rfl (List.Mem.head _) (op_move _ _ _ _ (congrArg (fun b => AV.v (Value.bool b)) hg7_8) rfl),
        st_skip 8 58 _ true rfl rfl rfl rfl (List.Mem.head _),
        st_skip 8 58 _ true rfl rfl rfl rfl (List.Mem.head _),
        st_skip 8 58 _ true rfl rfl rfl rfl (List.Mem.head _),
        st_run 5 55 false rfl rfl rfl (List.Mem.head _) (op_pick _ _ false _ rfl rfl),
        st_plain rfl (op_pick _ _ false _ rfl rfl),
        st_plain rfl (op_move _ _ _ _ rfl rfl),
        st_run 14 64 false rfl rfl rfl (List.Mem.head _) (op_move _ _ _ _ rfl rfl),
        st_run 14 64 false rfl rfl rfl (List.Mem.head _) (op_callG _ _ 140 14 _ _ rfl Tryd.call14 rfl rfl (fun _ h => h) (ok_path_Domain mx s _ hv19) rfl rfl),
        st_run 14 64 false rfl rfl rfl (List.Mem.head _) (op_move _ _ _ _ rfl rfl),
        st_run 14 64 false rfl rfl rfl (List.Mem.head _) (op_call _ _ 15 _ _ rfl Tryd.call15 rfl (ok_wherryref11_Domain s _ hv20) rfl rfl),
        st_run 14 64 false rfl rfl rfl (List.Mem.head _) (op_bne _ _ _ _ Tryd.underlying4 rfl rfl),
        st_plain rfl (op_pick _ _ false _ rfl rfl),
        st_plain rfl (op_move _ _ _ _ (congrArg (fun b => AV.v (Value.bool b)) hg7_21) rfl),
        st_skip 21 71 _ false rfl rfl rfl rfl (List.Mem.head _),
        st_skip 21 71 _ false rfl rfl rfl rfl (List.Mem.head _),
        st_skip 21 71 _ false rfl rfl rfl rfl (List.Mem.head _),
        st_skip 21 71 _ false rfl rfl rfl rfl (List.Mem.head _),
        st_plain rfl (op_pick _ _ true _ rfl rfl),
        st_plain rfl (op_move _ _ _ _ rfl rfl),
        st_skip 27 77 _ false rfl rfl rfl rfl (List.Mem.head _),
        st_skip 27 77 _ false rfl rfl rfl rfl (List.Mem.head _),
        st_skip 27 77 _ false rfl rfl rfl rfl (List.Mem.head _),
        st_skipU 30 80 _ true rfl rfl rfl rfl (List.Mem.head _),
        st_skipU 30 80 _ true rfl rfl rfl rfl (List.Mem.head _),
        st_skip 27 77 _ false rfl rfl rfl rfl (List.Mem.head _),
        st_plain rfl (op_pick _ _ true _ rfl rfl),
        st_plain rfl (op_move _ _ _ _ rfl rfl),
        st_skip 35 85 _ false rfl rfl rfl rfl (List.Mem.head _),
        st_skip 35 85 _ false rfl rfl rfl rfl (List.Mem.head _),
        st_skip 35 85 _ false rfl rfl rfl rfl (List.Mem.head _),
        st_skip 35 85 _ false rfl rfl rfl rfl (List.Mem.head _),
        st_plain rfl (op_pick _ _ true _ rfl rfl),
        trivial⟩ ?_
       exact hl27 _ (Option.some.inj h).symm
      ·obtain ⟨v22, hv22, h⟩ := bind_some h
       refine cond_some h (fun hg7_27 h => ?_) (fun hg7_27 h => ?_)
       ·refine ht_seqR hn (El := (_ :: _ :: _ :: _ :: _ :: _ :: _ :: _ :: _ :: _ :: _ :: (50, .agg [.v (.bool p.Null), .v (.string p.Local), .v (.string p.Domain)]) :: (51, .v (.int .i64 v10)) :: (52, .v (.bool (v10 == 0))) :: (53, .v (.bool v9)) :: (54, .v (.bool ((!((v10 == 0) == v9))))) :: (55, .v (.bool false)) :: (56, .v (.bool v9)) :: (57, .v (.bool (!v9))) :: (58, .v (.bool false)) :: (59, .v undef) :: (60, .v undef) :: (61, .v undef) :: (62, .v (.bool false)) :: (63, .v (.bool false)) :: (64, .v (.bool false)) :: (65, .v (.string s)) :: (66, .v (.bool v19)) :: (67, .v (.string s)) :: (68, .v (.bool v20)) :: (69, .v (.bool ((!(v19 == v20))))) :: (70, .v (.bool ((!(v19 == v20))))) :: (71, .v (.bool false)) :: (72, .v (.int .i64 v6.2)) :: (73, .v (.bool (v6.2 == 0))) :: (74, .v (.bool v7.2)) :: (75, .v (.bool ((!((v6.2 == 0) == v7.2))))) :: (76, .v (.bool ((!((v6.2 == 0) == v7.2))))) :: (77, .v (.bool true)) :: (78, .v undef) :: (79, .v undef) :: (80, .v undef) :: (81, .v undef) :: (82, .v undef) :: (83, .v undef) :: (84, .v (.bool true)) :: (85, .v (.bool true)) :: (86, .v undef) :: (87, .v undef) :: (88, .v undef) :: (89, .v undef) :: (90, .v (.bool true)) :: [])) (init := [0, 1, 2, 3, 4, 5, 6, 7, 8, 9, 10]) (fin := [0, 1, 2, 3, 8, 9, 10, 51]) (sps := (⟨[2], [], [11], [(.slot 50)]⟩ :: ⟨[11, 1], [], [12], [(.slot 51)]⟩ :: ⟨[12], [], [13], [(.slot 52)]⟩ :: ⟨[10], [], [14], [(.slot 53)]⟩ :: ⟨[13, 14], [], [15], [(.slot 54)]⟩ :: ⟨[15], [], [16], [(.slot 55)]⟩ :: ⟨[16, 10], [], [17], [(.slot 56)]⟩ :: ⟨[16, 17], [], [18], [(.slot 57)]⟩ :: ⟨[16, 18], [], [19], [(.slot 58)]⟩ :: ⟨[19], [], [20], [(.slot 59)]⟩ :: ⟨[19], [], [21], [(.slot 60)]⟩ :: ⟨[19], [], [22], [(.slot 61)]⟩ :: ⟨[16, 19], [], [23], [(.slot 62)]⟩ :: ⟨[16, 23], [], [24], [(.slot 63)]⟩ :: ⟨[24], [], [25], [(.slot 64)]⟩ :: ⟨[25, 0], [], [26], [(.slot 65)]⟩ :: ⟨[25, 26, 1], [], [27], [(.slot 66)]⟩ :: ⟨[25, 0], [], [28], [(.slot 67)]⟩ :: ⟨[25, 28], [], [29], [(.slot 68)]⟩ :: ⟨[25, 27, 29], [], [30], [(.slot 69)]⟩ :: ⟨[25, 30], [], [31], [(.slot 70)]⟩ :: ⟨[31], [], [32], [(.slot 71)]⟩ :: ⟨[32, 5], [], [33], [(.slot 72)]⟩ :: ⟨[32, 33], [], [34], [(.slot 73)]⟩ :: ⟨[32, 7], [], [35], [(.slot 74)]⟩ :: ⟨[32, 34, 35], [], [36], [(.slot 75)]⟩ :: ⟨[32, 36], [], [37], [(.slot 76)]⟩ :: ⟨[37], [], [38], [(.slot 77)]⟩ :: ⟨[38], [], [39], [(.slot 78)]⟩ :: ⟨[38], [], [40], [(.slot 79)]⟩ :: ⟨[38], [], [41], [(.slot 80)]⟩ :: ⟨[41], [], [42], [(.slot 81)]⟩ :: ⟨[41], [], [43], [(.slot 82)]⟩ :: ⟨[38], [], [44], [(.slot 83)]⟩ :: ⟨[38], [], [45], [(.slot 84)]⟩ :: ⟨[45], [], [46], [(.slot 85)]⟩ :: ⟨[46], [], [47], [(.slot 86)]⟩ :: ⟨[46], [], [48], [(.slot 87)]⟩ :: ⟨[46], [], [49], [(.slot 88)]⟩ :: ⟨[46], [], [50], [(.slot 89)]⟩ :: ⟨[46], [], [51], [(.slot 90)]⟩ :: [])) (es' := [(_, _), (_, _), (_, _), (_, _), (_, _), (_, _), (_, _), (90, .v (.bool true))]) (by kernel_rfl) rfl rfl
         ⟨st_plain rfl (op_loadA _ _ _ _ _ _ _ Tryd.underlying23 rfl sz23 rfl rfl (Nat.le_of_ble_eq_true rfl) rfl rfl),
         st_plain rfl (op_callG _ _ 140 13 _ _ rfl Tryd.call13 rfl rfl (fun _ h => h) (ok_path_Check mx p _ hv10) rfl rfl),
         st_plain rfl (op_bin _ _ _ _ _ rfl rfl rfl),
         st_plain rfl (op_move _ _ _ _ rfl rfl),
         st_plain rfl (op_bne _ _ _ _ Tryd.underlying4 rfl rfl),
         st_plain rfl (op_move _ _ _ _ (congrArg (fun b => AV.v (Value.bool b)) hg7_5) rfl),
         st_run 5 55 false rfl rfl rfl (List.Mem.head _) (op_move _ _ _ _ rfl rfl),
         st_run 5 55 false rfl rfl rfl (List.Mem.head _) (op_un _ _ _ _ rfl rfl),
         st_run 5 55 false rfl rfl rfl (List.Mem.head _) (op_move _ _ _ _ (congrArg (fun b => AV.v (Value.bool b)) hg7_8) rfl),
         st_skip 8 58 _ true rfl rfl rfl rfl (List.Mem.head _),
         st_skip 8 58 _ true rfl rfl rfl rfl (List.Mem.head _),
         st_skip 8 58 _ true rfl rfl rfl rfl (List.Mem.head _),
         st_run 5 55 false rfl rfl rfl (List.Mem.head _) (op_pick _ _ false _ rfl rfl),
         st_plain rfl (op_pick _ _ false _ rfl rfl),
         st_plain rfl (op_move _ _ _ _ rfl rfl),
         st_run 14 64 false rfl rfl rfl (List.Mem.head _) (op_move _ _ _ _ rfl rfl),
         st_run 14 64 false rfl rfl rfl (List.Mem.head _) (op_callG _ _ 140 14 _ _ rfl Tryd.call14 rfl rfl (fun _ h => h) (ok_path_Domain mx s _ hv19) rfl rfl),
         st_run 14 64 false rfl rfl rfl (List.Mem.head _) (op_move _ _ _ _ rfl rfl),
         st_run 14 64 false rfl rfl rfl (List.Mem.head _) (op_call _ _ 15 _ _ rfl Tryd.call15 rfl (ok_wherryref11_Domain s _ hv20) rfl rfl),
         st_run 14 64 false rfl rfl rfl (List.Mem.head _) (op_bne _ _ _ _ Tryd.underlying4 rfl rfl),
         st_plain rfl (op_pick _ _ false _ rfl rfl),
         st_plain rfl (op_move _ _ _ _ (congrArg (fun b => AV.v (Value.bool b)) hg7_21) rfl),
         st_run 21 71 false rfl rfl rfl (List.Mem.head _) (op_move _ _ _ _ rfl rfl),
         st_run 21 71 false rfl rfl rfl (List.Mem.head _) (op_bin _ _ _ _ _ rfl rfl rfl),
         st_run 21 71 false rfl rfl rfl (List.Mem.head _) (op_move _ _ _ _ rfl rfl),
         st_run 21 71 false rfl rfl rfl (List.Mem.head _) (op_bne _ _ _ _ Tryd.underlying4 rfl rfl),
         st_plain rfl (op_pick _ _ false _ rfl rfl),
         st_plain rfl (op_move _ _ _ _ (congrArg (fun b => AV.v (Value.bool b)) hg7_27) rfl),
         st_skip 27 77 _ false rfl rfl rfl rfl (List.Mem.head _),
         st_skip 27 77 _ false rfl rfl rfl rfl (List.Mem.head _),
         st_skip 27 77 _ false rfl rfl rfl rfl (List.Mem.head _),
         st_skipU 30 80 _ true rfl rfl rfl rfl (List.Mem.head _),
         st_skipU 30 80 _ true rfl rfl rfl rfl (List.Mem.head _),
         st_skip 27 77 _ false rfl rfl rfl rfl (List.Mem.head _),
         st_plain rfl (op_pick _ _ true _ rfl rfl),
         st_plain rfl (op_move _ _ _ _ rfl rfl),
         st_skip 35 85 _ false rfl rfl rfl rfl (List.Mem.head _),
         st_skip 35 85 _ false rfl rfl rfl rfl (List.Mem.head _),
         st_skip 35 85 _ false rfl rfl rfl rfl (List.Mem.head _),
         st_skip 35 85 _ false rfl rfl rfl rfl (List.Mem.head _),
         st_plain rfl (op_pick _ _ true _ rfl rfl),
         trivial⟩ ?_
        exact hl27 _ (Option.some.inj h).symm
       ·refine cond_some h (fun hg7_30 h => ?_) (fun hg7_30 h => ?_)
        ·refine cond_some h (fun hg7_35 h => ?_) (fun hg7_35 h => ?_)
         ·refine ht_seqR hn (El := (_ :: _ :: _ :: _ :: _ :: _ :: _ :: _ :: _ :: _ :: _ :: (50, .agg [.v (.bool p.Null), .v (.string p.Local), .v (.string p.Domain)]) :: (51, .v (.int .i64 v10)) :: (52, .v (.bool (v10 == 0))) :: (53, .v (.bool v9)) :: (54, .v (.bool ((!((v10 == 0) == v9))))) :: (55, .v (.bool false)) :: (56, .v (.bool v9)) :: (57, .v (.bool (!v9))) :: (58, .v (.bool false)) :: (59, .v undef) :: (60, .v undef) :: (61, .v undef) :: (62, .v (.bool false)) :: (63, .v (.bool false)) :: (64, .v (.bool false)) :: (65, .v (.string s)) :: (66, .v (.bool v19)) :: (67, .v (.string s)) :: (68, .v (.bool v20)) :: (69, .v (.bool ((!(v19 == v20))))) :: (70, .v (.bool ((!(v19 == v20))))) :: (71, .v (.bool false)) :: (72, .v (.int .i64 v6.2)) :: (73, .v (.bool (v6.2 == 0))) :: (74, .v (.bool v7.2)) :: (75, .v (.bool ((!((v6.2 == 0) == v7.2))))) :: (76, .v (.bool ((!((v6.2 == 0) == v7.2))))) :: (77, .v (.bool false)) :: (78, .v (.bool v7.2)) :: (79, .v (.bool (!v7.2))) :: (80, .v (.bool true)) :: (81, .v (.int .i64 v6.2)) :: (82, .v (.bool (v6.2 != 5))) :: (83, .v (.bool (v6.2 != 5))) :: (84, .v (.bool (v6.2 != 5))) :: (85, .v (.bool true)) :: (86, .v undef) :: (87, .v undef) :: (88, .v undef) :: (89, .v undef) :: (90, .v (.bool true)) :: [])) (init := [0, 1, 2, 3, 4, 5, 6, 7, 8, 9, 10]) (fin := [0, 1, 2, 3, 8, 9, 10, 51]) (sps := (⟨[2], [], [11], [(.slot 50)]⟩ :: ⟨[11, 1], [], [12], [(.slot 51)]⟩ :: ⟨[12], [], [13], [(.slot 52)]⟩ :: ⟨[10], [], [14], [(.slot 53)]⟩ :: ⟨[13, 14], [], [15], [(.slot 54)]⟩ :: ⟨[15], [], [16], [(.slot 55)]⟩ :: ⟨[16, 10], [], [17], [(.slot 56)]⟩ :: ⟨[16, 17], [], [18], [(.slot 57)]⟩ :: ⟨[16, 18], [], [19], [(.slot 58)]⟩ :: ⟨[19], [], [20], [(.slot 59)]⟩ :: ⟨[19], [], [21], [(.slot 60)]⟩ :: ⟨[19], [], [22], [(.slot 61)]⟩ :: ⟨[16, 19], [], [23], [(.slot 62)]⟩ :: ⟨[16, 23], [], [24], [(.slot 63)]⟩ :: ⟨[24], [], [25], [(.slot 64)]⟩ :: ⟨[25, 0], [], [26], [(.slot 65)]⟩ :: ⟨[25, 26, 1], [], [27], [(.slot 66)]⟩ :: ⟨[25, 0], [], [28], [(.slot 67)]⟩ :: ⟨[25, 28], [], [29], [(.slot 68)]⟩ :: ⟨[25, 27, 29], [], [30], [(.slot 69)]⟩ :: ⟨[25, 30], [], [31], [(.slot 70)]⟩ :: ⟨[31], [], [32], [(.slot 71)]⟩ :: ⟨[32, 5], [], [33], [(.slot 72)]⟩ :: ⟨[32, 33], [], [34], [(.slot 73)]⟩ :: ⟨[32, 7], [], [35], [(.slot 74)]⟩ :: ⟨[32, 34, 35], [], [36], [(.slot 75)]⟩ :: ⟨[32, 36], [], [37], [(.slot 76)]⟩ :: ⟨[37], [], [38], [(.slot 77)]⟩ :: ⟨[38, 7], [], [39], [(.slot 78)]⟩ :: ⟨[38, 39], [], [40], [(.slot 79)]⟩ :: ⟨[38, 40], [], [41], [(.slot 80)]⟩ :: ⟨[41, 5], [], [42], [(.slot 81)]⟩ :: ⟨[41, 42], [], [43], [(.slot 82)]⟩ :: ⟨[38, 41, 43], [], [44], [(.slot 83)]⟩ :: ⟨[38, 44], [], [45], [(.slot 84)]⟩ :: ⟨[45], [], [46], [(.slot 85)]⟩ :: ⟨[46], [], [47], [(.slot 86)]⟩ :: ⟨[46], [], [48], [(.slot 87)]⟩ :: ⟨[46], [], [49], [(.slot 88)]⟩ :: ⟨[46], [], [50], [(.slot 89)]⟩ :: ⟨[46], [], [51], [(.slot 90)]⟩ :: [])) (es' := [(_, _), (_, _), (_, _), (_, _), (_, _), (_, _), (_, _), (90, .v (.bool true))]) (by kernel_rfl) rfl rfl
           ⟨st_plain rfl (op_loadA _ _ _ _ _ _ _ Tryd.underlying23 rfl sz23 rfl rfl (Nat.le_of_ble_eq_true rfl) rfl rfl),
           st_plain rfl (op_callG _ _ 140 13 _ _ rfl Tryd.call13 rfl rfl (fun _ h => h) (ok_path_Check mx p _ hv10) rfl rfl),
           st_plain rfl (op_bin _ _ _ _ _ rfl rfl rfl),
           st_plain rfl (op_move _ _ _ _ rfl rfl),
           st_plain rfl (op_bne _ _ _ _ Tryd.underlying4 rfl rfl),
           st_plain rfl (op_move _ _ _ _ (congrArg (fun b => AV.v (Value.bool b)) hg7_5) rfl),
           st_run 5 55 false rfl rfl rfl (List.Mem.head _) (op_move _ _ _ _ rfl rfl),
           st_run 5 55 false rfl rfl rfl (List.Mem.head _) (op_un _ _ _ _ rfl rfl),
           st_run 5 55 false rfl rfl rfl (List.Mem.head _) (op_move _ _ _ _ (congrArg (fun b => AV.v (Value.bool b)) hg7_8) rfl),
           st_skip 8 58 _ true rfl rfl rfl rfl (List.Mem.head _),
           st_skip 8 58 _ true rfl rfl rfl rfl (List.Mem.head _),
           st_skip 8 58 _ true rfl rfl rfl rfl (List.Mem.head _),
           st_run 5 55 false rfl rfl rfl (List.Mem.head _) (op_pick _ _ false _ rfl rfl),
           st_plain rfl (op_pick _ _ false _ rfl rfl),
           st_plain rfl (op_move _ _ _ _ rfl rfl),
           st_run 14 64 false rfl rfl rfl (List.Mem.head _) (op_move _ _ _ _ rfl rfl),
           st_run 14 64 false rfl rfl rfl (List.Mem.head _) (op_callG _ _ 140 14 _ _ rfl Tryd.call14 rfl rfl (fun _ h => h) (ok_path_Domain mx s _ hv19) rfl rfl),
           st_run 14 64 false rfl rfl rfl (List.Mem.head _) (op_move _ _ _ _ rfl rfl),
           st_run 14 64 false rfl rfl rfl (List.Mem.head _) (op_call _ _ 15 _ _ rfl Tryd.call15 rfl (ok_wherryref11_Domain s _ hv20) rfl rfl),
           st_run 14 64 false rfl rfl rfl (List.Mem.head _) (op_bne _ _ _ _ Tryd.underlying4 rfl rfl),
           st_plain rfl (op_pick _ _ false _ rfl rfl),
           st_plain rfl (op_move _ _ _ _ (congrArg (fun b => AV.v (Value.bool b)) hg7_21) rfl),
           st_run 21 71 false rfl rfl rfl (List.Mem.head _) (op_move _ _ _ _ rfl rfl),
           st_run 21 71 false rfl rfl rfl (List.Mem.head _) (op_bin _ _ _ _ _ rfl rfl rfl),
           st_run 21 71 false rfl rfl rfl (List.Mem.head _) (op_move _ _ _ _ rfl rfl),
           st_run 21 71 false rfl rfl rfl (List.Mem.head _) (op_bne _ _ _ _ Tryd.underlying4 rfl rfl),
           st_plain rfl (op_pick _ _ false _ rfl rfl),
           st_plain rfl (op_move _ _ _ _ (congrArg (fun b => AV.v (Value.bool b)) hg7_27) rfl),
           st_run 27 77 false rfl rfl rfl (List.Mem.head _) (op_move _ _ _ _ rfl rfl),
           st_run 27 77 false rfl rfl rfl (List.Mem.head _) (op_un _ _ _ _ rfl rfl),
           st_run 27 77 false rfl rfl rfl (List.Mem.head _) (op_move _ _ _ _ (congrArg (fun b => AV.v (Value.bool b)) hg7_30) rfl),
           st_run 30 80 true rfl rfl rfl (List.Mem.head _) (op_move _ _ _ _ rfl rfl),
           st_run 30 80 true rfl rfl rfl (List.Mem.head _) (op_bin _ _ _ _ _ rfl rfl rfl),
           st_run 27 77 false rfl rfl rfl (List.Mem.head _) (op_pick _ _ true _ rfl rfl),
           st_plain rfl (op_pick _ _ false _ rfl rfl),
           st_plain rfl (op_move _ _ _ _ (congrArg (fun b => AV.v (Value.bool b)) hg7_35) rfl),
           st_skip 35 85 _ false rfl rfl rfl rfl (List.Mem.head _),
           st_skip 35 85 _ false rfl rfl rfl rfl (List.Mem.head _),
           st_skip 35 85 _ false rfl rfl rfl rfl (List.Mem.head _),
           st_skip 35 85 _ false rfl rfl rfl rfl (List.Mem.head _),
           st_plain rfl (op_pick _ _ true _ rfl rfl),
           trivial⟩ ?_
          exact hl27 _ (Option.some.inj h).symm
         ·obtain ⟨v23, hv23, h⟩ := bind_some h
          refine ht_seqR hn (El := (_ :: _ :: _ :: _ :: _ :: _ :: _ :: _ :: _ :: _ :: _ :: (50, .agg [.v (.bool p.Null), .v (.string p.Local), .v (.string p.Domain)]) :: (51, .v (.int .i64 v10)) :: (52, .v (.bool (v10 == 0))) :: (53, .v (.bool v9)) :: (54, .v (.bool ((!((v10 == 0) == v9))))) :: (55, .v (.bool false)) :: (56, .v (.bool v9)) :: (57, .v (.bool (!v9))) :: (58, .v (.bool false)) :: (59, .v undef) :: (60, .v undef) :: (61, .v undef) :: (62, .v (.bool false)) :: (63, .v (.bool false)) :: (64, .v (.bool false)) :: (65, .v (.string s)) :: (66, .v (.bool v19)) :: (67, .v (.string s)) :: (68, .v (.bool v20)) :: (69, .v (.bool ((!(v19 == v20))))) :: (70, .v (.bool ((!(v19 == v20))))) :: (71, .v (.bool false)) :: (72, .v (.int .i64 v6.2)) :: (73, .v (.bool (v6.2 == 0))) :: (74, .v (.bool v7.2)) :: (75, .v (.bool ((!((v6.2 == 0) == v7.2))))) :: (76, .v (.bool ((!((v6.2 == 0) == v7.2))))) :: (77, .v (.bool false)) :: (78, .v (.bool v7.2)) :: (79, .v (.bool (!v7.2))) :: (80, .v (.bool true)) :: (81, .v (.int .i64 v6.2)) :: (82, .v (.bool (v6.2 != 5))) :: (83, .v (.bool (v6.2 != 5))) :: (84, .v (.bool (v6.2 != 5))) :: (85, .v (.bool false)) :: (86, .agg [.v (.bool v6.1.Null), .v (.string v6.1.Local), .v (.string v6.1.Domain)]) :: (87, .agg [.v (.bool v7.1.Null), .v (.string v7.1.Local), .v (.string v7.1.Domain)]) :: (88, .v (.bool v23)) :: (89, .v (.bool (!v23))) :: (90, .v (.bool (!v23))) :: [])) (init := [0, 1, 2, 3, 4, 5, 6, 7, 8, 9, 10]) (fin := [0, 1, 2, 3, 8, 9, 10, 51]) (sps := (⟨[2], [], [11], [(.slot 50)]⟩ :: ⟨[11, 1], [], [12], [(.slot 51)]⟩ :: ⟨[12], [], [13], [(.slot 52)]⟩ :: ⟨[10], [], [14], [(.slot 53)]⟩ :: ⟨[13, 14], [], [15], [(.slot 54)]⟩ :: ⟨[15], [], [16], [(.slot 55)]⟩ :: ⟨[16, 10], [], [17], [(.slot 56)]⟩ :: ⟨[16, 17], [], [18], [(.slot 57)]⟩ :: ⟨[16, 18], [], [19], [(.slot 58)]⟩ :: ⟨[19], [], [20], [(.slot 59)]⟩ :: ⟨[19], [], [21], [(.slot 60)]⟩ :: ⟨[19], [], [22], [(.slot 61)]⟩ :: ⟨[16, 19], [], [23], [(.slot 62)]⟩ :: ⟨[16, 23], [], [24], [(.slot 63)]⟩ :: ⟨[24], [], [25], [(.slot 64)]⟩ :: ⟨[25, 0], [], [26], [(.slot 65)]⟩ :: ⟨[25, 26, 1], [], [27], [(.slot 66)]⟩ :: ⟨[25, 0], [], [28], [(.slot 67)]⟩ :: ⟨[25, 28], [], [29], [(.slot 68)]⟩ :: ⟨[25, 27, 29], [], [30], [(.slot 69)]⟩ :: ⟨[25, 30], [], [31], [(.slot 70)]⟩ :: ⟨[31], [], [32], [(.slot 71)]⟩ :: ⟨[32, 5], [], [33], [(.slot 72)]⟩ :: ⟨[32, 33], [], [34], [(.slot 73)]⟩ :: ⟨[32, 7], [], [35], [(.slot 74)]⟩ :: ⟨[32, 34, 35], [], [36], [(.slot 75)]⟩ :: ⟨[32, 36], [], [37], [(.slot 76)]⟩ :: ⟨[37], [], [38], [(.slot 77)]⟩ :: ⟨[38, 7], [], [39], [(.slot 78)]⟩ :: ⟨[38, 39], [], [40], [(.slot 79)]⟩ :: ⟨[38, 40], [], [41], [(.slot 80)]⟩ :: ⟨[41, 5], [], [42], [(.slot 81)]⟩ :: ⟨[41, 42], [], [43], [(.slot 82)]⟩ :: ⟨[38, 41, 43], [], [44], [(.slot 83)]⟩ :: ⟨[38, 44], [], [45], [(.slot 84)]⟩ :: ⟨[45], [], [46], [(.slot 85)]⟩ :: ⟨[46, 4], [], [47], [(.slot 86)]⟩ :: ⟨[46, 6], [], [48], [(.slot 87)]⟩ :: ⟨[46, 47, 48], [], [49], [(.slot 88)]⟩ :: ⟨[46, 49], [], [50], [(.slot 89)]⟩ :: ⟨[46, 50], [], [51], [(.slot 90)]⟩ :: [])) (es' := [(_, _), (_, _), (_, _), (_, _), (_, _), (_, _), (_, _), (90, .v (.bool (!v23)))]) (by kernel_rfl) rfl rfl
           ⟨st_plain rfl (op_loadA _ _ _ _ _ _ _ Tryd.underlying23 rfl sz23 rfl rfl (Nat.le_of_ble_eq_true rfl) rfl rfl),
           st_plain rfl (op_callG _ _ 140 13 _ _ rfl Tryd.call13 rfl rfl (fun _ h => h) (ok_path_Check mx p _ hv10) rfl rfl),
           st_plain rfl (op_bin _ _ _ _ _ rfl rfl rfl),
           st_plain rfl (op_move _ _ _ _ rfl rfl),
           st_plain rfl (op_bne _ _ _ _ Tryd.underlying4 rfl rfl),
           st_plain rfl (op_move _ _ _ _ (congrArg (fun b => AV.v (Value.bool b)) hg7_5) rfl),
           st_run 5 55 false rfl rfl rfl (List.Mem.head _) (op_move _ _ _ _ rfl rfl),
           st_run 5 55 false rfl rfl rfl (List.Mem.head _) (op_un _ _ _ _ rfl rfl),
           st_run 5 55 false rfl rfl rfl (List.Mem.head _) (op_move _ _ _ _ (congrArg (fun b => AV.v (Value.bool b)) hg7_8) rfl),
           st_skip 8 58 _ true rfl rfl rfl rfl (List.Mem.head _),
           st_skip 8 58 _ true rfl rfl rfl rfl (List.Mem.head _),
           st_skip 8 58 _ true rfl rfl rfl rfl (List.Mem.head _),
           st_run 5 55 false rfl rfl rfl (List.Mem.head _) (op_pick _ _ false _ rfl rfl),
           st_plain rfl (op_pick _ _ false _ rfl rfl),
           st_plain rfl (op_move _ _ _ _ rfl rfl),
           st_run 14 64 false rfl rfl rfl (List.Mem.head _) (op_move _ _ _ _ rfl rfl),
           st_run 14 64 false rfl rfl rfl (List.Mem.head _) (op_callG _ _ 140 14 _ _ rfl Tryd.call14 rfl rfl (fun _ h => h) (ok_path_Domain mx s _ hv19) rfl rfl),
           st_run 14 64 false rfl rfl rfl (List.Mem.head _) (op_move _ _ _ _ rfl rfl),
           st_run 14 64 false rfl rfl rfl (List.Mem.head _) (op_call _ _ 15 _ _ rfl Tryd.call15 rfl (ok_wherryref11_Domain s _ hv20) rfl rfl),
           st_run 14 64 false rfl rfl rfl (List.Mem.head _) (op_bne _ _ _ _ Tryd.underlying4 rfl rfl),
           st_plain rfl (op_pick _ _ false _ rfl rfl),
           st_plain rfl (op_move _ _ _ _ (congrArg (fun b => AV.v (Value.bool b)) hg7_21) rfl),
           st_run 21 71 false rfl rfl rfl (List.Mem.head _) (op_move _ _ _ _ rfl rfl),
           st_run 21 71 false rfl rfl rfl (List.Mem.head _) (op_bin _ _ _ _ _ rfl rfl rfl),
           st_run 21 71 false rfl rfl rfl (List.Mem.head _) (op_move _ _ _ _ rfl rfl),
           st_run 21 71 false rfl rfl rfl (List.Mem.head _) (op_bne _ _ _ _ Tryd.underlying4 rfl rfl),
           st_plain rfl (op_pick _ _ false _ rfl rfl),
           st_plain rfl (op_move _ _ _ _ (congrArg (fun b => AV.v (Value.bool b)) hg7_27) rfl),
           st_run 27 77 false rfl rfl rfl (List.Mem.head _) (op_move _ _ _ _ rfl rfl),
           st_run 27 77 false rfl rfl rfl (List.Mem.head _) (op_un _ _ _ _ rfl rfl),
           st_run 27 77 false rfl rfl rfl (List.Mem.head _) (op_move _ _ _ _ (congrArg (fun b => AV.v (Value.bool b)) hg7_30) rfl),
           st_run 30 80 true rfl rfl rfl (List.Mem.head _) (op_move _ _ _ _ rfl rfl),
           st_run 30 80 true rfl rfl rfl (List.Mem.head _) (op_bin _ _ _ _ _ rfl rfl rfl),
           st_run 27 77 false rfl rfl rfl (List.Mem.head _) (op_pick _ _ true _ rfl rfl),
           st_plain rfl (op_pick _ _ false _ rfl rfl),
           st_plain rfl (op_move _ _ _ _ (congrArg (fun b => AV.v (Value.bool b)) hg7_35) rfl),
           st_run 35 85 false rfl rfl rfl (List.Mem.head _) (op_loadA _ _ _ _ _ _ _ Tryd.underlying23 rfl sz23 rfl rfl (Nat.le_of_ble_eq_true rfl) rfl rfl),
           st_run 35 85 false rfl rfl rfl (List.Mem.head _) (op_loadA _ _ _ _ _ _ _ Tryd.underlying23 rfl sz23 rfl rfl (Nat.le_of_ble_eq_true rfl) rfl rfl),
           st_run 35 85 false rfl rfl rfl (List.Mem.head _) (op_call _ _ 16 _ _ rfl Tryd.call16 rfl (ok_wherrykeep_Path (T_Path.mk v6.1.Null v6.1.Local v6.1.Domain) (T_Path.mk v7.1.Null v7.1.Local v7.1.Domain) _ hv23) rfl rfl),
           st_run 35 85 false rfl rfl rfl (List.Mem.head _) (op_un _ _ _ _ rfl rfl),
           st_plain rfl (op_pick _ _ false _ rfl rfl),
           trivial⟩ ?_
          exact hl27 _ (Option.some.inj h).symm
        ·obtain ⟨v24, hv24, h⟩ := bind_some h
         refine ht_seqR hn (El := (_ :: _ :: _ :: _ :: _ :: _ :: _ :: _ :: _ :: _ :: _ :: (50, .agg [.v (.bool p.Null), .v (.string p.Local), .v (.string p.Domain)]) :: (51, .v (.int .i64 v10)) :: (52, .v (.bool (v10 == 0))) :: (53, .v (.bool v9)) :: (54, .v (.bool ((!((v10 == 0) == v9))))) :: (55, .v (.bool false)) :: (56, .v (.bool v9)) :: (57, .v (.bool (!v9))) :: (58, .v (.bool false)) :: (59, .v undef) :: (60, .v undef) :: (61, .v undef) :: (62, .v (.bool false)) :: (63, .v (.bool false)) :: (64, .v (.bool false)) :: (65, .v (.string s)) :: (66, .v (.bool v19)) :: (67, .v (.string s)) :: (68, .v (.bool v20)) :: (69, .v (.bool ((!(v19 == v20))))) :: (70, .v (.bool ((!(v19 == v20))))) :: (71, .v (.bool false)) :: (72, .v (.int .i64 v6.2)) :: (73, .v (.bool (v6.2 == 0))) :: (74, .v (.bool v7.2)) :: (75, .v (.bool ((!((v6.2 == 0) == v7.2))))) :: (76, .v (.bool ((!((v6.2 == 0) == v7.2))))) :: (77, .v (.bool false)) :: (78, .v (.bool v7.2)) :: (79, .v (.bool (!v7.2))) :: (80, .v (.bool false)) :: (81, .v undef) :: (82, .v undef) :: (83, .v (.bool false)) :: (84, .v (.bool false)) :: (85, .v (.bool false)) :: (86, .agg [.v (.bool v6.1.Null), .v (.string v6.1.Local), .v (.string v6.1.Domain)]) :: (87, .agg [.v (.bool v7.1.Null), .v (.string v7.1.Local), .v (.string v7.1.Domain)]) :: (88, .v (.bool v24)) :: (89, .v (.bool (!v24))) :: (90, .v (.bool (!v24))) :: [])) (init := [0, 1, 2, 3, 4, 5, 6, 7, 8, 9, 10]) (fin := [0, 1, 2, 3, 8, 9, 10, 51]) (sps := (⟨[2], [], [11], [(.slot 50)]⟩ :: ⟨[11, 1], [], [12], [(.slot 51)]⟩ :: ⟨[12], [], [13], [(.slot 52)]⟩ :: ⟨[10], [], [14], [(.slot 53)]⟩ :: ⟨[13, 14], [], [15], [(.slot 54)]⟩ :: ⟨[15], [], [16], [(.slot 55)]⟩ :: ⟨[16, 10], [], [17], [(.slot 56)]⟩ :: ⟨[16, 17], [], [18], [(.slot 57)]⟩ :: ⟨[16, 18], [], [19], [(.slot 58)]⟩ :: ⟨[19], [], [20], [(.slot 59)]⟩ :: ⟨[19], [], [21], [(.slot 60)]⟩ :: ⟨[19], [], [22], [(.slot 61)]⟩ :: ⟨[16, 19], [], [23], [(.slot 62)]⟩ :: ⟨[16, 23], [], [24], [(.slot 63)]⟩ :: ⟨[24], [], [25], [(.slot 64)]⟩ :: ⟨[25, 0], [], [26], [(.slot 65)]⟩ :: ⟨[25, 26, 1], [], [27], [(.slot 66)]⟩ :: ⟨[25, 0], [], [28], [(.slot 67)]⟩ :: ⟨[25, 28], [], [29], [(.slot 68)]⟩ :: ⟨[25, 27, 29], [], [30], [(.slot 69)]⟩ :: ⟨[25, 30], [], [31], [(.slot 70)]⟩ :: ⟨[31], [], [32], [(.slot 71)]⟩ :: ⟨[32, 5], [], [33], [(.slot 72)]⟩ :: ⟨[32, 33], [], [34], [(.slot 73)]⟩ :: ⟨[32, 7], [], [35], [(.slot 74)]⟩ :: ⟨[32, 34, 35], [], [36], [(.slot 75)]⟩ :: ⟨[32, 36], [], [37], [(.slot 76)]⟩ :: ⟨[37], [], [38], [(.slot 77)]⟩ :: ⟨[38, 7], [], [39], [(.slot 78)]⟩ :: ⟨[38, 39], [], [40], [(.slot 79)]⟩ :: ⟨[38, 40], [], [41], [(.slot 80)]⟩ :: ⟨[41], [], [42], [(.slot 81)]⟩ :: ⟨[41], [], [43], [(.slot 82)]⟩ :: ⟨[38, 41], [], [44], [(.slot 83)]⟩ :: ⟨[38, 44], [], [45], [(.slot 84)]⟩ :: ⟨[45], [], [46], [(.slot 85)]⟩ :: ⟨[46, 4], [], [47], [(.slot 86)]⟩ :: ⟨[46, 6], [], [48], [(.slot 87)]⟩ :: ⟨[46, 47, 48], [], [49], [(.slot 88)]⟩ :: ⟨[46, 49], [], [50], [(.slot 89)]⟩ :: ⟨[46, 50], [], [51], [(.slot 90)]⟩ :: [])) (es' := [(_, _), (_, _), (_, _), (_, _), (_, _), (_, _), (_, _), (90, .v (.bool (!v24)))]) (by kernel_rfl) rfl rfl
          ⟨st_plain rfl (op_loadA _ _ _ _ _ _ _ Tryd.underlying23 rfl sz23 rfl rfl (Nat.le_of_ble_eq_true rfl) rfl rfl),
          st_plain rfl (op_callG _ _ 140 13 _ _ rfl Tryd.call13 rfl rfl (fun _ h => h) (ok_path_Check mx p _ hv10) rfl rfl),
          st_plain rfl (op_bin _ _ _ _ _ rfl rfl rfl),
          st_plain rfl (op_move _ _ _ _ rfl rfl),
          st_plain rfl (op_bne _ _ _ _ Tryd.underlying4 rfl rfl),
          st_plain rfl (op_move _ _ _ _ (congrArg (fun b => AV.v (Value.bool b)) hg7_5) rfl),
          st_run 5 55 false rfl rfl rfl (List.Mem.head _) (op_move _ _ _ _ rfl rfl),
          st_run 5 55 false rfl rfl rfl (List.Mem.head _) (op_un _ _ _ _ rfl rfl),
          st_run 5 55 false rfl rfl rfl (List.Mem.head _) (op_move _ _ _ _ (congrArg (fun b => AV.v (Value.bool b)) hg7_8) rfl),
          st_skip 8 58 _ true rfl rfl rfl rfl (List.Mem.head _),
          st_skip 8 58 _ true rfl rfl rfl rfl (List.Mem.head _),
          st_skip 8 58 _ true rfl rfl rfl rfl (List.Mem.head _),
          st_run 5 55 false rfl rfl rfl (List.Mem.head _) (op_pick _ _ false _ rfl rfl),
          st_plain rfl (op_pick _ _ false _ rfl rfl),
          st_plain rfl (op_move _ _ _ _ rfl rfl),
          st_run 14 64 false rfl rfl rfl (List.Mem.head _) (op_move _ _ _ _ rfl rfl),
          st_run 14 64 false rfl rfl rfl (List.Mem.head _) (op_callG _ _ 140 14 _ _ rfl Tryd.call14 rfl rfl (fun _ h => h) (ok_path_Domain mx s _ hv19) rfl rfl),
          st_run 14 64 false rfl rfl rfl (List.Mem.head _) (op_move _ _ _ _ rfl rfl),
          st_run 14 64 false rfl rfl rfl (List.Mem.head _) (op_call _ _ 15 _ _ rfl Tryd.call15 rfl (ok_wherryref11_Domain s _ hv20) rfl rfl),
          st_run 14 64 false rfl rfl rfl (List.Mem.head _) (op_bne _ _ _ _ Tryd.underlying4 rfl rfl),
          st_plain rfl (op_pick _ _ false _ rfl rfl),
          st_plain rfl (op_move _ _ _ _ (congrArg (fun b => AV.v (Value.bool b)) hg7_21) rfl),
          st_run 21 71 false rfl rfl rfl (List.Mem.head _) (op_move _ _ _ _ rfl rfl),
          st_run 21 71 false rfl rfl rfl (List.Mem.head _) (op_bin _ _ _ _ _ rfl rfl rfl),
          st_run 21 71 false rfl rfl rfl (List.Mem.head _) (op_move _ _ _ _ rfl rfl),
          st_run 21 71 false rfl rfl rfl (List.Mem.head _) (op_bne _ _ _ _ Tryd.underlying4 rfl rfl),
          st_plain rfl (op_pick _ _ false _ rfl rfl),
          st_plain rfl (op_move _ _ _ _ (congrArg (fun b => AV.v (Value.bool b)) hg7_27) rfl),
          st_run 27 77 false rfl rfl rfl (List.Mem.head _) (op_move _ _ _ _ rfl rfl),
          st_run 27 77 false rfl rfl rfl (List.Mem.head _) (op_un _ _ _ _ rfl rfl),
          st_run 27 77 false rfl rfl rfl (List.Mem.head _) (op_move _ _ _ _ (congrArg (fun b => AV.v (Value.bool b)) hg7_30) rfl),
          st_skip 30 80 _ true rfl rfl rfl rfl (List.Mem.head _),
          st_skip 30 80 _ true rfl rfl rfl rfl (List.Mem.head _),
          st_run 27 77 false rfl rfl rfl (List.Mem.head _) (op_pick _ _ false _ rfl rfl),
          st_plain rfl (op_pick _ _ false _ rfl rfl),
          st_plain rfl (op_move _ _ _ _ rfl rfl),
          st_run 35 85 false rfl rfl rfl (List.Mem.head _) (op_loadA _ _ _ _ _ _ _ Tryd.underlying23 rfl sz23 rfl rfl (Nat.le_of_ble_eq_true rfl) rfl rfl),
          st_run 35 85 false rfl rfl rfl (List.Mem.head _) (op_loadA _ _ _ _ _ _ _ Tryd.underlying23 rfl sz23 rfl rfl (Nat.le_of_ble_eq_true rfl) rfl rfl),
          st_run 35 85 false rfl rfl rfl (List.Mem.head _) (op_call _ _ 16 _ _ rfl Tryd.call16 rfl (ok_wherrykeep_Path (T_Path.mk v6.1.Null v6.1.Local v6.1.Domain) (T_Path.mk v7.1.Null v7.1.Local v7.1.Domain) _ hv24) rfl rfl),
          st_run 35 85 false rfl rfl rfl (List.Mem.head _) (op_un _ _ _ _ rfl rfl),
          st_plain rfl (op_pick _ _ false _ rfl rfl),
          trivial⟩ ?_
         exact hl27 _ (Option.some.inj h).symm

end Go.Proofs.YtpmngahekkagpaaDoor
