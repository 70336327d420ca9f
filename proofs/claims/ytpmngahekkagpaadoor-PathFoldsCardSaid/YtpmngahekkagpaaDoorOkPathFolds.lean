/-
  The model's runs are what is told in Lean.
-/
import Derived.Test.YtpmngahekkagpaaDoorProg
import Derived.KernelRfl
import Derived.Test.YtpmngahekkagpaaDoorShelf
import Derived.Test.YtpmngahekkagpaaDoorOkc3
set_option linter.unusedVariables false
set_option linter.unusedSimpArgs false
namespace Go.Proofs.YtpmngahekkagpaaDoor
open Go.Abs Go.Abs.Sh

set_option maxHeartbeats 1000000 in
theorem ok_wherrylaw11_PathFolds (mx : Int) (p : T_Path) (flips : (List Bool)) (r : Bool) (h : Sh.wherrylaw11_PathFolds p flips = some r) : FnG Tryd.prog (GL mx) 5 [.agg [.v (.bool p.Null), .v (.string p.Local), .v (.string p.Domain)], .fl .shr 1 (List.map Value.bool flips)] (.v (.bool r)) := by
  unfold Sh.wherrylaw11_PathFolds at h
  refine fn_okG Tryd.func5 rfl (Nat.le_of_ble_eq_true rfl) rfl rfl fun g0 hn hio => ?_
  refine ht_seq ?_
  refine ht_seqR hn (El := [_, _, _, (2, .box 23 [.v (.bool p.Null), .v (.string p.Local), .v (.string p.Domain)]), (4, .v (.bool false))]) (init := [0, 1, 2]) (fin := [1, 2, 3]) (sps := [⟨[0], [], [3], [(.slot 2)]⟩, ⟨[], [], [4], [(.slot 4)]⟩]) (es' := [(_, _), (_, _), (2, .box 23 [.v (.bool p.Null), .v (.string p.Local), .v (.string p.Domain)])]) (by kernel_rfl) rfl rfl
   ⟨st_plain rfl (op_box _ _ _ _ rfl rfl rfl),
   st_plain rfl (op_assign _ _ _ _ rfl rfl),
   trivial⟩ ?_
  refine pt_then ?_
  refine ht_seq ?_
  refine ht_seq ?_
  refine ht_joinS h (fun (s3 : Bool) => [(1, .fl .shr 1 (List.map Value.bool flips)), (88, .glob (GL mx)), (2, .box 23 [.v (.bool p.Null), .v (.string p.Local), .v (.string p.Domain)]), (26, .v (.bool s3))]) ?_ ?_
  ·rintro s3 h
   refine pt_then ?_
   refine ht_cond _ rfl (fun hb7 => ?_) (fun hb7 => ?_)
   ·have h := cond_t hb7 h
    refine ht_seq ?_
    refine ht_seqR hn (El := [_, _, _, _, (4, .v (.bool true))]) (init := [0, 1, 2, 3]) (fin := [1, 4]) (sps := [⟨[], [], [4], [(.slot 4)]⟩]) (es' := [(_, _), (4, .v (.bool true))]) (by kernel_rfl) rfl rfl
     ⟨st_plain rfl (op_assign _ _ _ _ rfl rfl),
     trivial⟩ ?_
    refine pt_then ?_
    refine ht_ret ?_
    refine pt_pick [1] (by kernel_rfl) (es' := [(_, _)]) rfl ?_
    refine pt_r_then ?_
    obtain rfl := Option.some.inj h
    exact pt_ret hio rfl (.tmp _ _ .nil) rfl rfl
   ·have h := cond_f hb7 h
    refine ht_skip ?_
    refine pt_then ?_
    refine ht_seq ?_
    obtain ⟨v8, hv8, h⟩ := bind_some h
    obtain ⟨v9, hv9, h⟩ := bind_some h
    refine ht_anyR (by kernel_rfl) hn (El := [_, _, _, _, (27, .ptr 2 2), (28, .v (.string p.Domain)), (29, .fl .shr 1 (List.map Value.bool flips)), (30, .v (.string v8)), (31, .ptr 2 1), (32, .v (.string p.Local)), (33, .fl .shr 1 (List.map Value.bool flips)), (34, .v (.string v9)), (5, .v (.string v8)), (6, .v (.string v9))]) (init := [0, 1, 2, 3]) (fin := [1, 2, 12, 13]) (sps := [⟨[2], [], [4], [(.slot 27)]⟩, ⟨[4, 2], [], [5], [(.slot 28)]⟩, ⟨[0], [], [6], [(.slot 29)]⟩, ⟨[5, 6], [], [7], [(.slot 30)]⟩, ⟨[2], [], [8], [(.slot 31)]⟩, ⟨[8, 2], [], [9], [(.slot 32)]⟩, ⟨[0], [], [10], [(.slot 33)]⟩, ⟨[9, 10], [], [11], [(.slot 34)]⟩, ⟨[7], [], [12], [(.slot 5)]⟩, ⟨[11], [], [13], [(.slot 6)]⟩]) (es' := [(_, _), (_, _), (5, .v (.string v8)), (6, .v (.string v9))]) (by kernel_rfl) rfl rfl
     ⟨st_plain rfl (op_fieldAddr _ _ _ _ 2 0 _ Tryd.underlying23 rfl sz9 rfl rfl (by decide)),
     st_plain rfl (op_load _ _ _ _ _ _ Tryd.underlying9 rfl rfl rfl (Nat.le_of_ble_eq_true rfl) rfl rfl rfl),
     st_plain rfl (op_move _ _ _ _ rfl rfl),
     st_plain rfl (op_call _ _ 25 _ _ rfl Tryd.call25 rfl (ok_wherrylaw11_flip p.Domain flips _ hv8) rfl rfl),
     st_plain rfl (op_fieldAddr _ _ _ _ 2 0 _ Tryd.underlying23 rfl sz9 rfl rfl (by decide)),
     st_plain rfl (op_load _ _ _ _ _ _ Tryd.underlying9 rfl rfl rfl (Nat.le_of_ble_eq_true rfl) rfl rfl rfl),
     st_plain rfl (op_move _ _ _ _ rfl rfl),
     st_plain rfl (op_call _ _ 25 _ _ rfl Tryd.call25 rfl (ok_wherrylaw11_flip p.Local flips _ hv9) rfl rfl),
     st_plain rfl (op_assign _ _ _ _ rfl rfl),
     st_plain rfl (op_assign _ _ _ _ rfl rfl),
     trivial⟩ ?_
    refine pt_then ?_
    refine ht_seq ?_
    refine ht_anyR (by kernel_rfl) hn (El := (_ :: _ :: _ :: _ :: (35, .ptr 2 1) :: (36, .v (.string p.Local)) :: (37, .v (.string v8)) :: (38, .agg [.v (.bool false), .v (.string p.Local), .v (.string v8)]) :: (39, .v (.string v9)) :: (40, .ptr 2 2) :: (41, .v (.string p.Domain)) :: (42, .agg [.v (.bool false), .v (.string v9), .v (.string p.Domain)]) :: (7, .box 23 [.v (.bool false), .v (.string (⟨#[]⟩ : ByteArray)), .v (.string (⟨#[]⟩ : ByteArray))]) :: (8, .box 23 [.v (.bool false), .v (.string (⟨#[]⟩ : ByteArray)), .v (.string (⟨#[]⟩ : ByteArray))]) :: (7, .box 23 [.v (.bool false), .v (.string p.Local), .v (.string v8)]) :: (8, .box 23 [.v (.bool false), .v (.string v9), .v (.string p.Domain)]) :: [])) (init := [0, 1, 2, 3]) (fin := [0, 1, 2, 3, 14, 15]) (sps := [⟨[1], [], [4], [(.slot 35)]⟩, ⟨[4, 1], [], [5], [(.slot 36)]⟩, ⟨[2], [], [6], [(.slot 37)]⟩, ⟨[5, 6], [], [7], [(.slot 38)]⟩, ⟨[3], [], [8], [(.slot 39)]⟩, ⟨[1], [], [9], [(.slot 40)]⟩, ⟨[9, 1], [], [10], [(.slot 41)]⟩, ⟨[8, 10], [], [11], [(.slot 42)]⟩, ⟨[], [], [12], [(.slot 7)]⟩, ⟨[], [], [13], [(.slot 8)]⟩, ⟨[7], [12], [14], [.cell 7 0, .cell 7 1, .cell 7 2]⟩, ⟨[11], [13], [15], [.cell 8 0, .cell 8 1, .cell 8 2]⟩]) (es' := [(_, _), (_, _), (_, _), (_, _), (7, .box 23 [.v (.bool false), .v (.string p.Local), .v (.string v8)]), (8, .box 23 [.v (.bool false), .v (.string v9), .v (.string p.Domain)])]) (by kernel_rfl) rfl rfl
     ⟨st_plain rfl (op_fieldAddr _ _ _ _ 2 0 _ Tryd.underlying23 rfl sz9 rfl rfl (by decide)),
     st_plain rfl (op_load _ _ _ _ _ _ Tryd.underlying9 rfl rfl rfl (Nat.le_of_ble_eq_true rfl) rfl rfl rfl),
     st_plain rfl (op_move _ _ _ _ rfl rfl),
     st_plain rfl (op_build _ _ _ _ [1, 1, 1] _ _ Tryd.underlying23 zr23 (fs23 _ Tryd.underlying23) (.copy _ (.copy _ Src.nil)) rfl rfl rfl),
     st_plain rfl (op_move _ _ _ _ rfl rfl),
     st_plain rfl (op_fieldAddr _ _ _ _ 2 0 _ Tryd.underlying23 rfl sz9 rfl rfl (by decide)),
     st_plain rfl (op_load _ _ _ _ _ _ Tryd.underlying9 rfl rfl rfl (Nat.le_of_ble_eq_true rfl) rfl rfl rfl),
     st_plain rfl (op_build _ _ _ _ [1, 1, 1] _ _ Tryd.underlying23 zr23 (fs23 _ Tryd.underlying23) (.copy _ (.copy _ Src.nil)) rfl rfl rfl),
     st_plain rfl (op_alloc _ _ zr23),
     st_plain rfl (op_alloc _ _ zr23),
     st_plain rfl (op_store _ _ _ _ _ _ _ _ sz23 rfl rfl rfl rfl (Nat.le_of_ble_eq_true rfl) rfl rfl),
     st_plain rfl (op_store _ _ _ _ _ _ _ _ sz23 rfl rfl rfl rfl (Nat.le_of_ble_eq_true rfl) rfl rfl),
     trivial⟩ ?_
    refine pt_then ?_
    refine ht_seq ?_
    obtain ⟨v10, hv10, h⟩ := bind_some h
    refine ht_seqR hn (El := [_, _, _, _, _, _, (43, .v (.string v8)), (44, .v (.string v10)), (9, .v (.string v10))]) (init := [0, 1, 2, 3, 4, 5]) (fin := [0, 1, 2, 3, 4, 5, 8]) (sps := [⟨[2], [], [6], [(.slot 43)]⟩, ⟨[6], [], [7], [(.slot 44)]⟩, ⟨[7], [], [8], [(.slot 9)]⟩]) (es' := [(_, _), (_, _), (_, _), (_, _), (_, _), (_, _), (9, .v (.string v10))]) (by kernel_rfl) rfl rfl
     ⟨st_plain rfl (op_move _ _ _ _ rfl rfl),
     st_plain rfl (op_call _ _ 22 _ _ rfl Tryd.call22 rfl (ok_path_Fold v8 _ hv10) rfl rfl),
     st_plain rfl (op_assign _ _ _ _ rfl rfl),
     trivial⟩ ?_
    refine pt_then ?_
    refine ht_seq ?_
    refine ht_joinS h (fun (s20 : Bool) => [(88, .glob (GL mx)), (4, .v (.bool s20))]) ?_ ?_
    ·rintro s20 h
     refine pt_then ?_
     refine ht_ret ?_
     refine pt_pick [1] (by kernel_rfl) (es' := [(_, _)]) rfl ?_
     obtain rfl := Option.some.inj h
     exact pt_ret hio rfl (.tmp _ _ .nil) rfl rfl
    ·intro u21 h hl22 hr23
     obtain ⟨v11, hv11, h⟩ := bind_some h
     refine cond_some h (fun hg6_3 h => ?_) (fun hg6_3 h => ?_)
     ·obtain ⟨v12, hv12, h⟩ := bind_some h
      refine cond_some h (fun hg6_8 h => ?_) (fun hg6_8 h => ?_)
      ·obtain ⟨v13, hv13, h⟩ := bind_some h
       obtain ⟨v14, hv14, h⟩ := bind_some h
       refine cond_some h (fun hg6_18 h => ?_) (fun hg6_18 h => ?_)
       ·obtain ⟨v15, hv15, h⟩ := bind_some h
        refine cond_some h (fun hg6_23 h => ?_) (fun hg6_23 h => ?_)
        ·obtain ⟨v16, hv16, h⟩ := bind_some h
         refine cond_some h (fun hg6_29 h => ?_) (fun hg6_29 h => ?_)
         ·obtain ⟨v17, hv17, h⟩ := bind_some h
          refine cond_some h (fun hg6_36 h => ?_) (fun hg6_36 h => ?_)
          ·obtain ⟨v18, hv18, h⟩ := bind_some h
           refine cond_some h (fun hg6_40 h => ?_) (fun hg6_40 h => ?_)
           ·obtain ⟨v19, hv19, h⟩ := bind_some h
            refine ht_anyR (by kernel_rfl) hn (El := (_ :: _ :: _ :: _ :: _ :: _ :: _ :: (45, .agg [.v (.bool p.Null), .v (.string p.Local), .v (.string p.Domain)]) :: (46, .agg [.v (.bool false), .v (.string p.Local), .v (.string v8)]) :: (47, .v (.bool v11)) :: (48, .v (.bool true)) :: (49, .agg [.v (.bool false), .v (.string p.Local), .v (.string v8)]) :: (50, .agg [.v (.bool p.Null), .v (.string p.Local), .v (.string p.Domain)]) :: (51, .v (.bool v12)) :: (52, .v (.bool v12)) :: (53, .v (.bool true)) :: (54, .agg [.v (.bool p.Null), .v (.string p.Local), .v (.string p.Domain)]) :: (55, .agg [.v (.bool false), .v (.string v9), .v (.string p.Domain)]) :: (56, .v (.bool v13)) :: (57, .v (.string v9)) :: (58, .ptr 2 1) :: (59, .v (.string p.Local)) :: (60, .v (.bool (v9.toList == p.Local.toList))) :: (61, .v (.bool ((v13 == (v9.toList == p.Local.toList))))) :: (62, .v (.bool ((v13 == (v9.toList == p.Local.toList))))) :: (63, .v (.bool true)) :: (64, .agg [.v (.bool p.Null), .v (.string p.Local), .v (.string p.Domain)]) :: (65, .v (.string v8)) :: (66, .v (.bool v15)) :: (67, .v (.bool v15)) :: (68, .v (.bool true)) :: (69, .v (.string v10)) :: (70, .v (.string v16)) :: (71, .v (.string v10)) :: (72, .v (.bool (v16.toList == v10.toList))) :: (73, .v (.bool (v16.toList == v10.toList))) :: (74, .v (.bool true)) :: (75, .v (.string v10)) :: (76, .ptr 2 2) :: (77, .v (.string p.Domain)) :: (78, .v (.string v17)) :: (79, .v (.bool (v10.toList == v17.toList))) :: (80, .v (.bool (v10.toList == v17.toList))) :: (81, .v (.bool true)) :: (82, .v (.string v8)) :: (83, .v (.bool v18)) :: (84, .v (.bool v18)) :: (85, .v (.bool true)) :: (86, .v (.bool v19)) :: (87, .v (.bool v19)) :: (4, .v (.bool v19)) :: [])) (init := [0, 1, 2, 3, 4, 5, 6]) (fin := [0, 50]) (sps := (⟨[1], [], [7], [(.slot 45)]⟩ :: ⟨[4], [], [8], [(.slot 46)]⟩ :: ⟨[7, 8, 0], [], [9], [(.slot 47)]⟩ :: ⟨[9], [], [10], [(.slot 48)]⟩ :: ⟨[10, 4], [], [11], [(.slot 49)]⟩ :: ⟨[10, 1], [], [12], [(.slot 50)]⟩ :: ⟨[10, 11, 12, 0], [], [13], [(.slot 51)]⟩ :: ⟨[10, 13], [], [14], [(.slot 52)]⟩ :: ⟨[14], [], [15], [(.slot 53)]⟩ :: ⟨[15, 1], [], [16], [(.slot 54)]⟩ :: ⟨[15, 5], [], [17], [(.slot 55)]⟩ :: ⟨[15, 16, 17, 0], [], [18], [(.slot 56)]⟩ :: ⟨[15, 3], [], [19], [(.slot 57)]⟩ :: ⟨[15, 1], [], [20], [(.slot 58)]⟩ :: ⟨[15, 20, 1], [], [21], [(.slot 59)]⟩ :: ⟨[15, 19, 21], [], [22], [(.slot 60)]⟩ :: ⟨[15, 18, 22], [], [23], [(.slot 61)]⟩ :: ⟨[15, 23], [], [24], [(.slot 62)]⟩ :: ⟨[24], [], [25], [(.slot 63)]⟩ :: ⟨[25, 1], [], [26], [(.slot 64)]⟩ :: ⟨[25, 2], [], [27], [(.slot 65)]⟩ :: ⟨[25, 26, 27, 0], [], [28], [(.slot 66)]⟩ :: ⟨[25, 28], [], [29], [(.slot 67)]⟩ :: ⟨[29], [], [30], [(.slot 68)]⟩ :: ⟨[30, 6], [], [31], [(.slot 69)]⟩ :: ⟨[30, 31], [], [32], [(.slot 70)]⟩ :: ⟨[30, 6], [], [33], [(.slot 71)]⟩ :: ⟨[30, 32, 33], [], [34], [(.slot 72)]⟩ :: ⟨[30, 34], [], [35], [(.slot 73)]⟩ :: ⟨[35], [], [36], [(.slot 74)]⟩ :: ⟨[36, 6], [], [37], [(.slot 75)]⟩ :: ⟨[36, 1], [], [38], [(.slot 76)]⟩ :: ⟨[36, 38, 1], [], [39], [(.slot 77)]⟩ :: ⟨[36, 39], [], [40], [(.slot 78)]⟩ :: ⟨[36, 37, 40], [], [41], [(.slot 79)]⟩ :: ⟨[36, 41], [], [42], [(.slot 80)]⟩ :: ⟨[42], [], [43], [(.slot 81)]⟩ :: ⟨[43, 2], [], [44], [(.slot 82)]⟩ :: ⟨[43, 44, 0], [], [45], [(.slot 83)]⟩ :: ⟨[43, 45], [], [46], [(.slot 84)]⟩ :: ⟨[46], [], [47], [(.slot 85)]⟩ :: ⟨[47, 0], [], [48], [(.slot 86)]⟩ :: ⟨[47, 48], [], [49], [(.slot 87)]⟩ :: ⟨[49], [], [50], [(.slot 4)]⟩ :: [])) (es' := [(_, _), (4, .v (.bool v19))]) (by kernel_rfl) rfl rfl
             ⟨st_plain rfl (op_loadA _ _ _ _ _ _ _ Tryd.underlying23 rfl sz23 rfl rfl (Nat.le_of_ble_eq_true rfl) rfl rfl),
             st_plain rfl (op_loadA _ _ _ _ _ _ _ Tryd.underlying23 rfl sz23 rfl rfl (Nat.le_of_ble_eq_true rfl) rfl rfl),
             st_plain rfl (op_callG _ _ 88 18 _ _ rfl Tryd.call18 rfl rfl (fun _ h => h) (ok_path_Same mx p (T_Path.mk false p.Local v8) _ hv11) rfl rfl),
             st_plain rfl (op_move _ _ _ _ (congrArg (fun b => AV.v (Value.bool b)) hg6_3) rfl),
             st_run 3 48 true rfl rfl rfl (List.Mem.head _) (op_loadA _ _ _ _ _ _ _ Tryd.underlying23 rfl sz23 rfl rfl (Nat.le_of_ble_eq_true rfl) rfl rfl),
             st_run 3 48 true rfl rfl rfl (List.Mem.head _) (op_loadA _ _ _ _ _ _ _ Tryd.underlying23 rfl sz23 rfl rfl (Nat.le_of_ble_eq_true rfl) rfl rfl),
             st_run 3 48 true rfl rfl rfl (List.Mem.head _) (op_callG _ _ 88 18 _ _ rfl Tryd.call18 rfl rfl (fun _ h => h) (ok_path_Same mx (T_Path.mk false p.Local v8) p _ hv12) rfl rfl),
             st_plain rfl (op_pick _ _ true _ rfl rfl),
             st_plain rfl (op_move _ _ _ _ (congrArg (fun b => AV.v (Value.bool b)) hg6_8) rfl),
             st_run 8 53 true rfl rfl rfl (List.Mem.head _) (op_loadA _ _ _ _ _ _ _ Tryd.underlying23 rfl sz23 rfl rfl (Nat.le_of_ble_eq_true rfl) rfl rfl),
             st_run 8 53 true rfl rfl rfl (List.Mem.head _) (op_loadA _ _ _ _ _ _ _ Tryd.underlying23 rfl sz23 rfl rfl (Nat.le_of_ble_eq_true rfl) rfl rfl),
             st_run 8 53 true rfl rfl rfl (List.Mem.head _) (op_callG _ _ 88 18 _ _ rfl Tryd.call18 rfl rfl (fun _ h => h) (ok_path_Same mx p (T_Path.mk false v9 p.Domain) _ hv13) rfl rfl),
             st_run 8 53 true rfl rfl rfl (List.Mem.head _) (op_move _ _ _ _ rfl rfl),
             st_run 8 53 true rfl rfl rfl (List.Mem.head _) (op_fieldAddr _ _ _ _ 2 0 _ Tryd.underlying23 rfl sz9 rfl rfl (by decide)),
             st_run 8 53 true rfl rfl rfl (List.Mem.head _) (op_load _ _ _ _ _ _ Tryd.underlying9 rfl rfl rfl (Nat.le_of_ble_eq_true rfl) rfl rfl rfl),
             st_run 8 53 true rfl rfl rfl (List.Mem.head _) (op_bin _ _ _ _ _ rfl rfl rfl),
             st_run 8 53 true rfl rfl rfl (List.Mem.head _) (op_beq _ _ _ _ Tryd.underlying4 rfl rfl),
             st_plain rfl (op_pick _ _ true _ rfl rfl),
             st_plain rfl (op_move _ _ _ _ (congrArg (fun b => AV.v (Value.bool b)) hg6_18) rfl),
             st_run 18 63 true rfl rfl rfl (List.Mem.head _) (op_loadA _ _ _ _ _ _ _ Tryd.underlying23 rfl sz23 rfl rfl (Nat.le_of_ble_eq_true rfl) rfl rfl),
             st_run 18 63 true rfl rfl rfl (List.Mem.head _) (op_move _ _ _ _ rfl rfl),
             st_run 18 63 true rfl rfl rfl (List.Mem.head _) (op_callG _ _ 88 20 _ _ rfl Tryd.call20 rfl rfl (fun _ h => h) (ok_path_At mx p v8 _ hv15) rfl rfl),
             st_plain rfl (op_pick _ _ true _ rfl rfl),
             st_plain rfl (op_move _ _ _ _ (congrArg (fun b => AV.v (Value.bool b)) hg6_23) rfl),
             st_run 23 68 true rfl rfl rfl (List.Mem.head _) (op_move _ _ _ _ rfl rfl),
             st_run 23 68 true rfl rfl rfl (List.Mem.head _) (op_call _ _ 22 _ _ rfl Tryd.call22 rfl (ok_path_Fold v10 _ hv16) rfl rfl),
             st_run 23 68 true rfl rfl rfl (List.Mem.head _) (op_move _ _ _ _ rfl rfl),
             st_run 23 68 true rfl rfl rfl (List.Mem.head _) (op_bin _ _ _ _ _ rfl rfl rfl),
             st_plain rfl (op_pick _ _ true _ rfl rfl),
             st_plain rfl (op_move _ _ _ _ (congrArg (fun b => AV.v (Value.bool b)) hg6_29) rfl),
             st_run 29 74 true rfl rfl rfl (List.Mem.head _) (op_move _ _ _ _ rfl rfl),
             st_run 29 74 true rfl rfl rfl (List.Mem.head _) (op_fieldAddr _ _ _ _ 2 0 _ Tryd.underlying23 rfl sz9 rfl rfl (by decide)),
             st_run 29 74 true rfl rfl rfl (List.Mem.head _) (op_load _ _ _ _ _ _ Tryd.underlying9 rfl rfl rfl (Nat.le_of_ble_eq_true rfl) rfl rfl rfl),
             st_run 29 74 true rfl rfl rfl (List.Mem.head _) (op_call _ _ 22 _ _ rfl Tryd.call22 rfl (ok_path_Fold p.Domain _ hv17) rfl rfl),
             st_run 29 74 true rfl rfl rfl (List.Mem.head _) (op_bin _ _ _ _ _ rfl rfl rfl),
             st_plain rfl (op_pick _ _ true _ rfl rfl),
             st_plain rfl (op_move _ _ _ _ (congrArg (fun b => AV.v (Value.bool b)) hg6_36) rfl),
             st_run 36 81 true rfl rfl rfl (List.Mem.head _) (op_move _ _ _ _ rfl rfl),
             st_run 36 81 true rfl rfl rfl (List.Mem.head _) (op_callG _ _ 88 14 _ _ rfl Tryd.call14 rfl rfl (fun _ h => h) (ok_path_Domain mx v8 _ hv18) rfl rfl),
             st_plain rfl (op_pick _ _ true _ rfl rfl),
             st_plain rfl (op_move _ _ _ _ (congrArg (fun b => AV.v (Value.bool b)) hg6_40) rfl),
             st_run 40 85 true rfl rfl rfl (List.Mem.head _) (op_callG _ _ 88 24 _ _ rfl Tryd.call24 rfl rfl (fun _ h => h) (ok_wherrylaw11_wakes mx  _ hv19) rfl rfl),
             st_plain rfl (op_pick _ _ true _ rfl rfl),
             st_plain rfl (op_assign _ _ _ _ rfl rfl),
             trivial⟩ ?_
            exact hl22 _ (Option.some.inj h).symm
           ·refine ht_anyR (by kernel_rfl) hn (El := (_ :: _ :: _ :: _ :: _ :: _ :: _ :: (45, .agg [.v (.bool p.Null), .v (.string p.Local), .v (.string p.Domain)]) :: (46, .agg [.v (.bool false), .v (.string p.Local), .v (.string v8)]) :: (47, .v (.bool v11)) :: (48, .v (.bool true)) :: (49, .agg [.v (.bool false), .v (.string p.Local), .v (.string v8)]) :: (50, .agg [.v (.bool p.Null), .v (.string p.Local), .v (.string p.Domain)]) :: (51, .v (.bool v12)) :: (52, .v (.bool v12)) :: (53, .v (.bool true)) :: (54, .agg [.v (.bool p.Null), .v (.string p.Local), .v (.string p.Domain)]) :: (55, .agg [.v (.bool false), .v (.string v9), .v (.string p.Domain)]) :: (56, .v (.bool v13)) :: (57, .v (.string v9)) :: (58, .ptr 2 1) :: (59, .v (.string p.Local)) :: (60, .v (.bool (v9.toList == p.Local.toList))) :: (61, .v (.bool ((v13 == (v9.toList == p.Local.toList))))) :: (62, .v (.bool ((v13 == (v9.toList == p.Local.toList))))) :: (63, .v (.bool true)) :: (64, .agg [.v (.bool p.Null), .v (.string p.Local), .v (.string p.Domain)]) :: (65, .v (.string v8)) :: (66, .v (.bool v15)) :: (67, .v (.bool v15)) :: (68, .v (.bool true)) :: (69, .v (.string v10)) :: (70, .v (.string v16)) :: (71, .v (.string v10)) :: (72, .v (.bool (v16.toList == v10.toList))) :: (73, .v (.bool (v16.toList == v10.toList))) :: (74, .v (.bool true)) :: (75, .v (.string v10)) :: (76, .ptr 2 2) :: (77, .v (.string p.Domain)) :: (78, .v (.string v17)) :: (79, .v (.bool (v10.toList == v17.toList))) :: (80, .v (.bool (v10.toList == v17.toList))) :: (81, .v (.bool true)) :: (82, .v (.string v8)) :: (83, .v (.bool v18)) :: (84, .v (.bool v18)) :: (85, .v (.bool false)) :: (86, .v undef) :: (87, .v (.bool false)) :: (4, .v (.bool false)) :: [])) (init := [0, 1, 2, 3, 4, 5, 6]) (fin := [0, 50]) (sps := (⟨[1], [], [7], [(.slot 45)]⟩ :: ⟨[4], [], [8], [(.slot 46)]⟩ :: ⟨[7, 8, 0], [], [9], [(.slot 47)]⟩ :: ⟨[9], [], [10], [(.slot 48)]⟩ :: ⟨[10, 4], [], [11], [(.slot 49)]⟩ :: ⟨[10, 1], [], [12], [(.slot 50)]⟩ :: ⟨[10, 11, 12, 0], [], [13], [(.slot 51)]⟩ :: ⟨[10, 13], [], [14], [(.slot 52)]⟩ :: ⟨[14], [], [15], [(.slot 53)]⟩ :: ⟨[15, 1], [], [16], [(.slot 54)]⟩ :: ⟨[15, 5], [], [17], [(.slot 55)]⟩ :: ⟨[15, 16, 17, 0], [], [18], [(.slot 56)]⟩ :: ⟨[15, 3], [], [19], [(.slot 57)]⟩ :: ⟨[15, 1], [], [20], [(.slot 58)]⟩ :: ⟨[15, 20, 1], [], [21], [(.slot 59)]⟩ :: ⟨[15, 19, 21], [], [22], [(.slot 60)]⟩ :: ⟨[15, 18, 22], [], [23], [(.slot 61)]⟩ :: ⟨[15, 23], [], [24], [(.slot 62)]⟩ :: ⟨[24], [], [25], [(.slot 63)]⟩ :: ⟨[25, 1], [], [26], [(.slot 64)]⟩ :: ⟨[25, 2], [], [27], [(.slot 65)]⟩ :: ⟨[25, 26, 27, 0], [], [28], [(.slot 66)]⟩ :: ⟨[25, 28], [], [29], [(.slot 67)]⟩ :: ⟨[29], [], [30], [(.slot 68)]⟩ :: ⟨[30, 6], [], [31], [(.slot 69)]⟩ :: ⟨[30, 31], [], [32], [(.slot 70)]⟩ :: ⟨[30, 6], [], [33], [(.slot 71)]⟩ :: ⟨[30, 32, 33], [], [34], [(.slot 72)]⟩ :: ⟨[30, 34], [], [35], [(.slot 73)]⟩ :: ⟨[35], [], [36], [(.slot 74)]⟩ :: ⟨[36, 6], [], [37], [(.slot 75)]⟩ :: ⟨[36, 1], [], [38], [(.slot 76)]⟩ :: ⟨[36, 38, 1], [], [39], [(.slot 77)]⟩ :: ⟨[36, 39], [], [40], [(.slot 78)]⟩ :: ⟨[36, 37, 40], [], [41], [(.slot 79)]⟩ :: ⟨[36, 41], [], [42], [(.slot 80)]⟩ :: ⟨[42], [], [43], [(.slot 81)]⟩ :: ⟨[43, 2], [], [44], [(.slot 82)]⟩ :: ⟨[43, 44, 0], [], [45], [(.slot 83)]⟩ :: ⟨[43, 45], [], [46], [(.slot 84)]⟩ :: ⟨[46], [], [47], [(.slot 85)]⟩ :: ⟨[47], [], [48], [(.slot 86)]⟩ :: ⟨[47], [], [49], [(.slot 87)]⟩ :: ⟨[49], [], [50], [(.slot 4)]⟩ :: [])) (es' := [(_, _), (4, .v (.bool false))]) (by kernel_rfl) rfl rfl
             ⟨st_plain rfl (op_loadA _ _ _ _ _ _ _ Tryd.underlying23 rfl sz23 rfl rfl (Nat.le_of_ble_eq_true rfl) rfl rfl),
             st_plain rfl (op_loadA _ _ _ _ _ _ _ Tryd.underlying23 rfl sz23 rfl rfl (Nat.le_of_ble_eq_true rfl) rfl rfl),
             st_plain rfl (op_callG _ _ 88 18 _ _ rfl Tryd.call18 rfl rfl (fun _ h => h) (ok_path_Same mx p (T_Path.mk false p.Local v8) _ hv11) rfl rfl),
             st_plain rfl (op_move _ _ _ _ (congrArg (fun b => AV.v (Value.bool b)) hg6_3) rfl),
             st_run 3 48 true rfl rfl rfl (List.Mem.head _) (op_loadA _ _ _ _ _ _ _ Tryd.underlying23 rfl sz23 rfl rfl (Nat.le_of_ble_eq_true rfl) rfl rfl),
             st_run 3 48 true rfl rfl rfl (List.Mem.head _) (op_loadA _ _ _ _ _ _ _ Tryd.underlying23 rfl sz23 rfl rfl (Nat.le_of_ble_eq_true rfl) rfl rfl),
             st_run 3 48 true rfl rfl rfl (List.Mem.head _) (op_callG _ _ 88 18 _ _ rfl Tryd.call18 rfl rfl (fun _ h => h) (ok_path_Same mx (T_Path.mk false p.Local v8) p _ hv12) rfl rfl),
             st_plain rfl (op_pick _ _ true _ rfl rfl),
             st_plain rfl (op_move _ _ _ _ (congrArg (fun b => AV.v (Value.bool b)) hg6_8) rfl),
             st_run 8 53 true rfl rfl rfl (List.Mem.head _) (op_loadA _ _ _ _ _ _ _ Tryd.underlying23 rfl sz23 rfl rfl (Nat.le_of_ble_eq_true rfl) rfl rfl),
             st_run 8 53 true rfl rfl rfl (List.Mem.head _) (op_loadA _ _ _ _ _ _ _ Tryd.underlying23 rfl sz23 rfl rfl (Nat.le_of_ble_eq_true rfl) rfl rfl),
             st_run 8 53 true rfl rfl rfl (List.Mem.head _) (op_callG _ _ 88 18 _ _ rfl Tryd.call18 rfl rfl (fun _ h => h) (ok_path_Same mx p (T_Path.mk false v9 p.Domain) _ hv13) rfl rfl),
             st_run 8 53 true rfl rfl rfl (List.Mem.head _) (op_move _ _ _ _ rfl rfl),
             st_run 8 53 true rfl rfl rfl (List.Mem.head _) (op_fieldAddr _ _ _ _ 2 0 _ Tryd.underlying23 rfl sz9 rfl rfl (by decide)),
             st_run 8 53 true rfl rfl rfl (List.Mem.head _) (op_load _ _ _ _ _ _ Tryd.underlying9 rfl rfl rfl (Nat.le_of_ble_eq_true rfl) rfl rfl rfl),
             st_run 8 53 true rfl rfl rfl (List.Mem.head _) (op_bin _ _ _ _ _ rfl rfl rfl),
             st_run 8 53 true rfl rfl rfl (List.Mem.head _) (op_beq _ _ _ _ Tryd.underlying4 rfl rfl),
             st_plain rfl (op_pick _ _ true _ rfl rfl),
             st_plain rfl (op_move _ _ _ _ (congrArg (fun b => AV.v (Value.bool b)) hg6_18) rfl),
             st_run 18 63 true rfl rfl rfl (List.Mem.head _) (op_loadA _ _ _ _ _ _ _ Tryd.underlying23 rfl sz23 rfl rfl (Nat.le_of_ble_eq_true rfl) rfl rfl),
             st_run 18 63 true rfl rfl rfl (List.Mem.head _) (op_move _ _ _ _ rfl rfl),
             st_run 18 63 true rfl rfl rfl (List.Mem.head _) (op_callG _ _ 88 20 _ _ rfl Tryd.call20 rfl rfl (fun _ h => h) (ok_path_At mx p v8 _ hv15) rfl rfl),
             st_plain rfl (op_pick _ _ true _ rfl rfl),
             st_plain rfl (op_move _ _ _ _ (congrArg (fun b => AV.v (Value.bool b)) hg6_23) rfl),
             st_run 23 68 true rfl rfl rfl (List.Mem.head _) (op_move _ _ _ _ rfl rfl),
             st_run 23 68 true rfl rfl rfl (List.Mem.head _) (op_call _ _ 22 _ _ rfl Tryd.call22 rfl (ok_path_Fold v10 _ hv16) rfl rfl),
             st_run 23 68 true rfl rfl rfl (List.Mem.head _) (op_move _ _ _ _ rfl rfl),
             st_run 23 68 true rfl rfl rfl (List.Mem.head _) (op_bin _ _ _ _ _ rfl rfl rfl),
             st_plain rfl (op_pick _ _ true _ rfl rfl),
             st_plain rfl (op_move _ _ _ _ (congrArg (fun b => AV.v (Value.bool b)) hg6_29) rfl),
             st_run 29 74 true rfl rfl rfl (List.Mem.head _) (op_move _ _ _ _ rfl rfl),
             st_run 29 74 true rfl rfl rfl (List.Mem.head _) (op_fieldAddr _ _ _ _ 2 0 _ Tryd.underlying23 rfl sz9 rfl rfl (by decide)),
             st_run 29 74 true rfl rfl rfl (List.Mem.head _) (op_load _ _ _ _ _ _ Tryd.underlying9 rfl rfl rfl (Nat.le_of_ble_eq_true rfl) rfl rfl rfl),
             st_run 29 74 true rfl rfl rfl (List.Mem.head _) (op_call _ _ 22 _ _ rfl Tryd.call22 rfl (ok_path_Fold p.Domain _ hv17) rfl rfl),
             st_run 29 74 true rfl rfl rfl (List.Mem.head _) (op_bin _ _ _ _ _ rfl rfl rfl),
             st_plain rfl (op_pick _ _ true _ rfl rfl),
             st_plain rfl (op_move _ _ _ _ (congrArg (fun b => AV.v (Value.bool b)) hg6_36) rfl),
             st_run 36 81 true rfl rfl rfl (List.Mem.head _) (op_move _ _ _ _ rfl rfl),
             st_run 36 81 true rfl rfl rfl (List.Mem.head _) (op_callG _ _ 88 14 _ _ rfl Tryd.call14 rfl rfl (fun _ h => h) (ok_path_Domain mx v8 _ hv18) rfl rfl),
             st_plain rfl (op_pick _ _ true _ rfl rfl),
             st_plain rfl (op_move _ _ _ _ (congrArg (fun b => AV.v (Value.bool b)) hg6_40) rfl),
             st_skip 40 85 _ true rfl rfl rfl rfl (List.Mem.head _),
             st_plain rfl (op_pick _ _ false _ rfl rfl),
             st_plain rfl (op_assign _ _ _ _ rfl rfl),
             trivial⟩ ?_
            exact hl22 _ (Option.some.inj h).symm
          ·refine ht_anyR (by kernel_rfl) hn (El := (_ :: _ :: _ :: _ :: _ :: _ :: _ :: (45, .agg [.v (.bool p.Null), .v (.string p.Local), .v (.string p.Domain)]) :: (46, .agg [.v (.bool false), .v (.string p.Local), .v (.string v8)]) :: (47, .v (.bool v11)) :: (48, .v (.bool true)) :: (49, .agg [.v (.bool false), .v (.string p.Local), .v (.string v8)]) :: (50, .agg [.v (.bool p.Null), .v (.string p.Local), .v (.string p.Domain)]) :: (51, .v (.bool v12)) :: (52, .v (.bool v12)) :: (53, .v (.bool true)) :: (54, .agg [.v (.bool p.Null), .v (.string p.Local), .v (.string p.Domain)]) :: (55, .agg [.v (.bool false), .v (.string v9), .v (.string p.Domain)]) :: (56, .v (.bool v13)) :: (57, .v (.string v9)) :: (58, .ptr 2 1) :: (59, .v (.string p.Local)) :: (60, .v (.bool (v9.toList == p.Local.toList))) :: (61, .v (.bool ((v13 == (v9.toList == p.Local.toList))))) :: (62, .v (.bool ((v13 == (v9.toList == p.Local.toList))))) :: (63, .v (.bool true)) :: (64, .agg [.v (.bool p.Null), .v (.string p.Local), .v (.string p.Domain)]) :: (65, .v (.string v8)) :: (66, .v (.bool v15)) :: (67, .v (.bool v15)) :: (68, .v (.bool true)) :: (69, .v (.string v10)) :: (70, .v (.string v16)) :: (71, .v (.string v10)) :: (72, .v (.bool (v16.toList == v10.toList))) :: (73, .v (.bool (v16.toList == v10.toList))) :: (74, .v (.bool true)) :: (75, .v (.string v10)) :: (76, .ptr 2 2) :: (77, .v (.string p.Domain)) :: (78, .v (.string v17)) :: (79, .v (.bool (v10.toList == v17.toList))) :: (80, .v (.bool (v10.toList == v17.toList))) :: (81, .v (.bool false)) :: (82, .v undef) :: (83, .v undef) :: (84, .v (.bool false)) :: (85, .v (.bool false)) :: (86, .v undef) :: (87, .v (.bool false)) :: (4, .v (.bool false)) :: [])) (init := [0, 1, 2, 3, 4, 5, 6]) (fin := [0, 50]) (sps := (⟨[1], [], [7], [(.slot 45)]⟩ :: ⟨[4], [], [8], [(.slot 46)]⟩ :: ⟨[7, 8, 0], [], [9], [(.slot 47)]⟩ :: ⟨[9], [], [10], [(.slot 48)]⟩ :: ⟨[10, 4], [], [11], [(.slot 49)]⟩ :: ⟨[10, 1], [], [12], [(.slot 50)]⟩ :: ⟨[10, 11, 12, 0], [], [13], [(.slot 51)]⟩ :: ⟨[10, 13], [], [14], [(.slot 52)]⟩ :: ⟨[14], [], [15], [(.slot 53)]⟩ :: ⟨[15, 1], [], [16], [(.slot 54)]⟩ :: ⟨[15, 5], [], [17], [(.slot 55)]⟩ :: ⟨[15, 16, 17, 0], [], [18], [(.slot 56)]⟩ :: ⟨[15, 3], [], [19], [(.slot 57)]⟩ :: ⟨[15, 1], [], [20], [(.slot 58)]⟩ :: ⟨[15, 20, 1], [], [21], [(.slot 59)]⟩ :: ⟨[15, 19, 21], [], [22], [(.slot 60)]⟩ :: ⟨[15, 18, 22], [], [23], [(.slot 61)]⟩ :: ⟨[15, 23], [], [24], [(.slot 62)]⟩ :: ⟨[24], [], [25], [(.slot 63)]⟩ :: ⟨[25, 1], [], [26], [(.slot 64)]⟩ :: ⟨[25, 2], [], [27], [(.slot 65)]⟩ :: ⟨[25, 26, 27, 0], [], [28], [(.slot 66)]⟩ :: ⟨[25, 28], [], [29], [(.slot 67)]⟩ :: ⟨[29], [], [30], [(.slot 68)]⟩ :: ⟨[30, 6], [], [31], [(.slot 69)]⟩ :: ⟨[30, 31], [], [32], [(.slot 70)]⟩ :: ⟨[30, 6], [], [33], [(.slot 71)]⟩ :: ⟨[30, 32, 33], [], [34], [(.slot 72)]⟩ :: ⟨[30, 34], [], [35], [(.slot 73)]⟩ :: ⟨[35], [], [36], [(.slot 74)]⟩ :: ⟨[36, 6], [], [37], [(.slot 75)]⟩ :: ⟨[36, 1], [], [38], [(.slot 76)]⟩ :: ⟨[36, 38, 1], [], [39], [(.slot 77)]⟩ :: ⟨[36, 39], [], [40], [(.slot 78)]⟩ :: ⟨[36, 37, 40], [], [41], [(.slot 79)]⟩ :: ⟨[36, 41], [], [42], [(.slot 80)]⟩ :: ⟨[42], [], [43], [(.slot 81)]⟩ :: ⟨[43], [], [44], [(.slot 82)]⟩ :: ⟨[43], [], [45], [(.slot 83)]⟩ :: ⟨[43], [], [46], [(.slot 84)]⟩ :: ⟨[46], [], [47], [(.slot 85)]⟩ :: ⟨[47], [], [48], [(.slot 86)]⟩ :: ⟨[47], [], [49], [(.slot 87)]⟩ :: ⟨[49], [], [50], [(.slot 4)]⟩ :: [])) (es' := [(_, _), (4, .v (.bool false))]) (by kernel_rfl) rfl rfl
            ⟨st_plain rfl (op_loadA _ _ _ _ _ _ _ Tryd.underlying23 rfl sz23 rfl rfl (Nat.le_of_ble_eq_true rfl) rfl rfl),
            st_plain rfl (op_loadA _ _ _ _ _ _ _ Tryd.underlying23 rfl sz23 rfl rfl (Nat.le_of_ble_eq_true rfl) rfl rfl),
            st_plain rfl (op_callG _ _ 88 18 _ _ rfl Tryd.call18 rfl rfl (fun _ h => h) (ok_path_Same mx p (T_Path.mk false p.Local v8) _ hv11) rfl rfl),
            st_plain rfl (op_move _ _ _ _ (congrArg (fun b => AV.v (Value.bool b)) hg6_3) rfl),
            st_run 3 48 true rfl rfl rfl (List.Mem.head _) (op_loadA _ _ _ _ _ _ _ Tryd.underlying23 rfl sz23 rfl rfl (Nat.le_of_ble_eq_true rfl) rfl rfl),
            st_run 3 48 true rfl rfl rfl (List.Mem.head _) (op_loadA _ _ _ _ _ _ _ Tryd.underlying23 rfl sz23 rfl rfl (Nat.le_of_ble_eq_true rfl) rfl rfl),
            st_run 3 48 true rfl rfl rfl (List.Mem.head _) (op_callG _ _ 88 18 _ _ rfl Tryd.call18 rfl rfl (fun _ h => h) (ok_path_Same mx (T_Path.mk false p.Local v8) p _ hv12) rfl rfl),
            st_plain rfl (op_pick _ _ true _ rfl rfl),
            st_plain rfl (op_move _ _ _ _ (congrArg (fun b => AV.v (Value.bool b)) hg6_8) rfl),
            st_run 8 53 true rfl rfl rfl (List.Mem.head _) (op_loadA _ _ _ _ _ _ _ Tryd.underlying23 rfl sz23 rfl rfl (Nat.le_of_ble_eq_true rfl) rfl rfl),
            st_run 8 53 true rfl rfl rfl (List.Mem.head _) (op_loadA _ _ _ _ _ _ _ Tryd.underlying23 rfl sz23 rfl rfl (Nat.le_of_ble_eq_true rfl) rfl rfl),
            st_run 8 53 true rfl rfl rfl (List.Mem.head _) (op_callG _ _ 88 18 _ _ rfl Tryd.call18 rfl rfl (fun _ h => h) (ok_path_Same mx p (T_Path.mk false v9 p.Domain) _ hv13) rfl rfl),
            st_run 8 53 true rfl rfl rfl (List.Mem.head _) (op_move _ _ _ _ rfl rfl),
            st_run 8 53 true rfl rfl rfl (List.Mem.head _) (op_fieldAddr _ _ _ _ 2 0 _ Tryd.underlying23 rfl sz9 rfl rfl (by decide)),
            st_run 8 53 true rfl rfl rfl (List.Mem.head _) (op_load _ _ _ _ _ _ Tryd.underlying9 rfl rfl rfl (Nat.le_of_ble_eq_true rfl) rfl rfl rfl),
            st_run 8 53 true rfl rfl rfl (List.Mem.head _) (op_bin _ _ _ _ _ rfl rfl rfl),
            st_run 8 53 true rfl rfl rfl (List.Mem.head _) (op_beq _ _ _ _ Tryd.underlying4 rfl rfl),
            st_plain rfl (op_pick _ _ true _ rfl rfl),
            st_plain rfl (op_move _ _ _ _ (congrArg (fun b => AV.v (Value.bool b)) hg6_18) rfl),
            st_run 18 63 true rfl rfl rfl (List.Mem.head _) (op_loadA _ _ _ _ _ _ _ Tryd.underlying23 rfl sz23 rfl rfl (Nat.le_of_ble_eq_true rfl) rfl rfl),
            st_run 18 63 true rfl rfl rfl (List.Mem.head _) (op_move _ _ _ _ rfl rfl),
            st_run 18 63 true rfl rfl rfl (List.Mem.head _) (op_callG _ _ 88 20 _ _ rfl Tryd.call20 rfl rfl (fun _ h => h) (ok_path_At mx p v8 _ hv15) rfl rfl),
            st_plain rfl (op_pick _ _ true _ rfl rfl),
            st_plain rfl (op_move _ _ _ _ (congrArg (fun b => AV.v (Value.bool b)) hg6_23) rfl),
            st_run 23 68 true rfl rfl rfl (List.Mem.head _) (op_move _ _ _ _ rfl rfl),
            st_run 23 68 true rfl rfl rfl (List.Mem.head _) (op_call _ _ 22 _ _ rfl Tryd.call22 rfl (ok_path_Fold v10 _ hv16) rfl rfl),
            st_run 23 68 true rfl rfl rfl (List.Mem.head _) (op_move _ _ _ _ rfl rfl),
            st_run 23 68 true rfl rfl rfl (List.Mem.head _) (op_bin _ _ _ _ _ rfl rfl rfl),
            st_plain rfl (op_pick _ _ true _ rfl rfl),
            st_plain rfl (op_move _ _ _ _ (congrArg (fun b => AV.v (Value.bool b)) hg6_29) rfl),
            st_run 29 74 true rfl rfl rfl (List.Mem.head _) (op_move _ _ _ _ rfl rfl),
            st_run 29 74 true rfl rfl rfl (List.Mem.head _) (op_fieldAddr _ _ _ _ 2 0 _ Tryd.underlying23 rfl sz9 rfl rfl (by decide)),
            st_run 29 74 true rfl rfl rfl (List.Mem.head _) (op_load _ _ _ _ _ _ Tryd.underlying9 rfl rfl rfl (Nat.le_of_ble_eq_true rfl) rfl rfl rfl),
            st_run 29 74 true rfl rfl rfl (List.Mem.head _) (op_call _ _ 22 _ _ rfl Tryd.call22 rfl (ok_path_Fold p.Domain _ hv17) rfl rfl),
            st_run 29 74 true rfl rfl rfl (List.Mem.head _) (op_bin _ _ _ _ _ rfl rfl rfl),
            st_plain rfl (op_pick _ _ true _ rfl rfl),
            st_plain rfl (op_move _ _ _ _ (congrArg (fun b => AV.v (Value.bool b)) hg6_36) rfl),
            st_skip 36 81 _ true rfl rfl rfl rfl (List.Mem.head _),
            st_skip 36 81 _ true rfl rfl rfl rfl (List.Mem.head _),
            st_plain rfl (op_pick _ _ false _ rfl rfl),
            st_plain rfl (op_move _ _ _ _ rfl rfl),
            st_skip 40 85 _ true rfl rfl rfl rfl (List.Mem.head _),
            st_plain rfl (op_pick _ _ false _ rfl rfl),
            st_plain rfl (op_assign _ _ _ _ rfl rfl),
            trivial⟩ ?_
           exact hl22 _ (Option.some.inj h).symm
         ·refine ht_anyR (by kernel_rfl) hn (El := (_ :: _ :: _ :: _ :: _ :: _ :: _ :: (45, .agg [.v (.bool p.Null), .v (.string p.Local), .v (.string p.Domain)]) :: (46, .agg [.v (.bool false), .v (.string p.Local), .v (.string v8)]) :: (47, .v (.bool v11)) :: (48, .v (.bool true)) :: (49, .agg [.v (.bool false), .v (.string p.Local), .v (.string v8)]) :: (50, .agg [.v (.bool p.Null), .v (.string p.Local), .v (.string p.Domain)]) :: (51, .v (.bool v12)) :: (52, .v (.bool v12)) :: (53, .v (.bool true)) :: (54, .agg [.v (.bool p.Null), .v (.string p.Local), .v (.string p.Domain)]) :: (55, .agg [.v (.bool false), .v (.string v9), .v (.string p.Domain)]) :: (56, .v (.bool v13)) :: (57, .v (.string v9)) :: (58, .ptr 2 1) :: (59, .v (.string p.Local)) :: (60, .v (.bool (v9.toList == p.Local.toList))) :: (61, .v (.bool ((v13 == (v9.toList == p.Local.toList))))) :: (62, .v (.bool ((v13 == (v9.toList == p.Local.toList))))) :: (63, .v (.bool true)) :: (64, .agg [.v (.bool p.Null), .v (.string p.Local), .v (.string p.Domain)]) :: (65, .v (.string v8)) :: (66, .v (.bool v15)) :: (67, .v (.bool v15)) :: (68, .v (.bool true)) :: (69, .v (.string v10)) :: (70, .v (.string v16)) :: (71, .v (.string v10)) :: (72, .v (.bool (v16.toList == v10.toList))) :: (73, .v (.bool (v16.toList == v10.toList))) :: (74, .v (.bool false)) :: (75, .v undef) :: (76, .v undef) :: (77, .v undef) :: (78, .v undef) :: (79, .v undef) :: (80, .v (.bool false)) :: (81, .v (.bool false)) :: (82, .v undef) :: (83, .v undef) :: (84, .v (.bool false)) :: (85, .v (.bool false)) :: (86, .v undef) :: (87, .v (.bool false)) :: (4, .v (.bool false)) :: [])) (init := [0, 1, 2, 3, 4, 5, 6]) (fin := [0, 50]) (sps := (⟨[1], [], [7], [(.slot 45)]⟩ :: ⟨[4], [], [8], [(.slot 46)]⟩ :: ⟨[7, 8, 0], [], [9], [(.slot 47)]⟩ :: ⟨[9], [], [10], [(.slot 48)]⟩ :: ⟨[10, 4], [], [11], [(.slot 49)]⟩ :: ⟨[10, 1], [], [12], [(.slot 50)]⟩ :: ⟨[10, 11, 12, 0], [], [13], [(.slot 51)]⟩ :: ⟨[10, 13], [], [14], [(.slot 52)]⟩ :: ⟨[14], [], [15], [(.slot 53)]⟩ :: ⟨[15, 1], [], [16], [(.slot 54)]⟩ :: ⟨[15, 5], [], [17], [(.slot 55)]⟩ :: ⟨[15, 16, 17, 0], [], [18], [(.slot 56)]⟩ :: ⟨[15, 3], [], [19], [(.slot 57)]⟩ :: ⟨[15, 1], [], [20], [(.slot 58)]⟩ :: ⟨[15, 20, 1], [], [21], [(.slot 59)]⟩ :: ⟨[15, 19, 21], [], [22], [(.slot 60)]⟩ :: ⟨[15, 18, 22], [], [23], [(.slot 61)]⟩ :: ⟨[15, 23], [], [24], [(.slot 62)]⟩ :: ⟨[24], [], [25], [(.slot 63)]⟩ :: ⟨[25, 1], [], [26], [(.slot 64)]⟩ :: ⟨[25, 2], [], [27], [(.slot 65)]⟩ :: ⟨[25, 26, 27, 0], [], [28], [(.slot 66)]⟩ :: ⟨[25, 28], [], [29], [(.slot 67)]⟩ :: ⟨[29], [], [30], [(.slot 68)]⟩ :: ⟨[30, 6], [], [31], [(.slot 69)]⟩ :: ⟨[30, 31], [], [32], [(.slot 70)]⟩ :: ⟨[30, 6], [], [33], [(.slot 71)]⟩ :: ⟨[30, 32, 33], [], [34], [(.slot 72)]⟩ :: ⟨[30, 34], [], [35], [(.slot 73)]⟩ :: ⟨[35], [], [36], [(.slot 74)]⟩ :: ⟨[36], [], [37], [(.slot 75)]⟩ :: ⟨[36], [], [38], [(.slot 76)]⟩ :: ⟨[36], [], [39], [(.slot 77)]⟩ :: ⟨[36], [], [40], [(.slot 78)]⟩ :: ⟨[36], [], [41], [(.slot 79)]⟩ :: ⟨[36], [], [42], [(.slot 80)]⟩ :: ⟨[42], [], [43], [(.slot 81)]⟩ :: ⟨[43], [], [44], [(.slot 82)]⟩ :: ⟨[43], [], [45], [(.slot 83)]⟩ :: ⟨[43], [], [46], [(.slot 84)]⟩ :: ⟨[46], [], [47], [(.slot 85)]⟩ :: ⟨[47], [], [48], [(.slot 86)]⟩ :: ⟨[47], [], [49], [(.slot 87)]⟩ :: ⟨[49], [], [50], [(.slot 4)]⟩ :: [])) (es' := [(_, _), (4, .v (.bool false))]) (by kernel_rfl) rfl rfl
           ⟨st_plain rfl (op_loadA _ _ _ _ _ _ _ Tryd.underlying23 rfl sz23 rfl rfl (Nat.le_of_ble_eq_true rfl) rfl rfl),
           st_plain rfl (op_loadA _ _ _ _ _ _ _ Tryd.underlying23 rfl sz23 rfl rfl (Nat.le_of_ble_eq_true rfl) rfl rfl),
           st_plain rfl (op_callG _ _ 88 18 _ _ rfl Tryd.call18 rfl rfl (fun _ h => h) (ok_path_Same mx p (T_Path.mk false p.Local v8) _ hv11) rfl rfl),
           st_plain rfl (op_move _ _ _ _ (congrArg (fun b => AV.v (Value.bool b)) hg6_3) rfl),
           st_run 3 48 true rfl rfl rfl (List.Mem.head _) (op_loadA _ _ _ _ _ _ _ Tryd.underlying23 rfl sz23 rfl rfl (Nat.le_of_ble_eq_true rfl) rfl rfl),
           st_run 3 48 true rfl rfl rfl (List.Mem.head _) (op_loadA _ _ _ _ _ _ _ Tryd.underlying23 rfl sz23 rfl rfl (Nat.le_of_ble_eq_true rfl) rfl rfl),
           st_run 3 48 true rfl rfl rfl (List.Mem.head _) (op_callG _ _ 88 18 _ _ rfl Tryd.call18 rfl rfl (fun _ h => h) (ok_path_Same mx (T_Path.mk false p.Local v8) p _ hv12) rfl rfl),
           st_plain rfl (op_pick _ _ true _ rfl rfl),
           st_plain rfl (op_move _ _ _ _ (congrArg (fun b => AV.v (Value.bool b)) hg6_8) rfl),
           st_run 8 53 true rfl rfl rfl (List.Mem.head _) (op_loadA _ _ _ _ _ _ _ Tryd.underlying23 rfl sz23 rfl rfl (Nat.le_of_ble_eq_true rfl) rfl rfl),
           st_run 8 53 true rfl rfl rfl (List.Mem.head _) (op_loadA _ _ _ _ _ _ _ Tryd.underlying23 rfl sz23 rfl rfl (Nat.le_of_ble_eq_true rfl) rfl rfl),
           st_run 8 53 true rfl rfl rfl (List.Mem.head _) (op_callG _ _ 88 18 _ _ rfl Tryd.call18 rfl rfl (fun _ h => h) (ok_path_Same mx p (T_Path.mk false v9 p.Domain) _ hv13) rfl rfl),
           st_run 8 53 true rfl rfl rfl (List.Mem.head _) (op_move _ _ _ _ rfl rfl),
           st_run 8 53 true rfl rfl rfl (List.Mem.head _) (op_fieldAddr _ _ _ _ 2 0 _ Tryd.underlying23 rfl sz9 rfl rfl (by decide)),
           st_run 8 53 true rfl rfl rfl (List.Mem.head _) (op_load _ _ _ _ _ _ Tryd.underlying9 rfl rfl rfl (Nat.le_of_ble_eq_true rfl) rfl rfl rfl),
           st_run 8 53 true rfl rfl rfl (List.Mem.head _) (op_bin _ _ _ _ _ rfl rfl rfl),
           st_run 8 53 true rfl rfl rfl (List.Mem.head _) (op_beq _ _ _ _ Tryd.underlying4 rfl rfl),
           st_plain rfl (op_pick _ _ true _ rfl rfl),
           st_plain rfl (op_move _ _ _ _ (congrArg (fun b => AV.v (Value.bool b)) hg6_18) rfl),
           st_run 18 63 true rfl rfl rfl (List.Mem.head _) (op_loadA _ _ _ _ _ _ _ Tryd.underlying23 rfl sz23 rfl rfl (Nat.le_of_ble_eq_true rfl) rfl rfl),
           st_run 18 63 true rfl rfl rfl (List.Mem.head _) (op_move _ _ _ _ rfl rfl),
           st_run 18 63 true rfl rfl rfl (List.Mem.head _) (op_callG _ _ 88 20 _ _ rfl Tryd.call20 rfl rfl (fun _ h => h) (ok_path_At mx p v8 _ hv15) rfl rfl),
           st_plain rfl (op_pick _ _ true _ rfl rfl),
           st_plain rfl (op_move _ _ _ _ (congrArg (fun b => AV.v (Value.bool b)) hg6_23) rfl),
           st_run 23 68 true rfl rfl rfl (List.Mem.head _) (op_move _ _ _ _ rfl rfl),
           st_run 23 68 true rfl rfl rfl (List.Mem.head _) (op_call _ _ 22 _ _ rfl Tryd.call22 rfl (ok_path_Fold v10 _ hv16) rfl rfl),
           st_run 23 68 true rfl rfl rfl (List.Mem.head _) (op_move _ _ _ _ rfl rfl),
           st_run 23 68 true rfl rfl rfl (List.Mem.head _) (op_bin _ _ _ _ _ rfl rfl rfl),
           st_plain rfl (op_pick _ _ true _ rfl rfl),
           st_plain rfl (op_move _ _ _ _ (congrArg (fun b => AV.v (Value.bool b)) hg6_29) rfl),
           st_skip 29 74 _ true rfl rfl rfl rfl (List.Mem.head _),
           st_skip 29 74 _ true rfl rfl rfl rfl (List.Mem.head _),
           st_skip 29 74 _ true rfl rfl rfl rfl (List.Mem.head _),
           st_skip 29 74 _ true rfl rfl rfl rfl (List.Mem.head _),
           st_skip 29 74 _ true rfl rfl rfl rfl (List.Mem.head _),
           st_plain rfl (op_pick _ _ false _ rfl rfl),
           st_plain rfl (op_move _ _ _ _ rfl rfl),
           st_skip 36 81 _ true rfl rfl rfl rfl (List.Mem.head _),
           st_skip 36 81 _ true rfl rfl rfl rfl (List.Mem.head _),
           st_plain rfl (op_pick _ _ false _ rfl rfl),
           st_plain rfl (op_move _ _ _ _ rfl rfl),
           st_skip 40 85 _ true rfl rfl rfl rfl (List.Mem.head _),
           st_plain rfl (op_pick _ _ false _ rfl rfl),
           st_plain rfl (op_assign _ _ _ _ rfl rfl),
           trivial⟩ ?_
          exact hl22 _ (Option.some.inj h).symm
        ·refine ht_anyR (by kernel_rfl) hn (El := (_ :: _ :: _ :: _ :: _ :: _ :: _ :: (45, .agg [.v (.bool p.Null), .v (.string p.Local), .v (.string p.Domain)]) :: (46, .agg [.v (.bool false), .v (.string p.Local), .v (.string v8)]) :: (47, .v (.bool v11)) :: (48, .v (.bool true)) :: (49, .agg [.v (.bool false), .v (.string p.Local), .v (.string v8)]) :: (50, .agg [.v (.bool p.Null), .v (.string p.Local), .v (.string p.Domain)]) :: (51, .v (.bool v12)) :: (52, .v (.bool v12)) :: (53, .v (.bool true)) :: (54, .agg [.v (.bool p.Null), .v (.string p.Local), .v (.string p.Domain)]) :: (55, .agg [.v (.bool false), .v (.string v9), .v (.string p.Domain)]) :: (56, .v (.bool v13)) :: (57, .v (.string v9)) :: (58, .ptr 2 1) :: (59, .v (.string p.Local)) :: (60, .v (.bool (v9.toList == p.Local.toList))) :: (61, .v (.bool ((v13 == (v9.toList == p.Local.toList))))) :: (62, .v (.bool ((v13 == (v9.toList == p.Local.toList))))) :: (63, .v (.bool true)) :: (64, .agg [.v (.bool p.Null), .v (.string p.Local), .v (.string p.Domain)]) :: (65, .v (.string v8)) :: (66, .v (.bool v15)) :: (67, .v (.bool v15)) :: (68, .v (.bool false)) :: (69, .v undef) :: (70, .v undef) :: (71, .v undef) :: (72, .v undef) :: (73, .v (.bool false)) :: (74, .v (.bool false)) :: (75, .v undef) :: (76, .v undef) :: (77, .v undef) :: (78, .v undef) :: (79, .v undef) :: (80, .v (.bool false)) :: (81, .v (.bool false)) :: (82, .v undef) :: (83, .v undef) :: (84, .v (.bool false)) :: (85, .v (.bool false)) :: (86, .v undef) :: (87, .v (.bool false)) :: (4, .v (.bool false)) :: [])) (init := [0, 1, 2, 3, 4, 5, 6]) (fin := [0, 50]) (sps := (⟨[1], [], [7], [(.slot 45)]⟩ :: ⟨[4], [], [8], [(.slot 46)]⟩ :: ⟨[7, 8, 0], [], [9], [(.slot 47)]⟩ :: ⟨[9], [], [10], [(.slot 48)]⟩ :: ⟨[10, 4], [], [11], [(.slot 49)]⟩ :: ⟨[10, 1], [], [12], [(.slot 50)]⟩ :: ⟨[10, 11, 12, 0], [], [13], [(.slot 51)]⟩ :: ⟨[10, 13], [], [14], [(.slot 52)]⟩ :: ⟨[14], [], [15], [(.slot 53)]⟩ :: ⟨[15, 1], [], [16], [(.slot 54)]⟩ :: ⟨[15, 5], [], [17], [(.slot 55)]⟩ :: ⟨[15, 16, 17, 0], [], [18], [(.slot 56)]⟩ :: ⟨[15, 3], [], [19], [(.slot 57)]⟩ :: ⟨[15, 1], [], [20], [(.slot 58)]⟩ :: ⟨[15, 20, 1], [], [21], [(.slot 59)]⟩ :: ⟨[15, 19, 21], [], [22], [(.slot 60)]⟩ :: ⟨[15, 18, 22], [], [23], [(.slot 61)]⟩ :: ⟨[15, 23], [], [24], [(.slot 62)]⟩ :: ⟨[24], [], [25], [(.slot 63)]⟩ :: ⟨[25, 1], [], [26], [(.slot 64)]⟩ :: ⟨[25, 2], [], [27], [(.slot 65)]⟩ :: ⟨[25, 26, 27, 0], [], [28], [(.slot 66)]⟩ :: ⟨[25, 28], [], [29], [(.slot 67)]⟩ :: ⟨[29], [], [30], [(.slot 68)]⟩ :: ⟨[30], [], [31], [(.slot 69)]⟩ :: ⟨[30], [], [32], [(.slot 70)]⟩ :: ⟨[30], [], [33], [(.slot 71)]⟩ :: ⟨[30], [], [34], [(.slot 72)]⟩ :: ⟨[30], [], [35], [(.slot 73)]⟩ :: ⟨[35], [], [36], [(.slot 74)]⟩ :: ⟨[36], [], [37], [(.slot 75)]⟩ :: ⟨[36], [], [38], [(.slot 76)]⟩ :: ⟨[36], [], [39], [(.slot 77)]⟩ :: ⟨[36], [], [40], [(.slot 78)]⟩ :: ⟨[36], [], [41], [(.slot 79)]⟩ :: ⟨[36], [], [42], [(.slot 80)]⟩ :: ⟨[42], [], [43], [(.slot 81)]⟩ :: ⟨[43], [], [44], [(.slot 82)]⟩ :: ⟨[43], [], [45], [(.slot 83)]⟩ :: ⟨[43], [], [46], [(.slot 84)]⟩ :: ⟨[46], [], [47], [(.slot 85)]⟩ :: ⟨[47], [], [48], [(.slot 86)]⟩ :: ⟨[47], [], [49], [(.slot 87)]⟩ :: ⟨[49], [], [50], [(.slot 4)]⟩ :: [])) (es' := [(_, _), (4, .v (.bool false))]) (by kernel_rfl) rfl rfl
          ⟨st_plain rfl (op_loadA _ _ _ _ _ _ _ Tryd.underlying23 rfl sz23 rfl rfl (Nat.le_of_ble_eq_true rfl) rfl rfl),
          st_plain rfl (op_loadA _ _ _ _ _ _ _ Tryd.underlying23 rfl sz23 rfl rfl (Nat.le_of_ble_eq_true rfl) rfl rfl),
          st_plain rfl (op_callG _ _ 88 18 _ _ rfl Tryd.call18 rfl rfl (fun _ h => h) (ok_path_Same mx p (T_Path.mk false p.Local v8) _ hv11) rfl rfl),
          st_plain rfl (op_move _ _ _ _ (congrArg (fun b => AV.v (Value.bool b)) hg6_3) rfl),
          st_run 3 48 true rfl rfl rfl (List.Mem.head _) (op_loadA _ _ _ _ _ _ _ Tryd.underlying23 rfl sz23 rfl rfl (Nat.le_of_ble_eq_true rfl) rfl rfl),
          st_run 3 48 true rfl rfl rfl (List.Mem.head _) (op_loadA _ _ _ _ _ _ _ Tryd.underlying23 rfl sz23 rfl rfl (Nat.le_of_ble_eq_true rfl) rfl rfl),
          st_run 3 48 true rfl rfl rfl (List.Mem.head _) (op_callG _ _ 88 18 _ _ rfl Tryd.call18 rfl rfl (fun _ h => h) (ok_path_Same mx (T_Path.mk false p.Local v8) p _ hv12) rfl rfl),
          st_plain rfl (op_pick _ _ true _ rfl rfl),
          st_plain rfl (op_move _ _ _ _ (congrArg (fun b => AV.v (Value.bool b)) hg6_8) rfl),
          st_run 8 53 true rfl rfl rfl (List.Mem.head _) (op_loadA _ _ _ _ _ _ _ Tryd.underlying23 rfl sz23 rfl rfl (Nat.le_of_ble_eq_true rfl) rfl rfl),
          st_run 8 53 true rfl rfl rfl (List.Mem.head _) (op_loadA _ _ _ _ _ _ _ Tryd.underlying23 rfl sz23 rfl rfl (Nat.le_of_ble_eq_true rfl) rfl rfl),
          st_run 8 53 true rfl rfl rfl (List.Mem.head _) (op_callG _ _ 88 18 _ _ rfl Tryd.call18 rfl rfl (fun _ h => h) (ok_path_Same mx p (T_Path.mk false v9 p.Domain) _ hv13) rfl rfl),
          st_run 8 53 true rfl rfl rfl (List.Mem.head _) (op_move _ _ _ _ rfl rfl),
          st_run 8 53 true rfl rfl rfl (List.Mem.head _) (op_fieldAddr _ _ _ _ 2 0 _ Tryd.underlying23 rfl sz9 rfl rfl (by decide)),
          st_run 8 53 true rfl rfl rfl (List.Mem.head _) (op_load _ _ _ _ _ _ Tryd.underlying9 rfl rfl rfl (Nat.le_of_ble_eq_true rfl) rfl rfl rfl),
          st_run 8 53 true rfl rfl rfl (List.Mem.head _) (op_bin _ _ _ _ _ rfl rfl rfl),
          st_run 8 53 true rfl rfl rfl (List.Mem.head _) (op_beq _ _ _ _ Tryd.underlying4 rfl rfl),
          st_plain rfl (op_pick _ _ true _ rfl rfl),
          st_plain rfl (op_move _ _ _ _ (congrArg (fun b => AV.v (Value.bool b)) hg6_18) rfl),
          st_run 18 63 true rfl rfl rfl (List.Mem.head _) (op_loadA _ _ _ _ _ _ _ Tryd.underlying23 rfl sz23 rfl rfl (Nat.le_of_ble_eq_true rfl) rfl rfl),
          st_run 18 63 true rfl rfl rfl (List.Mem.head _) (op_move _ _ _ _ rfl rfl),
          st_run 18 63 true rfl rfl rfl (List.Mem.head _) (op_callG _ _ 88 20 _ _ rfl Tryd.call20 rfl rfl (fun _ h => h) (ok_path_At mx p v8 _ hv15) rfl rfl),
          st_plain rfl (op_pick _ _ true _ rfl rfl),
          st_plain rfl (op_move _ _ _ _ (congrArg (fun b => AV.v (Value.bool b)) hg6_23) rfl),
          st_skip 23 68 _ true rfl rfl rfl rfl (List.Mem.head _),
          st_skip 23 68 _ true rfl rfl rfl rfl (List.Mem.head _),
          st_skip 23 68 _ true rfl rfl rfl rfl (List.Mem.head _),
          st_skip 23 68 _ true rfl rfl rfl rfl (List.Mem.head _),
          st_plain rfl (op_pick _ _ false _ rfl rfl),
          st_plain rfl (op_move _ _ _ _ rfl rfl),
          st_skip 29 74 _ true rfl rfl rfl rfl (List.Mem.head _),
          st_skip 29 74 _ true rfl rfl rfl rfl (List.Mem.head _),
          st_skip 29 74 _ true rfl rfl rfl rfl (List.Mem.head _),
          st_skip 29 74 _ true rfl rfl rfl rfl (List.Mem.head _),
          st_skip 29 74 _ true rfl rfl rfl rfl (List.Mem.head _),
          st_plain rfl (op_pick _ _ false _ rfl rfl),
          st_plain rfl (op_move _ _ _ _ rfl rfl),
          st_skip 36 81 _ true rfl rfl rfl rfl (List.Mem.head _),
          st_skip 36 81 _ true rfl rfl rfl rfl (List.Mem.head _),
          st_plain rfl (op_pick _ _ false _ rfl rfl),
          st_plain rfl (op_move _ _ _ _ rfl rfl),
          st_skip 40 85 _ true rfl rfl rfl rfl (List.Mem.head _),
          st_plain rfl (op_pick _ _ false _ rfl rfl),
          st_plain rfl (op_assign _ _ _ _ rfl rfl),
          trivial⟩ ?_
         exact hl22 _ (Option.some.inj h).symm
       ·refine ht_anyR (by kernel_rfl) hn (El := (_ :: _ :: _ :: _ :: _ :: _ :: _ :: (45, .agg [.v (.bool p.Null), .v (.string p.Local), .v (.string p.Domain)]) :: (46, .agg [.v (.bool false), .v (.string p.Local), .v (.string v8)]) :: (47, .v (.bool v11)) :: (48, .v (.bool true)) :: (49, .agg [.v (.bool false), .v (.string p.Local), .v (.string v8)]) :: (50, .agg [.v (.bool p.Null), .v (.string p.Local), .v (.string p.Domain)]) :: (51, .v (.bool v12)) :: (52, .v (.bool v12)) :: (53, .v (.bool true)) :: (54, .agg [.v (.bool p.Null), .v (.string p.Local), .v (.string p.Domain)]) :: (55, .agg [.v (.bool false), .v (.string v9), .v (.string p.Domain)]) :: (56, .v (.bool v13)) :: (57, .v (.string v9)) :: (58, .ptr 2 1) :: (59, .v (.string p.Local)) :: (60, .v (.bool (v9.toList == p.Local.toList))) :: (61, .v (.bool ((v13 == (v9.toList == p.Local.toList))))) :: (62, .v (.bool ((v13 == (v9.toList == p.Local.toList))))) :: (63, .v (.bool false)) :: (64, .v undef) :: (65, .v undef) :: (66, .v undef) :: (67, .v (.bool false)) :: (68, .v (.bool false)) :: (69, .v undef) :: (70, .v undef) :: (71, .v undef) :: (72, .v undef) :: (73, .v (.bool false)) :: (74, .v (.bool false)) :: (75, .v undef) :: (76, .v undef) :: (77, .v undef) :: (78, .v undef) :: (79, .v undef) :: (80, .v (.bool false)) :: (81, .v (.bool false)) :: (82, .v undef) :: (83, .v undef) :: (84, .v (.bool false)) :: (85, .v (.bool false)) :: (86, .v undef) :: (87, .v (.bool false)) :: (4, .v (.bool false)) :: [])) (init := [0, 1, 2, 3, 4, 5, 6]) (fin := [0, 50]) (sps := (⟨[1], [], [7], [(.slot 45)]⟩ :: ⟨[4], [], [8], [(.slot 46)]⟩ :: ⟨[7, 8, 0], [], [9], [(.slot 47)]⟩ :: ⟨[9], [], [10], [(.slot 48)]⟩ :: ⟨[10, 4], [], [11], [(.slot 49)]⟩ :: ⟨[10, 1], [], [12], [(.slot 50)]⟩ :: ⟨[10, 11, 12, 0], [], [13], [(.slot 51)]⟩ :: ⟨[10, 13], [], [14], [(.slot 52)]⟩ :: ⟨[14], [], [15], [(.slot 53)]⟩ :: ⟨[15, 1], [], [16], [(.slot 54)]⟩ :: ⟨[15, 5], [], [17], [(.slot 55)]⟩ :: ⟨[15, 16, 17, 0], [], [18], [(.slot 56)]⟩ :: ⟨[15, 3], [], [19], [(.slot 57)]⟩ :: ⟨[15, 1], [], [20], [(.slot 58)]⟩ :: ⟨[15, 20, 1], [], [21], [(.slot 59)]⟩ :: ⟨[15, 19, 21], [], [22], [(.slot 60)]⟩ :: ⟨[15, 18, 22], [], [23], [(.slot 61)]⟩ :: ⟨[15, 23], [], [24], [(.slot 62)]⟩ :: ⟨[24], [], [25], [(.slot 63)]⟩ :: ⟨[25], [], [26], [(.slot 64)]⟩ :: ⟨[25], [], [27], [(.slot 65)]⟩ :: ⟨[25], [], [28], [(.slot 66)]⟩ :: ⟨[25], [], [29], [(.slot 67)]⟩ :: ⟨[29], [], [30], [(.slot 68)]⟩ :: ⟨[30], [], [31], [(.slot 69)]⟩ :: ⟨[30], [], [32], [(.slot 70)]⟩ :: ⟨[30], [], [33], [(.slot 71)]⟩ :: ⟨[30], [], [34], [(.slot 72)]⟩ :: ⟨[30], [], [35], [(.slot 73)]⟩ :: ⟨[35], [], [36], [(.slot 74)]⟩ :: ⟨[36], [], [37], [(.slot 75)]⟩ :: ⟨[36], [], [38], [(.slot 76)]⟩ :: ⟨[36], [], [39], [(.slot 77)]⟩ :: ⟨[36], [], [40], [(.slot 78)]⟩ :: ⟨[36], [], [41], [(.slot 79)]⟩ :: ⟨[36], [], [42], [(.slot 80)]⟩ :: ⟨[42], [], [43], [(.slot 81)]⟩ :: ⟨[43], [], [44], [(.slot 82)]⟩ :: ⟨[43], [], [45], [(.slot 83)]⟩ :: ⟨[43], [], [46], [(.slot 84)]⟩ :: ⟨[46], [], [47], [(.slot 85)]⟩ :: ⟨[47], [], [48], [(.slot 86)]⟩ :: ⟨[47], [], [49], [(.slot 87)]⟩ :: ⟨[49], [], [50], [(.slot 4)]⟩ :: [])) (es' := [(_, _), (4, .v (.bool false))]) (by kernel_rfl) rfl rfl
         ⟨st_plain rfl (op_loadA _ _ _ _ _ _ _ Tryd.underlying23 rfl sz23 rfl rfl (Nat.le_of_ble_eq_true rfl) rfl rfl),
         st_plain rfl (op_loadA _ _ _ _ _ _ _ Tryd.underlying23 rfl sz23 rfl rfl (Nat.le_of_ble_eq_true rfl) rfl rfl),
         st_plain rfl (op_callG _ _ 88 18 _ _ rfl Tryd.call18 rfl rfl (fun _ h => h) (ok_path_Same mx p (T_Path.mk false p.Local v8) _ hv11) rfl rfl),
         st_plain rfl (op_move _ _ _ _ (congrArg (fun b => AV.v (Value.bool b)) hg6_3) rfl),
         st_run 3 48 true rfl rfl rfl (List.Mem.head _) (op_loadA _ _ _ _ _ _ _ Tryd.underlying23 rfl sz23 rfl rfl (Nat.le_of_ble_eq_true rfl) rfl rfl),
         st_run 3 48 true rfl rfl rfl (List.Mem.head _) (op_loadA _ _ _ _ _ _ _ Tryd.underlying23 rfl sz23 rfl rfl (Nat.le_of_ble_eq_true rfl) rfl rfl),
         st_run 3 48 true rfl rfl rfl (List.Mem.head _) (op_callG _ _ 88 18 _ _ rfl Tryd.call18 rfl rfl (fun _ h => h) (ok_path_Same mx (T_Path.mk false p.Local v8) p _ hv12) rfl rfl),
         st_plain rfl (op_pick _ _ true _ rfl rfl),
         st_plain rfl (op_move _ _ _ _ (congrArg (fun b => AV.v (Value.bool b)) hg6_8) rfl),
         st_run 8 53 true rfl rfl rfl (List.Mem.head _) (op_loadA _ _ _ _ _ _ _ Tryd.underlying23 rfl sz23 rfl rfl (Nat.le_of_ble_eq_true rfl) rfl rfl),
         st_run 8 53 true rfl rfl rfl (List.Mem.head _) (op_loadA _ _ _ _ _ _ _ Tryd.underlying23 rfl sz23 rfl rfl (Nat.le_of_ble_eq_true rfl) rfl rfl),
         st_run 8 53 true rfl rfl rfl (List.Mem.head _) (op_callG _ _ 88 18 _ _ rfl Tryd.call18 rfl rfl (fun _ h => h) (ok_path_Same mx p (T_Path.mk false v9 p.Domain) _ hv13) rfl rfl),
         st_run 8 53 true rfl rfl rfl (List.Mem.head _) (op_move _ _ _ _ rfl rfl),
         st_run 8 53 true rfl rfl rfl (List.Mem.head _) (op_fieldAddr _ _ _ _ 2 0 _ Tryd.underlying23 rfl sz9 rfl rfl (by decide)),
         st_run 8 53 true rfl rfl rfl (List.Mem.head _) (op_load _ _ _ _ _ _ Tryd.underlying9 rfl rfl rfl (Nat.le_of_ble_eq_true rfl) rfl rfl rfl),
         st_run 8 53 true rfl rfl rfl (List.Mem.head _) (op_bin _ _ _ _ _ rfl rfl rfl),
         st_run 8 53 true rfl rfl rfl (List.Mem.head _) (op_beq _ _ _ _ Tryd.underlying4 rfl rfl),
         st_plain rfl (op_pick _ _ true _ rfl rfl),
         st_plain rfl (op_move _ _ _ _ (congrArg (fun b => AV.v (Value.bool b)) hg6_18) rfl),
         st_skip 18 63 _ true rfl rfl rfl rfl (List.Mem.head _),
         st_skip 18 63 _ true rfl rfl rfl rfl (List.Mem.head _),
         st_skip 18 63 _ true rfl rfl rfl rfl (List.Mem.head _),
         st_plain rfl (op_pick _ _ false _ rfl rfl),
         st_plain rfl (op_move _ _ _ _ rfl rfl),
         st_skip 23 68 _ true rfl rfl rfl rfl (List.Mem.head _),
         st_skip 23 68 _ true rfl rfl rfl rfl (List.Mem.head _),
         st_skip 23 68 _ true rfl rfl rfl rfl (List.Mem.head _),
         st_skip 23 68 _ true rfl rfl rfl rfl (List.Mem.head _),
         st_plain rfl (op_pick _ _ false _ rfl rfl),
         st_plain rfl (op_move _ _ _ _ rfl rfl),
         st_skip 29 74 _ true rfl rfl rfl rfl (List.Mem.head _),
         st_skip 29 74 _ true rfl rfl rfl rfl (List.Mem.head _),
         st_skip 29 74 _ true rfl rfl rfl rfl (List.Mem.head _),
         st_skip 29 74 _ true rfl rfl rfl rfl (List.Mem.head _),
         st_skip 29 74 _ true rfl rfl rfl rfl (List.Mem.head _),
         st_plain rfl (op_pick _ _ false _ rfl rfl),
         st_plain rfl (op_move _ _ _ _ rfl rfl),
         st_skip 36 81 _ true rfl rfl rfl rfl (List.Mem.head _),
         st_skip 36 81 _ true rfl rfl rfl rfl (List.Mem.head _),
         st_plain rfl (op_pick _ _ false _ rfl rfl),
         st_plain rfl (op_move _ _ _ _ rfl rfl),
         st_skip 40 85 _ true rfl rfl rfl rfl (List.Mem.head _),
         st_plain rfl (op_pick _ _ false _ rfl rfl),
         st_plain rfl (op_assign _ _ _ _ rfl rfl),
         trivial⟩ ?_
        exact hl22 _ (Option.some.inj h).symm
      ·refine ht_anyR (by kernel_rfl) hn (El := (_ :: _ :: _ :: _ :: _ :: _ :: _ :: (45, .agg [.v (.bool p.Null), .v (.string p.Local), .v (.string p.Domain)]) :: (46, .agg [.v (.bool false), .v (.string p.Local), .v (.string v8)]) :: (47, .v (.bool v11)) :: (48, .v (.bool true)) :: (49, .agg [.v (.bool false), .v (.string p.Local), .v (.string v8)]) :: (50, .agg [.v (.bool p.Null), .v (.string p.Local), .v (.string p.Domain)]) :: (51, .v (.bool v12)) :: (52, .v (.bool v12)) :: (53, .v (.bool false)) :: (54, .v undef) :: (55, .v undef) :: (56, .v undef) :: (57, .v undef) :: (58, .v undef) :: (59, .v undef) :: (60, .v undef) :: (61, .v undef) :: (62, .v (.bool false)) :: (63, .v (.bool false)) :: (64, .v undef) :: (65, .v undef) :: (66, .v undef) :: (67, .v (.bool false)) :: (68, .v (.bool false)) :: (69, .v undef) :: (70, .v undef) :: (71, .v undef) :: (72, .v undef) :: (73, .v (.bool false)) :: (74, .v (.bool false)) :: (75, .v undef) :: (76, .v undef) :: (77, .v undef) :: (78, .v undef) :: (79, .v undef) :: (80, .v (.bool false)) :: (81, .v (.bool false)) :: (82, .v undef) :: (83, .v undef) :: (84, .v (.bool false)) :: (85, .v (.bool false)) :: (86, .v undef) :: (87, .v (.bool false)) :: (4, .v (.bool false)) :: [])) (init := [0, 1, 2, 3, 4, 5, 6]) (fin := [0, 50]) (sps := (⟨[1], [], [7], [(.slot 45)]⟩ :: ⟨[4], [], [8], [(.slot 46)]⟩ :: ⟨[7, 8, 0], [], [9], [(.slot 47)]⟩ :: ⟨[9], [], [10], [(.slot 48)]⟩ :: ⟨[10, 4], [], [11], [(.slot 49)]⟩ :: ⟨[10, 1], [], [12], [(.slot 50)]⟩ :: ⟨[10, 11, 12, 0], [], [13], [(.slot 51)]⟩ :: ⟨[10, 13], [], [14], [(.slot 52)]⟩ :: ⟨[14], [], [15], [(.slot 53)]⟩ :: ⟨[15], [], [16], [(.slot 54)]⟩ :: ⟨[15], [], [17], [(.slot 55)]⟩ :: ⟨[15], [], [18], [(.slot 56)]⟩ :: ⟨[15], [], [19], [(.slot 57)]⟩ :: ⟨[15], [], [20], [(.slot 58)]⟩ :: ⟨[15], [], [21], [(.slot 59)]⟩ :: ⟨[15], [], [22], [(.slot 60)]⟩ :: ⟨[15], [], [23], [(.slot 61)]⟩ :: ⟨[15], [], [24], [(.slot 62)]⟩ :: ⟨[24], [], [25], [(.slot 63)]⟩ :: ⟨[25], [], [26], [(.slot 64)]⟩ :: ⟨[25], [], [27], [(.slot 65)]⟩ :: ⟨[25], [], [28], [(.slot 66)]⟩ :: ⟨[25], [], [29], [(.slot 67)]⟩ :: ⟨[29], [], [30], [(.slot 68)]⟩ :: ⟨[30], [], [31], [(.slot 69)]⟩ :: ⟨[30], [], [32], [(.slot 70)]⟩ :: ⟨[30], [], [33], [(.slot 71)]⟩ :: ⟨[30], [], [34], [(.slot 72)]⟩ :: ⟨[30], [], [35], [(.slot 73)]⟩ :: ⟨[35], [], [36], [(.slot 74)]⟩ :: ⟨[36], [], [37], [(.slot 75)]⟩ :: ⟨[36], [], [38], [(.slot 76)]⟩ :: ⟨[36], [], [39], [(.slot 77)]⟩ :: ⟨[36], [], [40], [(.slot 78)]⟩ :: ⟨[36], [], [41], [(.slot 79)]⟩ :: ⟨[36], [], [42], [(.slot 80)]⟩ :: ⟨[42], [], [43], [(.slot 81)]⟩ :: ⟨[43], [], [44], [(.slot 82)]⟩ :: ⟨[43], [], [45], [(.slot 83)]⟩ :: ⟨[43], [], [46], [(.slot 84)]⟩ :: ⟨[46], [], [47], [(.slot 85)]⟩ :: ⟨[47], [], [48], [(.slot 86)]⟩ :: ⟨[47], [], [49], [(.slot 87)]⟩ :: ⟨[49], [], [50], [(.slot 4)]⟩ :: [])) (es' := [(_, _), (4, .v (.bool false))]) (by kernel_rfl) rfl rfl
        ⟨st_plain rfl (op_loadA _ _ _ _ _ _ _ Tryd.underlying23 rfl sz23 rfl rfl (Nat.le_of_ble_eq_true rfl) rfl rfl),
        st_plain rfl (op_loadA _ _ _ _ _ _ _ Tryd.underlying23 rfl sz23 rfl rfl (Nat.le_of_ble_eq_true rfl) rfl rfl),
        st_plain rfl (op_callG _ _ 88 18 _ _ rfl Tryd.call18 rfl rfl (fun _ h => h) (ok_path_Same mx p (T_Path.mk false p.Local v8) _ hv11) rfl rfl),
        st_plain rfl (op_move _ _ _ _ (congrArg (fun b => AV.v (Value.bool b)) hg6_3) rfl),
        st_run 3 48 true rfl rfl rfl (List.Mem.head _) (op_loadA _ _ _ _ _ _ _ Tryd.underlying23 rfl sz23 rfl rfl (Nat.le_of_ble_eq_true rfl) rfl rfl),
        st_run 3 48 true rfl rfl rfl (List.Mem.head _) (op_loadA _ _ _ _ _ _ _ Tryd.underlying23 rfl sz23 rfl rfl (Nat.le_of_ble_eq_true rfl) rfl rfl),
        st_run 3 48 true rfl rfl rfl (List.Mem.head _) (op_callG _ _ 88 18 _ _ rfl Tryd.call18 rfl rfl (fun _ h => h) (ok_path_Same mx (T_Path.mk false p.Local v8) p _ hv12) rfl rfl),
        st_plain rfl (op_pick _ _ true _ rfl rfl),
        st_plain rfl (op_move _ _ _ _ (congrArg (fun b => AV.v (Value.bool b)) hg6_8) rfl),
        st_skip 8 53 _ true rfl rfl rfl rfl (List.Mem.head _),
        st_skip 8 53 _ true rfl rfl rfl rfl (List.Mem.head _),
        st_skip 8 53 _ true rfl rfl rfl rfl (List.Mem.head _),
        st_skip 8 53 _ true rfl rfl rfl rfl (List.Mem.head _),
        st_skip 8 53 _ true rfl rfl rfl rfl (List.Mem.head _),
        st_skip 8 53 _ true rfl rfl rfl rfl (List.Mem.head _),
        st_skip 8 53 _ true rfl rfl rfl rfl (List.Mem.head _),
        st_skip 8 53 _ true rfl rfl rfl rfl (List.Mem.head _),
        st_plain rfl (op_pick _ _ false _ rfl rfl),
        st_plain rfl (op_move _ _ _ _ rfl rfl),
        st_skip 18 63 _ true rfl rfl rfl rfl (List.Mem.head _),
        st_skip 18 63 _ true rfl rfl rfl rfl (List.Mem.head _),
        st_skip 18 63 _ true rfl rfl rfl rfl (List.Mem.head _),
        st_plain rfl (op_pick _ _ false _ rfl rfl),
        st_plain rfl (op_move _ _ _ _ rfl rfl),
        st_skip 23 68 _ true rfl rfl rfl rfl (List.Mem.head _),
        st_skip 23 68 _ true rfl rfl rfl rfl (List.Mem.head _),
        st_skip 23 68 _ true rfl rfl rfl rfl (List.Mem.head _),
        st_skip 23 68 _ true rfl rfl rfl rfl (List.Mem.head _),
        st_plain rfl (op_pick _ _ false _ rfl rfl),
        st_plain rfl (op_move _ _ _ _ rfl rfl),
        st_skip 29 74 _ true rfl rfl rfl rfl (List.Mem.head _),
        st_skip 29 74 _ true rfl rfl rfl rfl (List.Mem.head _),
        st_skip 29 74 _ true rfl rfl rfl rfl (List.Mem.head _),
        st_skip 29 74 _ true rfl rfl rfl rfl (List.Mem.head _),
        st_skip 29 74 _ true rfl rfl rfl rfl (List.Mem.head _),
        st_plain rfl (op_pick _ _ false _ rfl rfl),
        st_plain rfl (op_move _ _ _ _ rfl rfl),
        st_skip 36 81 _ true rfl rfl rfl rfl (List.Mem.head _),
        st_skip 36 81 _ true rfl rfl rfl rfl (List.Mem.head _),
        st_plain rfl (op_pick _ _ false _ rfl rfl),
        st_plain rfl (op_move _ _ _ _ rfl rfl),
        st_skip 40 85 _ true rfl rfl rfl rfl (List.Mem.head _),
        st_plain rfl (op_pick _ _ false _ rfl rfl),
        st_plain rfl (op_assign _ _ _ _ rfl rfl),
        trivial⟩ ?_
       exact hl22 _ (Option.some.inj h).symm
     ·refine ht_anyR (by kernel_rfl) hn (El := (_ :: _ :: _ :: _ :: _ :: _ :: _ :: (45, .agg [.v (.bool p.Null), .v (.string p.Local), .v (.string p.Domain)]) :: (46, .agg [.v (.bool false), .v (.string p.Local), .v (.string v8)]) :: (47, .v (.bool v11)) :: (48, .v (.bool false)) :: (49, .v undef) :: (50, .v undef) :: (51, .v undef) :: (52, .v (.bool false)) :: (53, .v (.bool false)) :: (54, .v undef) :: (55, .v undef) :: (56, .v undef) :: (57, .v undef) :: (58, .v undef) :: (59, .v undef) :: (60, .v undef) :: (61, .v undef) :: (62, .v (.bool false)) :: (63, .v (.bool false)) :: (64, .v undef) :: (65, .v undef) :: (66, .v undef) :: (67, .v (.bool false)) :: (68, .v (.bool false)) :: (69, .v undef) :: (70, .v undef) :: (71, .v undef) :: (72, .v undef) :: (73, .v (.bool false)) :: (74, .v (.bool false)) :: (75, .v undef) :: (76, .v undef) :: (77, .v undef) :: (78, .v undef) :: (79, .v undef) :: (80, .v (.bool false)) :: (81, .v (.bool false)) :: (82, .v undef) :: (83, .v undef) :: (84, .v (.bool false)) :: (85, .v (.bool false)) :: (86, .v undef) :: (87, .v (.bool false)) :: (4, .v (.bool false)) :: [])) (init := [0, 1, 2, 3, 4, 5, 6]) (fin := [0, 50]) (sps := (⟨[1], [], [7], [(.slot 45)]⟩ :: ⟨[4], [], [8], [(.slot 46)]⟩ :: ⟨[7, 8, 0], [], [9], [(.slot 47)]⟩ :: ⟨[9], [], [10], [(.slot 48)]⟩ :: ⟨[10], [], [11], [(.slot 49)]⟩ :: ⟨[10], [], [12], [(.slot 50)]⟩ :: ⟨[10], [], [13], [(.slot 51)]⟩ :: ⟨[10], [], [14], [(.slot 52)]⟩ :: ⟨[14], [], [15], [(.slot 53)]⟩ :: ⟨[15], [], [16], [(.slot 54)]⟩ :: ⟨[15], [], [17], [(.slot 55)]⟩ :: ⟨[15], [], [18], [(.slot 56)]⟩ :: ⟨[15], [], [19], [(.slot 57)]⟩ :: ⟨[15], [], [20], [(.slot 58)]⟩ :: ⟨[15], [], [21], [(.slot 59)]⟩ :: ⟨[15], [], [22], [(.slot 60)]⟩ :: ⟨[15], [], [23], [(.slot 61)]⟩ :: ⟨[15], [], [24], [(.slot 62)]⟩ :: ⟨[24], [], [25], [(.slot 63)]⟩ :: ⟨[25], [], [26], [(.slot 64)]⟩ :: ⟨[25], [], [27], [(.slot 65)]⟩ :: ⟨[25], [], [28], [(.slot 66)]⟩ :: ⟨[25], [], [29], [(.slot 67)]⟩ :: ⟨[29], [], [30], [(.slot 68)]⟩ :: ⟨[30], [], [31], [(.slot 69)]⟩ :: ⟨[30], [], [32], [(.slot 70)]⟩ :: ⟨[30], [], [33], [(.slot 71)]⟩ :: ⟨[30], [], [34], [(.slot 72)]⟩ :: ⟨[30], [], [35], [(.slot 73)]⟩ :: ⟨[35], [], [36], [(.slot 74)]⟩ :: ⟨[36], [], [37], [(.slot 75)]⟩ :: ⟨[36], [], [38], [(.slot 76)]⟩ :: ⟨[36], [], [39], [(.slot 77)]⟩ :: ⟨[36], [], [40], [(.slot 78)]⟩ :: ⟨[36], [], [41], [(.slot 79)]⟩ :: ⟨[36], [], [42], [(.slot 80)]⟩ :: ⟨[42], [], [43], [(.slot 81)]⟩ :: ⟨[43], [], [44], [(.slot 82)]⟩ :: ⟨[43], [], [45], [(.slot 83)]⟩ :: ⟨[43], [], [46], [(.slot 84)]⟩ :: ⟨[46], [], [47], [(.slot 85)]⟩ :: ⟨[47], [], [48], [(.slot 86)]⟩ :: ⟨[47], [], [49], [(.slot 87)]⟩ :: ⟨[49], [], [50], [(.slot 4)]⟩ :: [])) (es' := [(_, _), (4, .v (.bool false))]) (by kernel_rfl) rfl rfl
       ⟨st_plain rfl (op_loadA _ _ _ _ _ _ _ Tryd.underlying23 rfl sz23 rfl rfl (Nat.le_of_ble_eq_true rfl) rfl rfl),
       st_plain rfl (op_loadA _ _ _ _ _ _ _ Tryd.underlying23 rfl sz23 rfl rfl (Nat.le_of_ble_eq_true rfl) rfl rfl),
       st_plain rfl (op_callG _ _ 88 18 _ _ rfl Tryd.call18 rfl rfl (fun _ h => h) (ok_path_Same mx p (T_Path.mk false p.Local v8) _ hv11) rfl rfl),
       st_plain rfl (op_move _ _ _ _ (congrArg (fun b => AV.v (Value.bool b)) hg6_3) rfl),
       st_skip 3 48 _ true rfl rfl rfl rfl (List.Mem.head _),
       st_skip 3 48 _ true rfl rfl rfl rfl (List.Mem.head _),
       st_skip 3 48 _ true rfl rfl rfl rfl (List.Mem.head _),
       st_plain rfl (op_pick _ _ false _ rfl rfl),
       st_plain rfl (op_move _ _ _ _ rfl rfl),
       st_skip 8 53 _ true rfl rfl rfl rfl (List.Mem.head _),
       st_skip 8 53 _ true rfl rfl rfl rfl (List.Mem.head _),
       st_skip 8 53 _ true rfl rfl rfl rfl (List.Mem.head _),
       st_skip 8 53 _ true rfl rfl rfl rfl (List.Mem.head _),
       st_skip 8 53 _ true rfl rfl rfl rfl (List.Mem.head _),
       st_skip 8 53 _ true rfl rfl rfl rfl (List.Mem.head _),
       st_skip 8 53 _ true rfl rfl rfl rfl (List.Mem.head _),
       st_skip 8 53 _ true rfl rfl rfl rfl (List.Mem.head _),
       st_plain rfl (op_pick _ _ false _ rfl rfl),
       st_plain rfl (op_move _ _ _ _ rfl rfl),
       st_skip 18 63 _ true rfl rfl rfl rfl (List.Mem.head _),
       st_skip 18 63 _ true rfl rfl rfl rfl (List.Mem.head _),
       st_skip 18 63 _ true rfl rfl rfl rfl (List.Mem.head _),
       st_plain rfl (op_pick _ _ false _ rfl rfl),
       st_plain rfl (op_move _ _ _ _ rfl rfl),
       st_skip 23 68 _ true rfl rfl rfl rfl (List.Mem.head _),
       st_skip 23 68 _ true rfl rfl rfl rfl (List.Mem.head _),
       st_skip 23 68 _ true rfl rfl rfl rfl (List.Mem.head _),
       st_skip 23 68 _ true rfl rfl rfl rfl (List.Mem.head _),
       st_plain rfl (op_pick _ _ false _ rfl rfl),
       st_plain rfl (op_move _ _ _ _ rfl rfl),
       st_skip 29 74 _ true rfl rfl rfl rfl (List.Mem.head _),
       st_skip 29 74 _ true rfl rfl rfl rfl (List.Mem.head _),
       st_skip 29 74 _ true rfl rfl rfl rfl (List.Mem.head _),
       st_skip 29 74 _ true rfl rfl rfl rfl (List.Mem.head _),
       st_skip 29 74 _ true rfl rfl rfl rfl (List.Mem.head _),
       st_plain rfl (op_pick _ _ false _ rfl rfl),
       st_plain rfl (op_move _ _ _ _ rfl rfl),
       st_skip 36 81 _ true rfl rfl rfl rfl (List.Mem.head _),
       st_skip 36 81 _ true rfl rfl rfl rfl (List.Mem.head _),
       st_plain rfl (op_pick _ _ false _ rfl rfl),
       st_plain rfl (op_move _ _ _ _ rfl rfl),
       st_skip 40 85 _ true rfl rfl rfl rfl (List.Mem.head _),
       st_plain rfl (op_pick _ _ false _ rfl rfl),
       st_plain rfl (op_assign _ _ _ _ rfl rfl),
       trivial⟩ ?_
      exact hl22 _ (Option.some.inj h).symm
  ·intro u4 h hl5 hr6
   obtain ⟨v1, hv1, h⟩ := bind_some h
   refine cond_some h (fun hg1_8 h => ?_) (fun hg1_8 h => ?_)
   ·refine ht_seqR hn (El := (_ :: _ :: _ :: (10, .ptr 2 1) :: (11, .v (.string p.Local)) :: (12, .v (.int .i64 (p.Local.size : Int))) :: (13, .ptr 2 2) :: (14, .v (.string p.Domain)) :: (15, .v (.int .i64 (p.Domain.size : Int))) :: (16, .v (.int .i64 v1)) :: (17, .v (.bool ((decide (1000 < v1))))) :: (18, .v (.bool true)) :: (19, .v undef) :: (20, .v undef) :: (21, .v undef) :: (22, .v (.bool true)) :: (23, .v (.bool true)) :: (24, .v undef) :: (25, .v undef) :: (26, .v (.bool true)) :: [])) (init := [0, 1, 2]) (fin := [0, 1, 2, 19]) (sps := (⟨[2], [], [3], [(.slot 10)]⟩ :: ⟨[3, 2], [], [4], [(.slot 11)]⟩ :: ⟨[4], [], [5], [(.slot 12)]⟩ :: ⟨[2], [], [6], [(.slot 13)]⟩ :: ⟨[6, 2], [], [7], [(.slot 14)]⟩ :: ⟨[7], [], [8], [(.slot 15)]⟩ :: ⟨[5, 8], [], [9], [(.slot 16)]⟩ :: ⟨[9], [], [10], [(.slot 17)]⟩ :: ⟨[10], [], [11], [(.slot 18)]⟩ :: ⟨[11], [], [12], [(.slot 19)]⟩ :: ⟨[11], [], [13], [(.slot 20)]⟩ :: ⟨[11], [], [14], [(.slot 21)]⟩ :: ⟨[11], [], [15], [(.slot 22)]⟩ :: ⟨[15], [], [16], [(.slot 23)]⟩ :: ⟨[16], [], [17], [(.slot 24)]⟩ :: ⟨[16], [], [18], [(.slot 25)]⟩ :: ⟨[16], [], [19], [(.slot 26)]⟩ :: [])) (es' := [(_, _), (_, _), (_, _), (26, .v (.bool true))]) (by kernel_rfl) rfl rfl
     ⟨st_plain rfl (op_fieldAddr _ _ _ _ 2 0 _ Tryd.underlying23 rfl sz9 rfl rfl (by decide)),
     st_plain rfl (op_load _ _ _ _ _ _ Tryd.underlying9 rfl rfl rfl (Nat.le_of_ble_eq_true rfl) rfl rfl rfl),
     st_plain rfl (op_len_str _ _ _ Tryd.underlying9 rfl),
     st_plain rfl (op_fieldAddr _ _ _ _ 2 0 _ Tryd.underlying23 rfl sz9 rfl rfl (by decide)),
     st_plain rfl (op_load _ _ _ _ _ _ Tryd.underlying9 rfl rfl rfl (Nat.le_of_ble_eq_true rfl) rfl rfl rfl),
     st_plain rfl (op_len_str _ _ _ Tryd.underlying9 rfl),
     st_plain rfl (op_bin _ _ _ _ _ rfl rfl (ibind (f := Value.int .i64) (Option.some.inj hv1))),
     st_plain rfl (op_bin _ _ _ _ _ rfl rfl rfl),
     st_plain rfl (op_move _ _ _ _ (congrArg (fun b => AV.v (Value.bool b)) hg1_8) rfl),
     st_skip 8 18 _ false rfl rfl rfl rfl (List.Mem.head _),
     st_skip 8 18 _ false rfl rfl rfl rfl (List.Mem.head _),
     st_skip 8 18 _ false rfl rfl rfl rfl (List.Mem.head _),
     st_plain rfl (op_pick _ _ true _ rfl rfl),
     st_plain rfl (op_move _ _ _ _ rfl rfl),
     st_skip 13 23 _ false rfl rfl rfl rfl (List.Mem.head _),
     st_skip 13 23 _ false rfl rfl rfl rfl (List.Mem.head _),
     st_plain rfl (op_pick _ _ true _ rfl rfl),
     trivial⟩ ?_
    exact hl5 _ (Option.some.inj h).symm
   ·obtain ⟨v2, hv2, h⟩ := bind_some h
    refine cond_some h (fun hg1_13 h => ?_) (fun hg1_13 h => ?_)
    ·refine ht_seqR hn (El := (_ :: _ :: _ :: (10, .ptr 2 1) :: (11, .v (.string p.Local)) :: (12, .v (.int .i64 (p.Local.size : Int))) :: (13, .ptr 2 2) :: (14, .v (.string p.Domain)) :: (15, .v (.int .i64 (p.Domain.size : Int))) :: (16, .v (.int .i64 v1)) :: (17, .v (.bool ((decide (1000 < v1))))) :: (18, .v (.bool false)) :: (19, .agg [.v (.bool p.Null), .v (.string p.Local), .v (.string p.Domain)]) :: (20, .v (.bool v2)) :: (21, .v (.bool (!v2))) :: (22, .v (.bool (!v2))) :: (23, .v (.bool true)) :: (24, .v undef) :: (25, .v undef) :: (26, .v (.bool true)) :: [])) (init := [0, 1, 2]) (fin := [0, 1, 2, 19]) (sps := (⟨[2], [], [3], [(.slot 10)]⟩ :: ⟨[3, 2], [], [4], [(.slot 11)]⟩ :: ⟨[4], [], [5], [(.slot 12)]⟩ :: ⟨[2], [], [6], [(.slot 13)]⟩ :: ⟨[6, 2], [], [7], [(.slot 14)]⟩ :: ⟨[7], [], [8], [(.slot 15)]⟩ :: ⟨[5, 8], [], [9], [(.slot 16)]⟩ :: ⟨[9], [], [10], [(.slot 17)]⟩ :: ⟨[10], [], [11], [(.slot 18)]⟩ :: ⟨[11, 2], [], [12], [(.slot 19)]⟩ :: ⟨[11, 12], [], [13], [(.slot 20)]⟩ :: ⟨[11, 13], [], [14], [(.slot 21)]⟩ :: ⟨[11, 14], [], [15], [(.slot 22)]⟩ :: ⟨[15], [], [16], [(.slot 23)]⟩ :: ⟨[16], [], [17], [(.slot 24)]⟩ :: ⟨[16], [], [18], [(.slot 25)]⟩ :: ⟨[16], [], [19], [(.slot 26)]⟩ :: [])) (es' := [(_, _), (_, _), (_, _), (26, .v (.bool true))]) (by kernel_rfl) rfl rfl
      ⟨st_plain rfl (op_fieldAddr _ _ _ _ 2 0 _ Tryd.underlying23 rfl sz9 rfl rfl (by decide)),
      st_plain rfl (op_load _ _ _ _ _ _ Tryd.underlying9 rfl rfl rfl (Nat.le_of_ble_eq_true rfl) rfl rfl rfl),
      st_plain rfl (op_len_str _ _ _ Tryd.underlying9 rfl),
      st_plain rfl (op_fieldAddr _ _ _ _ 2 0 _ Tryd.underlying23 rfl sz9 rfl rfl (by decide)),
      st_plain rfl (op_load _ _ _ _ _ _ Tryd.underlying9 rfl rfl rfl (Nat.le_of_ble_eq_true rfl) rfl rfl rfl),
      st_plain rfl (op_len_str _ _ _ Tryd.underlying9 rfl),
      st_plain rfl (op_bin _ _ _ _ _ rfl rfl (ibind (f := Value.int .i64) (Option.some.inj hv1))),
      st_plain rfl (op_bin _ _ _ _ _ rfl rfl rfl),
      st_plain rfl (op_move _ _ _ _ (congrArg (fun b => AV.v (Value.bool b)) hg1_8) rfl),
      st_run 8 18 false rfl rfl rfl (List.Mem.head _) (op_loadA _ _ _ _ _ _ _ Tryd.underlying23 rfl sz23 rfl rfl (Nat.le_of_ble_eq_true rfl) rfl rfl),
      st_run 8 18 false rfl rfl rfl (List.Mem.head _) (op_call _ _ 12 _ _ rfl Tryd.call12 rfl (ok_wherryref11_Path p _ hv2) rfl rfl),
      st_run 8 18 false rfl rfl rfl (List.Mem.head _) (op_un _ _ _ _ rfl rfl),
      st_plain rfl (op_pick _ _ false _ rfl rfl),
      st_plain rfl (op_move _ _ _ _ (congrArg (fun b => AV.v (Value.bool b)) hg1_13) rfl),
      st_skip 13 23 _ false rfl rfl rfl rfl (List.Mem.head _),
      st_skip 13 23 _ false rfl rfl rfl rfl (List.Mem.head _),
      st_plain rfl (op_pick _ _ true _ rfl rfl),
      trivial⟩ ?_
     exact hl5 _ (Option.some.inj h).symm
    ·refine ht_seqR hn (El := (_ :: _ :: _ :: (10, .ptr 2 1) :: (11, .v (.string p.Local)) :: (12, .v (.int .i64 (p.Local.size : Int))) :: (13, .ptr 2 2) :: (14, .v (.string p.Domain)) :: (15, .v (.int .i64 (p.Domain.size : Int))) :: (16, .v (.int .i64 v1)) :: (17, .v (.bool ((decide (1000 < v1))))) :: (18, .v (.bool false)) :: (19, .agg [.v (.bool p.Null), .v (.string p.Local), .v (.string p.Domain)]) :: (20, .v (.bool v2)) :: (21, .v (.bool (!v2))) :: (22, .v (.bool (!v2))) :: (23, .v (.bool false)) :: (24, .ptr 2 0) :: (25, .v (.bool p.Null)) :: (26, .v (.bool p.Null)) :: [])) (init := [0, 1, 2]) (fin := [0, 1, 2, 19]) (sps := (⟨[2], [], [3], [(.slot 10)]⟩ :: ⟨[3, 2], [], [4], [(.slot 11)]⟩ :: ⟨[4], [], [5], [(.slot 12)]⟩ :: ⟨[2], [], [6], [(.slot 13)]⟩ :: ⟨[6, 2], [], [7], [(.slot 14)]⟩ :: ⟨[7], [], [8], [(.slot 15)]⟩ :: ⟨[5, 8], [], [9], [(.slot 16)]⟩ :: ⟨[9], [], [10], [(.slot 17)]⟩ :: ⟨[10], [], [11], [(.slot 18)]⟩ :: ⟨[11, 2], [], [12], [(.slot 19)]⟩ :: ⟨[11, 12], [], [13], [(.slot 20)]⟩ :: ⟨[11, 13], [], [14], [(.slot 21)]⟩ :: ⟨[11, 14], [], [15], [(.slot 22)]⟩ :: ⟨[15], [], [16], [(.slot 23)]⟩ :: ⟨[16, 2], [], [17], [(.slot 24)]⟩ :: ⟨[16, 17, 2], [], [18], [(.slot 25)]⟩ :: ⟨[16, 18], [], [19], [(.slot 26)]⟩ :: [])) (es' := [(_, _), (_, _), (_, _), (26, .v (.bool p.Null))]) (by kernel_rfl) rfl rfl
      ⟨st_plain rfl (op_fieldAddr _ _ _ _ 2 0 _ Tryd.underlying23 rfl sz9 rfl rfl (by decide)),
      st_plain rfl (op_load _ _ _ _ _ _ Tryd.underlying9 rfl rfl rfl (Nat.le_of_ble_eq_true rfl) rfl rfl rfl),
      st_plain rfl (op_len_str _ _ _ Tryd.underlying9 rfl),
      st_plain rfl (op_fieldAddr _ _ _ _ 2 0 _ Tryd.underlying23 rfl sz9 rfl rfl (by decide)),
      st_plain rfl (op_load _ _ _ _ _ _ Tryd.underlying9 rfl rfl rfl (Nat.le_of_ble_eq_true rfl) rfl rfl rfl),
      st_plain rfl (op_len_str _ _ _ Tryd.underlying9 rfl),
      st_plain rfl (op_bin _ _ _ _ _ rfl rfl (ibind (f := Value.int .i64) (Option.some.inj hv1))),
      st_plain rfl (op_bin _ _ _ _ _ rfl rfl rfl),
      st_plain rfl (op_move _ _ _ _ (congrArg (fun b => AV.v (Value.bool b)) hg1_8) rfl),
      st_run 8 18 false rfl rfl rfl (List.Mem.head _) (op_loadA _ _ _ _ _ _ _ Tryd.underlying23 rfl sz23 rfl rfl (Nat.le_of_ble_eq_true rfl) rfl rfl),
      st_run 8 18 false rfl rfl rfl (List.Mem.head _) (op_call _ _ 12 _ _ rfl Tryd.call12 rfl (ok_wherryref11_Path p _ hv2) rfl rfl),
      st_run 8 18 false rfl rfl rfl (List.Mem.head _) (op_un _ _ _ _ rfl rfl),
      st_plain rfl (op_pick _ _ false _ rfl rfl),
      st_plain rfl (op_move _ _ _ _ (congrArg (fun b => AV.v (Value.bool b)) hg1_13) rfl),
      st_run 13 23 false rfl rfl rfl (List.Mem.head _) (op_fieldAddr _ _ _ _ 2 0 _ Tryd.underlying23 rfl sz4 rfl rfl (by decide)),
      st_run 13 23 false rfl rfl rfl (List.Mem.head _) (op_load _ _ _ _ _ _ Tryd.underlying4 rfl rfl rfl (Nat.le_of_ble_eq_true rfl) rfl rfl rfl),
      st_plain rfl (op_pick _ _ false _ rfl rfl),
      trivial⟩ ?_
     exact hl5 _ (Option.some.inj h).symm

end Go.Proofs.YtpmngahekkagpaaDoor
