/-
  The model's runs are what is told in Lean.
-/
import Derived.Test.YthfmdofkkkpbkaaDoorProg
import Derived.KernelRfl
import Derived.Test.YthfmdofkkkpbkaaDoorShelf
import Derived.Test.YthfmdofkkkpbkaaDoorOkc4
set_option linter.unusedVariables false
set_option linter.unusedSimpArgs false
namespace Go.Proofs.YthfmdofkkkpbkaaDoor
open Go.Abs Go.Abs.Sh

set_option maxHeartbeats 1000000 in
theorem ok_wherrylaw12_VerbFolds (mx : Int) (s : ByteArray) (flips : (List Bool)) (bad : Int) (at_ : Int) (r : Bool) (h : Sh.wherrylaw12_VerbFolds s flips bad at_ = some r) : FnG Tryd.prog (GL mx) 4 [.v (.string s), .fl .shr 1 (List.map Value.bool flips), .v (.int .u8 bad), .v (.int .i64 at_)] (.v (.bool r)) := by
  unfold Sh.wherrylaw12_VerbFolds at h
  refine fn_okG Tryd.func4 rfl (Nat.le_of_ble_eq_true rfl) rfl rfl fun g0 hn hio => ?_
  refine ht_seq ?_
  refine ht_seqR hn (El := [_, _, _, _, _, (8, .v (.bool false))]) (init := [0, 1, 2, 3, 4]) (fin := [0, 1, 2, 3, 4]) (sps := [⟨[], [], [5], [(.slot 8)]⟩]) (es' := [(_, _), (_, _), (_, _), (_, _), (_, _)]) (by kernel_rfl) rfl rfl
   ⟨st_plain rfl (op_assign _ _ _ _ rfl rfl),
   trivial⟩ ?_
  refine pt_then ?_
  refine ht_seq ?_
  refine ht_seq ?_
  refine ht_seqR hn (El := [_, _, _, _, _, (20, .v (.string s)), (21, .v (.int .i64 (s.size : Int))), (22, .v (.bool ((decide (400 < (s.size : Int))))))]) (init := [0, 1, 2, 3, 4]) (fin := [0, 1, 2, 3, 4, 7]) (sps := [⟨[0], [], [5], [(.slot 20)]⟩, ⟨[5], [], [6], [(.slot 21)]⟩, ⟨[6], [], [7], [(.slot 22)]⟩]) (es' := [(_, _), (_, _), (_, _), (_, _), (_, _), (22, .v (.bool ((decide (400 < (s.size : Int))))))]) (by kernel_rfl) rfl rfl
   ⟨st_plain rfl (op_move _ _ _ _ rfl rfl),
   st_plain rfl (op_len_str _ _ _ Tryd.underlying9 rfl),
   st_plain rfl (op_bin _ _ _ _ _ rfl rfl rfl),
   trivial⟩ ?_
  refine pt_then ?_
  refine ht_cond _ rfl (fun hb1 => ?_) (fun hb1 => ?_)
  ·have h := cond_t hb1 h
   refine ht_seq ?_
   refine ht_seqR hn (El := [_, _, _, _, _, _, (8, .v (.bool true))]) (init := [0, 1, 2, 3, 4, 5]) (fin := [4, 6]) (sps := [⟨[], [], [6], [(.slot 8)]⟩]) (es' := [(_, _), (8, .v (.bool true))]) (by kernel_rfl) rfl rfl
    ⟨st_plain rfl (op_assign _ _ _ _ rfl rfl),
    trivial⟩ ?_
   refine pt_then ?_
   refine ht_ret ?_
   refine pt_pick [1] (by kernel_rfl) (es' := [(_, _)]) rfl ?_
   refine pt_r_then ?_
   obtain rfl := Option.some.inj h
   exact pt_ret hio rfl (.tmp _ _ .nil) rfl rfl
  ·have h := cond_f hb1 h
   refine ht_skip ?_
   refine pt_then ?_
   refine ht_seq ?_
   obtain ⟨v2, hv2, h⟩ := bind_some h
   refine ht_seqR hn (El := [_, _, _, _, _, _, (24, .v (.string s)), (25, .tup [.agg [.v (.int .i64 v2.1.Kind), .v (.string v2.1.Text), .v (.bool v2.1.Path.Null), .v (.string v2.1.Path.Local), .v (.string v2.1.Path.Domain), .fl .ro 2 (List.flatten (List.map T_Param.enc v2.1.Params))], .v (.int .i64 v2.2)]), (23, .tup [.agg [.v (.int .i64 v2.1.Kind), .v (.string v2.1.Text), .v (.bool v2.1.Path.Null), .v (.string v2.1.Path.Local), .v (.string v2.1.Path.Domain), .fl .ro 2 (List.flatten (List.map T_Param.enc v2.1.Params))], .v (.int .i64 v2.2)]), (26, .agg [.v (.int .i64 v2.1.Kind), .v (.string v2.1.Text), .v (.bool v2.1.Path.Null), .v (.string v2.1.Path.Local), .v (.string v2.1.Path.Domain), .fl .ro 2 (List.flatten (List.map T_Param.enc v2.1.Params))]), (27, .v (.int .i64 v2.2)), (9, .box 26 [.v (.int .i64 0), .v (.string (⟨#[]⟩ : ByteArray)), .v (.bool false), .v (.string (⟨#[]⟩ : ByteArray)), .v (.string (⟨#[]⟩ : ByteArray)), .v (.slice none 0 0)]), (9, .box 26 [.v (.int .i64 v2.1.Kind), .v (.string v2.1.Text), .v (.bool v2.1.Path.Null), .v (.string v2.1.Path.Local), .v (.string v2.1.Path.Domain), .fl .ro 2 (List.flatten (List.map T_Param.enc v2.1.Params))]), (10, .v (.int .i64 v2.2))]) (init := [0, 1, 2, 3, 4, 5]) (fin := [0, 1, 2, 3, 4, 12, 13]) (sps := [⟨[0], [], [6], [(.slot 24)]⟩, ⟨[6, 4], [], [7], [(.slot 25)]⟩, ⟨[], [7], [8], [(.slot 23)]⟩, ⟨[8], [], [9], [(.slot 26)]⟩, ⟨[8], [], [10], [(.slot 27)]⟩, ⟨[], [], [11], [(.slot 9)]⟩, ⟨[9], [11], [12], [.cell 9 0, .cell 9 1, .cell 9 2, .cell 9 3, .cell 9 4, .cell 9 5]⟩, ⟨[10], [], [13], [(.slot 10)]⟩]) (es' := [(_, _), (_, _), (_, _), (_, _), (_, _), (9, .box 26 [.v (.int .i64 v2.1.Kind), .v (.string v2.1.Text), .v (.bool v2.1.Path.Null), .v (.string v2.1.Path.Local), .v (.string v2.1.Path.Domain), .fl .ro 2 (List.flatten (List.map T_Param.enc v2.1.Params))]), (10, .v (.int .i64 v2.2))]) (by kernel_rfl) rfl rfl
    ⟨st_plain rfl (op_move _ _ _ _ rfl rfl),
    st_plain rfl (op_callG _ _ 149 10 _ _ rfl Tryd.call10 rfl rfl (fun _ h => h) (ok_verb_Parse mx s _ hv2) rfl rfl),
    st_plain rfl (op_move_take _ _ _ _ rfl),
    st_plain rfl (op_extract_no _ _ _ _ _ _ rfl rfl (Nat.le_of_ble_eq_true rfl) rfl rfl),
    st_plain rfl (op_extract _ _ _ _ _ rfl rfl (Nat.le_of_ble_eq_true rfl) rfl rfl),
    st_plain rfl (op_alloc _ _ zr26),
    st_plain rfl (op_store _ _ _ _ _ _ _ _ sz26 rfl rfl rfl rfl (Nat.le_of_ble_eq_true rfl) rfl rfl),
    st_plain rfl (op_assign _ _ _ _ rfl rfl),
    trivial⟩ ?_
   refine pt_then ?_
   refine ht_seq ?_
   obtain ⟨v3, hv3, h⟩ := bind_some h
   refine ht_seqR hn (El := [_, _, _, _, _, _, _, (28, .v (.string s)), (29, .mkr 5 (List.map (Value.int .u8) v3)), (11, .mkr 5 (List.map (Value.int .u8) v3))]) (init := [0, 1, 2, 3, 4, 5, 6]) (fin := [0, 1, 2, 3, 4, 5, 6, 9]) (sps := [⟨[0], [], [7], [(.slot 28)]⟩, ⟨[7], [], [8], [(.slot 29)]⟩, ⟨[], [8], [9], [(.slot 11)]⟩]) (es' := [(_, _), (_, _), (_, _), (_, _), (_, _), (_, _), (_, _), (11, .mkr 5 (List.map (Value.int .u8) v3))]) (by kernel_rfl) rfl rfl
    ⟨st_plain rfl (op_move _ _ _ _ rfl rfl),
    st_plain rfl ((Option.some.inj hv3) ▸ op_str_mk _ _ _ s Tryd.underlying9 Tryd.underlying37 Tryd.underlying5 rfl),
    st_plain rfl (op_assign_take _ _ _ _ rfl),
    trivial⟩ ?_
   refine pt_then ?_
   refine ht_seq ?_
   refine ht_seq ?_
   refine ht_seqR hn (El := [_, _, _, _, _, _, _, _, (12, .v (.int .i64 0))]) (init := [0, 1, 2, 3, 4, 5, 6, 7]) (fin := [0, 1, 2, 3, 4, 5, 6, 7, 8]) (sps := [⟨[], [], [8], [(.slot 12)]⟩]) (es' := [(_, _), (_, _), (_, _), (_, _), (_, _), (_, _), (_, _), (_, _), (12, .v (.int .i64 0))]) (by kernel_rfl) rfl rfl
    ⟨st_plain rfl (op_assign _ _ _ _ rfl rfl),
    trivial⟩ ?_
   refine pt_then ?_
   refine ht_loopS h (fun ((s64, s65) : (List Int) × Int) => [(0, .v (.string s)), (1, .fl .shr 1 (List.map Value.bool flips)), (2, .v (.int .u8 bad)), (3, .v (.int .i64 at_)), (149, .glob (GL mx)), (9, .box 26 [.v (.int .i64 v2.1.Kind), .v (.string v2.1.Text), .v (.bool v2.1.Path.Null), .v (.string v2.1.Path.Local), .v (.string v2.1.Path.Domain), .fl .ro 2 (List.flatten (List.map T_Param.enc v2.1.Params))]), (10, .v (.int .i64 v2.2)), (11, .mkr 5 (List.map (Value.int .u8) s64)), (12, .v (.int .i64 s65))]) (fun (s85 : (List Int)) => [(0, .v (.string s)), (2, .v (.int .u8 bad)), (3, .v (.int .i64 at_)), (149, .glob (GL mx)), (9, .box 26 [.v (.int .i64 v2.1.Kind), .v (.string v2.1.Text), .v (.bool v2.1.Path.Null), .v (.string v2.1.Path.Local), .v (.string v2.1.Path.Domain), .fl .ro 2 (List.flatten (List.map T_Param.enc v2.1.Params))]), (10, .v (.int .i64 v2.2)), (11, .mkr 5 (List.map (Value.int .u8) s85))]) ?_ ?_
   ·rintro s85 h
    refine pt_then ?_
    refine ht_seq ?_
    obtain ⟨v111, hv111, h⟩ := bind_some h
    obtain ⟨v112, hv112, h⟩ := bind_some h
    refine ht_seqR hn (El := (_ :: _ :: _ :: _ :: _ :: _ :: _ :: (87, .mkr 5 (List.map (Value.int .u8) s85)) :: (88, .v (.string v111)) :: (89, .tup [.agg [.v (.int .i64 v112.1.Kind), .v (.string v112.1.Text), .v (.bool v112.1.Path.Null), .v (.string v112.1.Path.Local), .v (.string v112.1.Path.Domain), .fl .ro 2 (List.flatten (List.map T_Param.enc v112.1.Params))], .v (.int .i64 v112.2)]) :: (86, .tup [.agg [.v (.int .i64 v112.1.Kind), .v (.string v112.1.Text), .v (.bool v112.1.Path.Null), .v (.string v112.1.Path.Local), .v (.string v112.1.Path.Domain), .fl .ro 2 (List.flatten (List.map T_Param.enc v112.1.Params))], .v (.int .i64 v112.2)]) :: (90, .agg [.v (.int .i64 v112.1.Kind), .v (.string v112.1.Text), .v (.bool v112.1.Path.Null), .v (.string v112.1.Path.Local), .v (.string v112.1.Path.Domain), .fl .ro 2 (List.flatten (List.map T_Param.enc v112.1.Params))]) :: (91, .v (.int .i64 v112.2)) :: (13, .box 26 [.v (.int .i64 0), .v (.string (⟨#[]⟩ : ByteArray)), .v (.bool false), .v (.string (⟨#[]⟩ : ByteArray)), .v (.string (⟨#[]⟩ : ByteArray)), .v (.slice none 0 0)]) :: (13, .box 26 [.v (.int .i64 v112.1.Kind), .v (.string v112.1.Text), .v (.bool v112.1.Path.Null), .v (.string v112.1.Path.Local), .v (.string v112.1.Path.Domain), .fl .ro 2 (List.flatten (List.map T_Param.enc v112.1.Params))]) :: (14, .v (.int .i64 v112.2)) :: [])) (init := [0, 1, 2, 3, 4, 5, 6]) (fin := [0, 1, 2, 3, 4, 5, 14, 15]) (sps := [⟨[], [6], [7], [(.slot 87)]⟩, ⟨[7], [], [8], [(.slot 88)]⟩, ⟨[8, 3], [], [9], [(.slot 89)]⟩, ⟨[], [9], [10], [(.slot 86)]⟩, ⟨[10], [], [11], [(.slot 90)]⟩, ⟨[10], [], [12], [(.slot 91)]⟩, ⟨[], [], [13], [(.slot 13)]⟩, ⟨[11], [13], [14], [.cell 13 0, .cell 13 1, .cell 13 2, .cell 13 3, .cell 13 4, .cell 13 5]⟩, ⟨[12], [], [15], [(.slot 14)]⟩]) (es' := [(_, _), (_, _), (_, _), (_, _), (_, _), (_, _), (13, .box 26 [.v (.int .i64 v112.1.Kind), .v (.string v112.1.Text), .v (.bool v112.1.Path.Null), .v (.string v112.1.Path.Local), .v (.string v112.1.Path.Domain), .fl .ro 2 (List.flatten (List.map T_Param.enc v112.1.Params))]), (14, .v (.int .i64 v112.2))]) (by kernel_rfl) rfl rfl
     ⟨st_plain rfl (op_move_take _ _ _ _ rfl),
     st_plain rfl ((Option.some.inj hv111) ▸ op_mk_str _ _ _ s85 Tryd.underlying37 Tryd.underlying9 Tryd.underlying5 rfl),
     st_plain rfl (op_callG _ _ 149 10 _ _ rfl Tryd.call10 rfl rfl (fun _ h => h) (ok_verb_Parse mx v111 _ hv112) rfl rfl),
     st_plain rfl (op_move_take _ _ _ _ rfl),
     st_plain rfl (op_extract_no _ _ _ _ _ _ rfl rfl (Nat.le_of_ble_eq_true rfl) rfl rfl),
     st_plain rfl (op_extract _ _ _ _ _ rfl rfl (Nat.le_of_ble_eq_true rfl) rfl rfl),
     st_plain rfl (op_alloc _ _ zr26),
     st_plain rfl (op_store _ _ _ _ _ _ _ _ sz26 rfl rfl rfl rfl (Nat.le_of_ble_eq_true rfl) rfl rfl),
     st_plain rfl (op_assign _ _ _ _ rfl rfl),
     trivial⟩ ?_
    refine pt_then ?_
    refine ht_seq ?_
    refine ht_seq ?_
    refine ht_joinS h (fun (s114 : Bool) => [(0, .v (.string s)), (2, .v (.int .u8 bad)), (3, .v (.int .i64 at_)), (149, .glob (GL mx)), (100, .v (.bool s114))]) ?_ ?_
    ·rintro s114 h
     refine pt_then ?_
     refine ht_cond _ rfl (fun hb118 => ?_) (fun hb118 => ?_)
     ·have h := cond_t hb118 h
      refine ht_seq ?_
      refine ht_seqR hn (El := [_, _, _, _, _, (8, .v (.bool false))]) (init := [0, 1, 2, 3, 4]) (fin := [3, 5]) (sps := [⟨[], [], [5], [(.slot 8)]⟩]) (es' := [(_, _), (8, .v (.bool false))]) (by kernel_rfl) rfl rfl
       ⟨st_plain rfl (op_assign _ _ _ _ rfl rfl),
       trivial⟩ ?_
      refine pt_then ?_
      refine ht_ret ?_
      refine pt_pick [1] (by kernel_rfl) (es' := [(_, _)]) rfl ?_
      refine pt_r_then ?_
      obtain rfl := Option.some.inj h
      exact pt_ret hio rfl (.tmp _ _ .nil) rfl rfl
     ·have h := cond_f hb118 h
      refine ht_skip ?_
      refine pt_then ?_
      refine ht_seq ?_
      refine ht_seqR hn (El := [_, _, _, _, _, (101, .v (.string s)), (15, .v (.string s))]) (init := [0, 1, 2, 3, 4]) (fin := [0, 1, 2, 3, 6]) (sps := [⟨[0], [], [5], [(.slot 101)]⟩, ⟨[5], [], [6], [(.slot 15)]⟩]) (es' := [(_, _), (_, _), (_, _), (_, _), (15, .v (.string s))]) (by kernel_rfl) rfl rfl
       ⟨st_plain rfl (op_move _ _ _ _ rfl rfl),
       st_plain rfl (op_assign _ _ _ _ rfl rfl),
       trivial⟩ ?_
      refine pt_then ?_
      refine ht_seq ?_
      refine ht_loopS h (fun (s123 : ByteArray) => [(0, .v (.string s)), (2, .v (.int .u8 bad)), (3, .v (.int .i64 at_)), (149, .glob (GL mx)), (15, .v (.string s123))]) (fun (s125 : ByteArray) => [(0, .v (.string s)), (2, .v (.int .u8 bad)), (3, .v (.int .i64 at_)), (149, .glob (GL mx)), (15, .v (.string s125))]) ?_ ?_
      ·rintro s125 h
       refine pt_then ?_
       refine ht_seq ?_
       obtain ⟨v133, hv133, h⟩ := bind_some h
       refine ht_seqR hn (El := [_, _, _, _, _, (108, .v (.string s125)), (109, .tup [.agg [.v (.int .i64 v133.1.Kind), .v (.string v133.1.Text), .v (.bool v133.1.Path.Null), .v (.string v133.1.Path.Local), .v (.string v133.1.Path.Domain), .fl .ro 2 (List.flatten (List.map T_Param.enc v133.1.Params))], .v (.int .i64 v133.2)]), (107, .tup [.agg [.v (.int .i64 v133.1.Kind), .v (.string v133.1.Text), .v (.bool v133.1.Path.Null), .v (.string v133.1.Path.Local), .v (.string v133.1.Path.Domain), .fl .ro 2 (List.flatten (List.map T_Param.enc v133.1.Params))], .v (.int .i64 v133.2)]), (110, .agg [.v (.int .i64 v133.1.Kind), .v (.string v133.1.Text), .v (.bool v133.1.Path.Null), .v (.string v133.1.Path.Local), .v (.string v133.1.Path.Domain), .fl .ro 2 (List.flatten (List.map T_Param.enc v133.1.Params))]), (111, .v (.int .i64 v133.2)), (16, .box 26 [.v (.int .i64 0), .v (.string (⟨#[]⟩ : ByteArray)), .v (.bool false), .v (.string (⟨#[]⟩ : ByteArray)), .v (.string (⟨#[]⟩ : ByteArray)), .v (.slice none 0 0)]), (16, .box 26 [.v (.int .i64 v133.1.Kind), .v (.string v133.1.Text), .v (.bool v133.1.Path.Null), .v (.string v133.1.Path.Local), .v (.string v133.1.Path.Domain), .fl .ro 2 (List.flatten (List.map T_Param.enc v133.1.Params))]), (17, .v (.int .i64 v133.2))]) (init := [0, 1, 2, 3, 4]) (fin := [0, 1, 2, 3, 12]) (sps := [⟨[4], [], [5], [(.slot 108)]⟩, ⟨[5, 3], [], [6], [(.slot 109)]⟩, ⟨[], [6], [7], [(.slot 107)]⟩, ⟨[7], [], [8], [(.slot 110)]⟩, ⟨[7], [], [9], [(.slot 111)]⟩, ⟨[], [], [10], [(.slot 16)]⟩, ⟨[8], [10], [11], [.cell 16 0, .cell 16 1, .cell 16 2, .cell 16 3, .cell 16 4, .cell 16 5]⟩, ⟨[9], [], [12], [(.slot 17)]⟩]) (es' := [(_, _), (_, _), (_, _), (_, _), (17, .v (.int .i64 v133.2))]) (by kernel_rfl) rfl rfl
        ⟨st_plain rfl (op_move _ _ _ _ rfl rfl),
        st_plain rfl (op_callG _ _ 149 10 _ _ rfl Tryd.call10 rfl rfl (fun _ h => h) (ok_verb_Parse mx s125 _ hv133) rfl rfl),
        st_plain rfl (op_move_take _ _ _ _ rfl),
        st_plain rfl (op_extract_no _ _ _ _ _ _ rfl rfl (Nat.le_of_ble_eq_true rfl) rfl rfl),
        st_plain rfl (op_extract _ _ _ _ _ rfl rfl (Nat.le_of_ble_eq_true rfl) rfl rfl),
        st_plain rfl (op_alloc _ _ zr26),
        st_plain rfl (op_store _ _ _ _ _ _ _ _ sz26 rfl rfl rfl rfl (Nat.le_of_ble_eq_true rfl) rfl rfl),
        st_plain rfl (op_assign _ _ _ _ rfl rfl),
        trivial⟩ ?_
       refine pt_then ?_
       refine ht_seq ?_
       refine ht_seq ?_
       refine ht_seqR hn (El := [_, _, _, _, _, (112, .v (.int .i64 v133.2)), (113, .v (.bool (v133.2 != 500)))]) (init := [0, 1, 2, 3, 4]) (fin := [0, 1, 2, 3, 6]) (sps := [⟨[4], [], [5], [(.slot 112)]⟩, ⟨[5], [], [6], [(.slot 113)]⟩]) (es' := [(_, _), (_, _), (_, _), (_, _), (113, .v (.bool (v133.2 != 500)))]) (by kernel_rfl) rfl rfl
        ⟨st_plain rfl (op_move _ _ _ _ rfl rfl),
        st_plain rfl (op_bin _ _ _ _ _ rfl rfl rfl),
        trivial⟩ ?_
       refine pt_then ?_
       refine ht_cond _ rfl (fun hb134 => ?_) (fun hb134 => ?_)
       ·have h := cond_t hb134 h
        refine ht_seq ?_
        refine ht_seqR hn (El := [_, _, _, _, _, (8, .v (.bool false))]) (init := [0, 1, 2, 3, 4]) (fin := [3, 5]) (sps := [⟨[], [], [5], [(.slot 8)]⟩]) (es' := [(_, _), (8, .v (.bool false))]) (by kernel_rfl) rfl rfl
         ⟨st_plain rfl (op_assign _ _ _ _ rfl rfl),
         trivial⟩ ?_
        refine pt_then ?_
        refine ht_ret ?_
        refine pt_pick [1] (by kernel_rfl) (es' := [(_, _)]) rfl ?_
        refine pt_r_then ?_
        obtain rfl := Option.some.inj h
        exact pt_ret hio rfl (.tmp _ _ .nil) rfl rfl
       ·have h := cond_f hb134 h
        refine ht_skip ?_
        refine pt_then ?_
        refine ht_seq ?_
        refine ht_seq ?_
        refine ht_joinS h (fun (s135 : Bool) => [(0, .v (.string s)), (2, .v (.int .u8 bad)), (3, .v (.int .i64 at_)), (149, .glob (GL mx)), (119, .v (.bool s135))]) ?_ ?_
        ·rintro s135 h
         refine pt_then ?_
         refine ht_cond _ rfl (fun hb139 => ?_) (fun hb139 => ?_)
         ·have h := cond_t hb139 h
          refine ht_seq ?_
          obtain ⟨v140, hv140, h⟩ := bind_some h
          refine ht_seqR hn (El := [_, _, _, _, _, (120, .v (.bool v140)), (8, .v (.bool v140))]) (init := [0, 1, 2, 3, 4]) (fin := [3, 6]) (sps := [⟨[3], [], [5], [(.slot 120)]⟩, ⟨[5], [], [6], [(.slot 8)]⟩]) (es' := [(_, _), (8, .v (.bool v140))]) (by kernel_rfl) rfl rfl
           ⟨st_plain rfl (op_callG _ _ 149 12 _ _ rfl Tryd.call12 rfl rfl (fun _ h => h) (ok_wherrylaw12_wakes mx  _ hv140) rfl rfl),
           st_plain rfl (op_assign _ _ _ _ rfl rfl),
           trivial⟩ ?_
          refine pt_then ?_
          refine ht_ret ?_
          refine pt_pick [1] (by kernel_rfl) (es' := [(_, _)]) rfl ?_
          refine pt_r_then ?_
          obtain rfl := Option.some.inj h
          exact pt_ret hio rfl (.tmp _ _ .nil) rfl rfl
         ·have h := cond_f hb139 h
          refine ht_skip ?_
          refine pt_then ?_
          refine ht_seq ?_
          obtain ⟨v141, hv141, h⟩ := bind_some h
          obtain ⟨v142, hv142, h⟩ := bind_some h
          obtain ⟨v143, hv143, h⟩ := bind_some h
          obtain ⟨v144, hv144, h⟩ := bind_some h
          obtain ⟨v145, hv145, h⟩ := bind_some h
          refine ht_seqR hn (El := [_, _, _, _, _, (121, .v (.int .i64 at_)), (122, .v (.int .u64 v141)), (123, .v (.string s)), (124, .v (.int .i64 (s.size : Int))), (125, .v (.int .i64 v142)), (126, .v (.int .u64 v143)), (127, .v (.int .u64 v144)), (128, .v (.int .i64 v145)), (3, .v (.int .i64 v145))]) (init := [0, 1, 2, 3, 4]) (fin := [0, 1, 3, 13]) (sps := [⟨[2], [], [5], [(.slot 121)]⟩, ⟨[5], [], [6], [(.slot 122)]⟩, ⟨[0], [], [7], [(.slot 123)]⟩, ⟨[7], [], [8], [(.slot 124)]⟩, ⟨[8], [], [9], [(.slot 125)]⟩, ⟨[9], [], [10], [(.slot 126)]⟩, ⟨[6, 10], [], [11], [(.slot 127)]⟩, ⟨[11], [], [12], [(.slot 128)]⟩, ⟨[12], [2], [13], [(.slot 3)]⟩]) (es' := [(_, _), (_, _), (_, _), (3, .v (.int .i64 v145))]) (by kernel_rfl) rfl rfl
           ⟨st_plain rfl (op_move _ _ _ _ rfl rfl),
           st_plain rfl ((Option.some.inj hv141) ▸ op_conv _ _ _ Tryd.underlying3 Tryd.underlying38 rfl),
           st_plain rfl (op_move _ _ _ _ rfl rfl),
           st_plain rfl (op_len_str _ _ _ Tryd.underlying9 rfl),
           st_plain rfl (op_bin _ _ _ _ _ rfl rfl (ibind (f := Value.int .i64) (Option.some.inj hv142))),
           st_plain rfl ((Option.some.inj hv143) ▸ op_conv _ _ _ Tryd.underlying3 Tryd.underlying38 rfl),
           st_plain rfl (op_bin _ _ _ _ _ rfl rfl (rem_ok hv144)),
           st_plain rfl ((Option.some.inj hv145) ▸ op_conv _ _ _ Tryd.underlying38 Tryd.underlying3 rfl),
           st_plain rfl (LOp.drop [_] (op_assign _ _ _ _ rfl rfl)),
           trivial⟩ ?_
          refine pt_then ?_
          refine ht_seq ?_
          obtain ⟨v146, hv146, h⟩ := bind_some h
          obtain ⟨v147, hv147, h⟩ := bind_some h
          obtain ⟨v148, hv148, h⟩ := bind_some h
          obtain ⟨v149, hv149, h⟩ := bind_some h
          obtain ⟨v150, hv150, h⟩ := bind_some h
          obtain ⟨v151, hv151, h⟩ := bind_some h
          refine ht_anyR (by kernel_rfl) hn (El := (_ :: _ :: _ :: _ :: (130, .v (.string s)) :: (131, .v (.int .i64 v145)) :: (132, .v (.string v146)) :: (133, .v (.int .u8 bad)) :: (134, .fl (.own 5) 1 (List.map (Value.int .u8) [bad])) :: (135, .v (.string v147)) :: (136, .v (.string v148)) :: (137, .v (.string s)) :: (138, .v (.int .i64 v145)) :: (139, .v (.string v149)) :: (140, .v (.string v150)) :: (141, .tup [.agg [.v (.int .i64 v151.1.Kind), .v (.string v151.1.Text), .v (.bool v151.1.Path.Null), .v (.string v151.1.Path.Local), .v (.string v151.1.Path.Domain), .fl .ro 2 (List.flatten (List.map T_Param.enc v151.1.Params))], .v (.int .i64 v151.2)]) :: (129, .tup [.agg [.v (.int .i64 v151.1.Kind), .v (.string v151.1.Text), .v (.bool v151.1.Path.Null), .v (.string v151.1.Path.Local), .v (.string v151.1.Path.Domain), .fl .ro 2 (List.flatten (List.map T_Param.enc v151.1.Params))], .any]) :: (129, .tup [.any, .v (.int .i64 v151.2)]) :: (142, .agg [.v (.int .i64 v151.1.Kind), .v (.string v151.1.Text), .v (.bool v151.1.Path.Null), .v (.string v151.1.Path.Local), .v (.string v151.1.Path.Domain), .fl .ro 2 (List.flatten (List.map T_Param.enc v151.1.Params))]) :: (129, .tup [.any, .any]) :: (143, .v (.int .i64 v151.2)) :: (18, .box 26 [.v (.int .i64 0), .v (.string (⟨#[]⟩ : ByteArray)), .v (.bool false), .v (.string (⟨#[]⟩ : ByteArray)), .v (.string (⟨#[]⟩ : ByteArray)), .v (.slice none 0 0)]) :: (18, .box 26 [.v (.int .i64 v151.1.Kind), .v (.string v151.1.Text), .v (.bool v151.1.Path.Null), .v (.string v151.1.Path.Local), .v (.string v151.1.Path.Domain), .fl .ro 2 (List.flatten (List.map T_Param.enc v151.1.Params))]) :: (19, .v (.int .i64 v151.2)) :: [])) (init := [0, 1, 2, 3]) (fin := [2, 23]) (sps := (⟨[0], [], [4], [(.slot 130)]⟩ :: ⟨[3], [], [5], [(.slot 131)]⟩ :: ⟨[4, 5], [], [6], [(.slot 132)]⟩ :: ⟨[1], [], [7], [(.slot 133)]⟩ :: ⟨[7], [], [8], [(.slot 134)]⟩ :: ⟨[8], [], [9], [(.slot 135)]⟩ :: ⟨[6, 9], [], [10], [(.slot 136)]⟩ :: ⟨[0], [], [11], [(.slot 137)]⟩ :: ⟨[3], [], [12], [(.slot 138)]⟩ :: ⟨[11, 12], [], [13], [(.slot 139)]⟩ :: ⟨[10, 13], [], [14], [(.slot 140)]⟩ :: ⟨[14, 2], [], [15], [(.slot 141)]⟩ :: ⟨[], [15], [16, 17], [(.slot 129)]⟩ :: ⟨[], [16], [19, 18], [(.slot 142)]⟩ :: ⟨[17], [], [20], [(.slot 143)]⟩ :: ⟨[], [], [21], [(.slot 18)]⟩ :: ⟨[18], [21], [22], [.cell 18 0, .cell 18 1, .cell 18 2, .cell 18 3, .cell 18 4, .cell 18 5]⟩ :: ⟨[20], [], [23], [(.slot 19)]⟩ :: [])) (es' := [(_, _), (19, .v (.int .i64 v151.2))]) (by kernel_rfl) rfl rfl
           ⟨st_plain rfl (op_move _ _ _ _ rfl rfl),
           st_plain rfl (op_move _ _ _ _ rfl rfl),
           st_plain rfl (op_substr _ _ _ 0 v145 _ Tryd.underlying9 rfl rfl ⟨_, rfl⟩ hv146),
           st_plain rfl (op_move _ _ _ _ rfl rfl),
           st_plain rfl (op_buildSlice _ _ 1 (.int .u8 0) (List.map (Value.int .u8) [bad]) [(0, .int .u8 bad)] Tryd.underlying37 sz5 zr5 (fun _ V w o a hv hes => by have e0 := rd_v hv hes (x := .tmp 133) rfl; simp only [List.map_toArray, List.map_cons, List.map_nil, e0]; try rfl) (litfill (by simp [Instr.fill, Value.cells]; rfl) (by simp [List.range, List.range.loop] <;> rfl)) (by simp [Value.oneCell']) rfl (by decide) (by decide) (by decide)),
           st_plain rfl ((Option.some.inj hv147) ▸ op_bytes_str _ _ _ [bad] Tryd.underlying37 Tryd.underlying9 Tryd.underlying5 rfl),
           st_plain rfl (op_bin _ _ _ _ _ rfl rfl (cat_ok hv148)),
           st_plain rfl (op_move _ _ _ _ rfl rfl),
           st_plain rfl (op_move _ _ _ _ rfl rfl),
           st_plain rfl (op_substr _ _ _ v145 (s.size : Int) _ Tryd.underlying9 rfl ⟨_, rfl⟩ rfl hv149),
           st_plain rfl (op_bin _ _ _ _ _ rfl rfl (cat_ok hv150)),
           st_plain rfl (op_callG _ _ 149 10 _ _ rfl Tryd.call10 rfl rfl (fun _ h => h) (ok_verb_Parse mx v150 _ hv151) rfl rfl),
           st_plain rfl (LOp.split (A := []) 129 0 _ _ _ (op_move_take _ _ _ _ rfl) (Nat.le_of_ble_eq_true rfl) rfl rfl),
           st_plain rfl (op_extract_take _ _ _ _ _ rfl (Nat.le_of_ble_eq_true rfl) rfl rfl (by decide) rfl),
           st_plain rfl (op_extract _ _ _ _ _ rfl rfl (Nat.le_of_ble_eq_true rfl) rfl rfl),
           st_plain rfl (op_alloc _ _ zr26),
           st_plain rfl (op_store _ _ _ _ _ _ _ _ sz26 rfl rfl rfl rfl (Nat.le_of_ble_eq_true rfl) rfl rfl),
           st_plain rfl (op_assign _ _ _ _ rfl rfl),
           trivial⟩ ?_
          refine pt_then ?_
          refine ht_seq ?_
          refine ht_joinS h (fun (s153 : Bool) => [(149, .glob (GL mx)), (8, .v (.bool s153))]) ?_ ?_
          ·rintro s153 h
           refine pt_then ?_
           refine ht_ret ?_
           refine pt_pick [1] (by kernel_rfl) (es' := [(_, _)]) rfl ?_
           obtain rfl := Option.some.inj h
           exact pt_ret hio rfl (.tmp _ _ .nil) rfl rfl
          ·intro u154 h hl155 hr156
           refine cond_some h (fun hg23_2 h => ?_) (fun hg23_2 h => ?_)
           ·obtain ⟨v152, hv152, h⟩ := bind_some h
            refine ht_seqR hn (El := [_, _, (144, .v (.int .i64 v151.2)), (145, .v (.bool (v151.2 == 500))), (146, .v (.bool true)), (147, .v (.bool v152)), (148, .v (.bool v152)), (8, .v (.bool v152))]) (init := [0, 1]) (fin := [0, 7]) (sps := [⟨[1], [], [2], [(.slot 144)]⟩, ⟨[2], [], [3], [(.slot 145)]⟩, ⟨[3], [], [4], [(.slot 146)]⟩, ⟨[4, 0], [], [5], [(.slot 147)]⟩, ⟨[4, 5], [], [6], [(.slot 148)]⟩, ⟨[6], [], [7], [(.slot 8)]⟩]) (es' := [(_, _), (8, .v (.bool v152))]) (by kernel_rfl) rfl rfl
             ⟨st_plain rfl (op_move _ _ _ _ rfl rfl),
             st_plain rfl (op_bin _ _ _ _ _ rfl rfl rfl),
             st_plain rfl (op_move _ _ _ _ (congrArg (fun b => AV.v (Value.bool b)) hg23_2) rfl),
             st_run 2 146 true rfl rfl rfl (List.Mem.head _) (op_callG _ _ 149 12 _ _ rfl Tryd.call12 rfl rfl (fun _ h => h) (ok_wherrylaw12_wakes mx  _ hv152) rfl rfl),
             st_plain rfl (op_pick _ _ true _ rfl rfl),
             st_plain rfl (op_assign _ _ _ _ rfl rfl),
             trivial⟩ ?_
            exact hl155 _ (Option.some.inj h).symm
           ·refine ht_seqR hn (El := [_, _, (144, .v (.int .i64 v151.2)), (145, .v (.bool (v151.2 == 500))), (146, .v (.bool false)), (147, .v undef), (148, .v (.bool false)), (8, .v (.bool false))]) (init := [0, 1]) (fin := [0, 7]) (sps := [⟨[1], [], [2], [(.slot 144)]⟩, ⟨[2], [], [3], [(.slot 145)]⟩, ⟨[3], [], [4], [(.slot 146)]⟩, ⟨[4], [], [5], [(.slot 147)]⟩, ⟨[4], [], [6], [(.slot 148)]⟩, ⟨[6], [], [7], [(.slot 8)]⟩]) (es' := [(_, _), (8, .v (.bool false))]) (by kernel_rfl) rfl rfl
             ⟨st_plain rfl (op_move _ _ _ _ rfl rfl),
             st_plain rfl (op_bin _ _ _ _ _ rfl rfl rfl),
             st_plain rfl (op_move _ _ _ _ (congrArg (fun b => AV.v (Value.bool b)) hg23_2) rfl),
             st_skip 2 146 _ true rfl rfl rfl rfl (List.Mem.head _),
             st_plain rfl (op_pick _ _ false _ rfl rfl),
             st_plain rfl (op_assign _ _ _ _ rfl rfl),
             trivial⟩ ?_
            exact hl155 _ (Option.some.inj h).symm
        ·intro u136 h hl137 hr138
         refine cond_some h (fun hg19_2 h => ?_) (fun hg19_2 h => ?_)
         ·refine ht_seqR hn (El := [_, _, _, _, _, (114, .v (.int .u8 bad)), (115, .v (.bool ((decide (32 ≤ bad))))), (116, .v (.bool true)), (117, .v (.int .u8 bad)), (118, .v (.bool ((decide (bad ≤ 126))))), (119, .v (.bool ((decide (bad ≤ 126)))))]) (init := [0, 1, 2, 3, 4]) (fin := [0, 1, 2, 3, 10]) (sps := [⟨[1], [], [5], [(.slot 114)]⟩, ⟨[5], [], [6], [(.slot 115)]⟩, ⟨[6], [], [7], [(.slot 116)]⟩, ⟨[7, 1], [], [8], [(.slot 117)]⟩, ⟨[7, 8], [], [9], [(.slot 118)]⟩, ⟨[7, 9], [], [10], [(.slot 119)]⟩]) (es' := [(_, _), (_, _), (_, _), (_, _), (119, .v (.bool ((decide (bad ≤ 126)))))]) (by kernel_rfl) rfl rfl
           ⟨st_plain rfl (op_move _ _ _ _ rfl rfl),
           st_plain rfl (op_bin _ _ _ _ _ rfl rfl rfl),
           st_plain rfl (op_move _ _ _ _ (congrArg (fun b => AV.v (Value.bool b)) hg19_2) rfl),
           st_run 2 116 true rfl rfl rfl (List.Mem.head _) (op_move _ _ _ _ rfl rfl),
           st_run 2 116 true rfl rfl rfl (List.Mem.head _) (op_bin _ _ _ _ _ rfl rfl rfl),
           st_plain rfl (op_pick _ _ true _ rfl rfl),
           trivial⟩ ?_
          exact hl137 _ (Option.some.inj h).symm
         ·refine ht_seqR hn (El := [_, _, _, _, _, (114, .v (.int .u8 bad)), (115, .v (.bool ((decide (32 ≤ bad))))), (116, .v (.bool false)), (117, .v undef), (118, .v undef), (119, .v (.bool false))]) (init := [0, 1, 2, 3, 4]) (fin := [0, 1, 2, 3, 10]) (sps := [⟨[1], [], [5], [(.slot 114)]⟩, ⟨[5], [], [6], [(.slot 115)]⟩, ⟨[6], [], [7], [(.slot 116)]⟩, ⟨[7], [], [8], [(.slot 117)]⟩, ⟨[7], [], [9], [(.slot 118)]⟩, ⟨[7], [], [10], [(.slot 119)]⟩]) (es' := [(_, _), (_, _), (_, _), (_, _), (119, .v (.bool false))]) (by kernel_rfl) rfl rfl
           ⟨st_plain rfl (op_move _ _ _ _ rfl rfl),
           st_plain rfl (op_bin _ _ _ _ _ rfl rfl rfl),
           st_plain rfl (op_move _ _ _ _ (congrArg (fun b => AV.v (Value.bool b)) hg19_2) rfl),
           st_skip 2 116 _ true rfl rfl rfl rfl (List.Mem.head _),
           st_skip 2 116 _ true rfl rfl rfl rfl (List.Mem.head _),
           st_plain rfl (op_pick _ _ false _ rfl rfl),
           trivial⟩ ?_
          exact hl137 _ (Option.some.inj h).symm
      ·rintro u126 hl127 hr128 s123 rr131 h ho129
       refine ht_seq ?_
       refine ht_seq ?_
       refine ht_seqR hn (El := [_, _, _, _, _, (102, .v (.string s123)), (103, .v (.int .i64 (s123.size : Int))), (104, .v (.bool ((decide ((s123.size : Int) ≤ 510)))))]) (init := [0, 1, 2, 3, 4]) (fin := [0, 1, 2, 3, 4, 7]) (sps := [⟨[4], [], [5], [(.slot 102)]⟩, ⟨[5], [], [6], [(.slot 103)]⟩, ⟨[6], [], [7], [(.slot 104)]⟩]) (es' := [(_, _), (_, _), (_, _), (_, _), (_, _), (104, .v (.bool ((decide ((s123.size : Int) ≤ 510)))))]) (by kernel_rfl) rfl rfl
        ⟨st_plain rfl (op_move _ _ _ _ rfl rfl),
        st_plain rfl (op_len_str _ _ _ Tryd.underlying9 rfl),
        st_plain rfl (op_bin _ _ _ _ _ rfl rfl rfl),
        trivial⟩ ?_
       refine pt_then ?_
       refine ht_cond _ rfl (fun hb132 => ?_) (fun hb132 => ?_)
       ·have h := cond_t hb132 h
        refine ht_skip ?_
        refine pt_then ?_
        refine ht_block ?_
        obtain ⟨v120, hv120, h⟩ := bind_some h
        refine ht_seqR hn (El := [_, _, _, _, _, _, (105, .v (.string s123)), (106, .v (.string v120)), (15, .v (.string v120))]) (init := [0, 1, 2, 3, 4, 5]) (fin := [0, 1, 2, 3, 8]) (sps := [⟨[4], [], [6], [(.slot 105)]⟩, ⟨[6], [], [7], [(.slot 106)]⟩, ⟨[7], [4], [8], [(.slot 15)]⟩]) (es' := [(_, _), (_, _), (_, _), (_, _), (15, .v (.string v120))]) (by kernel_rfl) rfl rfl
         ⟨st_plain rfl (op_move _ _ _ _ rfl rfl),
         st_plain rfl (op_bin _ _ _ _ _ rfl rfl (cat_ok hv120)),
         st_plain rfl (LOp.drop [_] (op_assign _ _ _ _ rfl rfl)),
         trivial⟩ ?_
        refine pt_inb ?_
        exact pt_next _ (Option.some.inj h).symm rfl
       ·have h := cond_f hb132 h
        refine ht_exit ?_
        refine pt_x_then ?_
        refine pt_x_then ?_
        refine pt_x_in ?_
        refine pt_pick [0, 1, 2, 3, 4] (by kernel_rfl) (es' := [(_, _), (_, _), (_, _), (_, _), (_, _)]) rfl ?_
        exact hl127 _ (ho129 _ (Option.some.inj h).symm).symm
    ·intro u115 h hl116 hr117
     refine cond_some h (fun hg11_3 h => ?_) (fun hg11_3 h => ?_)
     ·refine ht_seqR hn (El := (_ :: _ :: _ :: _ :: _ :: _ :: _ :: _ :: (92, .v (.int .i64 v2.2)) :: (93, .v (.int .i64 v112.2)) :: (94, .v (.bool (v2.2 != v112.2))) :: (95, .v (.bool true)) :: (96, .v undef) :: (97, .v undef) :: (98, .v undef) :: (99, .v undef) :: (100, .v (.bool true)) :: [])) (init := [0, 1, 2, 3, 4, 5, 6, 7]) (fin := [0, 1, 2, 3, 16]) (sps := [⟨[5], [], [8], [(.slot 92)]⟩, ⟨[7], [], [9], [(.slot 93)]⟩, ⟨[8, 9], [], [10], [(.slot 94)]⟩, ⟨[10], [], [11], [(.slot 95)]⟩, ⟨[11], [], [12], [(.slot 96)]⟩, ⟨[11], [], [13], [(.slot 97)]⟩, ⟨[11], [], [14], [(.slot 98)]⟩, ⟨[11], [], [15], [(.slot 99)]⟩, ⟨[11], [], [16], [(.slot 100)]⟩]) (es' := [(_, _), (_, _), (_, _), (_, _), (100, .v (.bool true))]) (by kernel_rfl) rfl rfl
       ⟨st_plain rfl (op_move _ _ _ _ rfl rfl),
       st_plain rfl (op_move _ _ _ _ rfl rfl),
       st_plain rfl (op_bin _ _ _ _ _ rfl rfl rfl),
       st_plain rfl (op_move _ _ _ _ (congrArg (fun b => AV.v (Value.bool b)) hg11_3) rfl),
       st_skip 3 95 _ false rfl rfl rfl rfl (List.Mem.head _),
       st_skip 3 95 _ false rfl rfl rfl rfl (List.Mem.head _),
       st_skip 3 95 _ false rfl rfl rfl rfl (List.Mem.head _),
       st_skip 3 95 _ false rfl rfl rfl rfl (List.Mem.head _),
       st_plain rfl (op_pick _ _ true _ rfl rfl),
       trivial⟩ ?_
      exact hl116 _ (Option.some.inj h).symm
     ·obtain ⟨v113, hv113, h⟩ := bind_some h
      refine ht_seqR hn (El := (_ :: _ :: _ :: _ :: _ :: _ :: _ :: _ :: (92, .v (.int .i64 v2.2)) :: (93, .v (.int .i64 v112.2)) :: (94, .v (.bool (v2.2 != v112.2))) :: (95, .v (.bool false)) :: (96, .agg [.v (.int .i64 v2.1.Kind), .v (.string v2.1.Text), .v (.bool v2.1.Path.Null), .v (.string v2.1.Path.Local), .v (.string v2.1.Path.Domain), .fl .ro 2 (List.flatten (List.map T_Param.enc v2.1.Params))]) :: (97, .agg [.v (.int .i64 v112.1.Kind), .v (.string v112.1.Text), .v (.bool v112.1.Path.Null), .v (.string v112.1.Path.Local), .v (.string v112.1.Path.Domain), .fl .ro 2 (List.flatten (List.map T_Param.enc v112.1.Params))]) :: (98, .v (.bool v113)) :: (99, .v (.bool (!v113))) :: (100, .v (.bool (!v113))) :: [])) (init := [0, 1, 2, 3, 4, 5, 6, 7]) (fin := [0, 1, 2, 3, 16]) (sps := [⟨[5], [], [8], [(.slot 92)]⟩, ⟨[7], [], [9], [(.slot 93)]⟩, ⟨[8, 9], [], [10], [(.slot 94)]⟩, ⟨[10], [], [11], [(.slot 95)]⟩, ⟨[11, 4], [], [12], [(.slot 96)]⟩, ⟨[11, 6], [], [13], [(.slot 97)]⟩, ⟨[11, 12, 13], [], [14], [(.slot 98)]⟩, ⟨[11, 14], [], [15], [(.slot 99)]⟩, ⟨[11, 15], [], [16], [(.slot 100)]⟩]) (es' := [(_, _), (_, _), (_, _), (_, _), (100, .v (.bool (!v113)))]) (by kernel_rfl) rfl rfl
       ⟨st_plain rfl (op_move _ _ _ _ rfl rfl),
       st_plain rfl (op_move _ _ _ _ rfl rfl),
       st_plain rfl (op_bin _ _ _ _ _ rfl rfl rfl),
       st_plain rfl (op_move _ _ _ _ (congrArg (fun b => AV.v (Value.bool b)) hg11_3) rfl),
       st_run 3 95 false rfl rfl rfl (List.Mem.head _) (op_loadA _ _ _ _ _ _ _ Tryd.underlying26 rfl sz26 rfl rfl (Nat.le_of_ble_eq_true rfl) rfl rfl),
       st_run 3 95 false rfl rfl rfl (List.Mem.head _) (op_loadA _ _ _ _ _ _ _ Tryd.underlying26 rfl sz26 rfl rfl (Nat.le_of_ble_eq_true rfl) rfl rfl),
       st_run 3 95 false rfl rfl rfl (List.Mem.head _) (op_call _ _ 11 _ _ rfl Tryd.call11 rfl (ok_wherrykeep_Cmd ((T_Cmd.mk v2.1.Kind v2.1.Text (T_Path.mk v2.1.Path.Null v2.1.Path.Local v2.1.Path.Domain) v2.1.Params)) ((T_Cmd.mk v112.1.Kind v112.1.Text (T_Path.mk v112.1.Path.Null v112.1.Path.Local v112.1.Path.Domain) v112.1.Params)) _ hv113) rfl rfl),
       st_run 3 95 false rfl rfl rfl (List.Mem.head _) (op_un _ _ _ _ rfl rfl),
       st_plain rfl (op_pick _ _ false _ rfl rfl),
       trivial⟩ ?_
      exact hl116 _ (Option.some.inj h).symm
   ·rintro u86 hl87 hr88 ⟨s64, s65⟩ rr91 h ho89
    refine ht_seq ?_
    refine ht_seq ?_
    refine ht_joinS h (fun (s92 : Bool) => [(0, .v (.string s)), (1, .fl .shr 1 (List.map Value.bool flips)), (2, .v (.int .u8 bad)), (3, .v (.int .i64 at_)), (149, .glob (GL mx)), (9, .box 26 [.v (.int .i64 v2.1.Kind), .v (.string v2.1.Text), .v (.bool v2.1.Path.Null), .v (.string v2.1.Path.Local), .v (.string v2.1.Path.Domain), .fl .ro 2 (List.flatten (List.map T_Param.enc v2.1.Params))]), (10, .v (.int .i64 v2.2)), (11, .mkr 5 (List.map (Value.int .u8) s64)), (12, .v (.int .i64 s65)), (37, .v (.bool s92))]) ?_ ?_
    ·rintro s92 h
     refine pt_then ?_
     refine ht_cond _ rfl (fun hb96 => ?_) (fun hb96 => ?_)
     ·have h := cond_t hb96 h
      refine ht_skip ?_
      refine pt_then ?_
      refine ht_seq ?_
      refine ht_joinS h (fun (s102 : (List Int)) => [(0, .v (.string s)), (1, .fl .shr 1 (List.map Value.bool flips)), (2, .v (.int .u8 bad)), (3, .v (.int .i64 at_)), (149, .glob (GL mx)), (9, .box 26 [.v (.int .i64 v2.1.Kind), .v (.string v2.1.Text), .v (.bool v2.1.Path.Null), .v (.string v2.1.Path.Local), .v (.string v2.1.Path.Domain), .fl .ro 2 (List.flatten (List.map T_Param.enc v2.1.Params))]), (10, .v (.int .i64 v2.2)), (11, .mkr 5 (List.map (Value.int .u8) s102)), (12, .v (.int .i64 s65))]) ?_ ?_
      ·rintro s102 h
       refine pt_then ?_
       obtain ⟨v42, hv42, h⟩ := bind_some h
       refine ht_seqR hn (El := [_, _, _, _, _, _, _, _, _, (38, .v (.int .i64 s65)), (39, .v (.int .i64 v42)), (12, .v (.int .i64 v42))]) (init := [0, 1, 2, 3, 4, 5, 6, 7, 8]) (fin := [0, 1, 2, 3, 4, 5, 6, 7, 11]) (sps := [⟨[8], [], [9], [(.slot 38)]⟩, ⟨[9], [], [10], [(.slot 39)]⟩, ⟨[10], [8], [11], [(.slot 12)]⟩]) (es' := [(_, _), (_, _), (_, _), (_, _), (_, _), (_, _), (_, _), (_, _), (12, .v (.int .i64 v42))]) (by kernel_rfl) rfl rfl
        ⟨st_plain rfl (op_move _ _ _ _ rfl rfl),
        st_plain rfl (op_bin _ _ _ _ _ rfl rfl (ibind (f := Value.int .i64) (Option.some.inj hv42))),
        st_plain rfl (LOp.drop [_] (op_assign _ _ _ _ rfl rfl)),
        trivial⟩ ?_
       exact pt_next _ (Option.some.inj h).symm rfl
      ·intro u103 h hl104 hr105
       refine ht_block ?_
       refine ht_seq ?_
       refine ht_joinS h (fun (s106 : Bool) => [(0, .v (.string s)), (1, .fl .shr 1 (List.map Value.bool flips)), (2, .v (.int .u8 bad)), (3, .v (.int .i64 at_)), (149, .glob (GL mx)), (9, .box 26 [.v (.int .i64 v2.1.Kind), .v (.string v2.1.Text), .v (.bool v2.1.Path.Null), .v (.string v2.1.Path.Local), .v (.string v2.1.Path.Domain), .fl .ro 2 (List.flatten (List.map T_Param.enc v2.1.Params))]), (10, .v (.int .i64 v2.2)), (11, .mkr 5 (List.map (Value.int .u8) s64)), (12, .v (.int .i64 s65)), (77, .v (.bool s106))]) ?_ ?_
       ·rintro s106 h
        refine pt_then ?_
        refine ht_cond _ rfl (fun hb110 => ?_) (fun hb110 => ?_)
        ·have h := cond_t hb110 h
         obtain ⟨v28, hv28, h⟩ := bind_some h
         obtain ⟨v29, hv29, h⟩ := bind_some h
         obtain ⟨v30, hv30, h⟩ := bind_some h
         obtain ⟨v31, hv31, h⟩ := bind_some h
         obtain ⟨v32, hv32, h⟩ := bind_some h
         refine ht_seqR hn (El := (_ :: _ :: _ :: _ :: _ :: _ :: _ :: _ :: _ :: _ :: (78, .same (.slot 11)) :: (79, .v (.int .i64 s65)) :: (80, .same (.slot 11)) :: (81, .v (.int .i64 s65)) :: (82, .eref (.slot 11) (v28 * 1)) :: (83, .v (.int .u8 v29)) :: (84, .v (.int .u8 v30)) :: (85, .eref (.slot 11) (v31 * 1)) :: (11, .mkr 5 (List.map (Value.int .u8) v32)) :: [])) (init := [0, 1, 2, 3, 4, 5, 6, 7, 8, 9]) (fin := [0, 1, 2, 3, 4, 5, 6, 18, 8]) (sps := [⟨[7], [], [10], [(.slot 78)]⟩, ⟨[8], [], [11], [(.slot 79)]⟩, ⟨[7], [], [12], [(.slot 80)]⟩, ⟨[8], [], [13], [(.slot 81)]⟩, ⟨[12, 7, 13], [], [14], [(.slot 82)]⟩, ⟨[14, 7], [], [15], [(.slot 83)]⟩, ⟨[15], [], [16], [(.slot 84)]⟩, ⟨[10, 7, 11], [], [17], [(.slot 85)]⟩, ⟨[17, 16], [7], [18], []⟩]) (es' := [(_, _), (_, _), (_, _), (_, _), (_, _), (_, _), (_, _), (11, .mkr 5 (List.map (Value.int .u8) v32)), (_, _)]) (by kernel_rfl) rfl rfl
          ⟨st_plain rfl (op_move _ _ _ _ rfl rfl),
          st_plain rfl (op_move _ _ _ _ rfl rfl),
          st_plain rfl (op_move _ _ _ _ rfl rfl),
          st_plain rfl (op_move _ _ _ _ rfl rfl),
          st_plain rfl (op_ix_mk _ _ _ _ _ _ _ Tryd.underlying37 sz5 rfl rfl rfl (ix_ok hv28).1 (mk_lt' (ix_ok hv28).2) rfl),
          st_plain rfl (op_load_mk _ _ _ _ _ _ Tryd.underlying5 rfl rfl rfl (map_get hv29)),
          st_plain rfl (op_bin _ _ _ _ _ rfl rfl (ibind (f := Value.int .u8) (Option.some.inj hv30))),
          st_plain rfl (op_ix_mk _ _ _ _ _ _ _ Tryd.underlying37 sz5 rfl rfl rfl (ix_ok hv31).1 (mk_lt' (ix_ok hv31).2) rfl),
          st_plain rfl (op_store_mk _ _ _ _ _ _ _ sz5 rfl rfl rfl (mk_lt (ix_ok hv31).2) (mk_set (f := Value.int .u8) (Option.some.inj hv32))),
          trivial⟩ ?_
         refine pt_inb ?_
         exact hl104 _ (Option.some.inj h).symm
        ·have h := cond_f hb110 h
         refine ht_skip ?_
         refine pt_inb ?_
         refine pt_pick [0, 1, 2, 3, 4, 5, 6, 7, 8] (by kernel_rfl) (es' := [(_, _), (_, _), (_, _), (_, _), (_, _), (_, _), (_, _), (_, _), (_, _)]) rfl ?_
         exact hl104 _ (Option.some.inj h).symm
       ·intro u107 h hl108 hr109
        refine cond_some h (fun hg8_4 h => ?_) (fun hg8_4 h => ?_)
        ·obtain ⟨v9, hv9, h⟩ := bind_some h
         obtain ⟨v10, hv10, h⟩ := bind_some h
         refine cond_some h (fun hg8_10 h => ?_) (fun hg8_10 h => ?_)
         ·obtain ⟨v11, hv11, h⟩ := bind_some h
          obtain ⟨v12, hv12, h⟩ := bind_some h
          refine cond_some h (fun hg8_16 h => ?_) (fun hg8_16 h => ?_)
          ·obtain ⟨v13, hv13, h⟩ := bind_some h
           obtain ⟨v14, hv14, h⟩ := bind_some h
           refine cond_some h (fun hg8_23 h => ?_) (fun hg8_23 h => ?_)
           ·refine ht_seqR hn (El := (_ :: _ :: _ :: _ :: _ :: _ :: _ :: _ :: _ :: _ :: (40, .v (.int .i64 s65)) :: (41, .fl .shr 1 (List.map Value.bool flips)) :: (42, .v (.int .i64 (flips.length : Int))) :: (43, .v (.bool ((decide (s65 < (flips.length : Int)))))) :: (44, .v (.bool true)) :: (45, .fl .shr 1 (List.map Value.bool flips)) :: (46, .v (.int .i64 s65)) :: (47, .eref (.slot 45) (v9 * 1)) :: (48, .v (.bool v10)) :: (49, .v (.bool v10)) :: (50, .v (.bool true)) :: (51, .same (.slot 11)) :: (52, .v (.int .i64 s65)) :: (53, .eref (.slot 11) (v11 * 1)) :: (54, .v (.int .u8 v12)) :: (55, .v (.bool ((decide (97 ≤ v12))))) :: (56, .v (.bool true)) :: (57, .same (.slot 11)) :: (58, .v (.int .i64 s65)) :: (59, .eref (.slot 11) (v13 * 1)) :: (60, .v (.int .u8 v14)) :: (61, .v (.bool ((decide (v14 ≤ 122))))) :: (62, .v (.bool ((decide (v14 ≤ 122))))) :: (63, .v (.bool true)) :: (64, .v undef) :: (65, .v undef) :: (66, .v undef) :: (67, .v undef) :: (68, .v undef) :: (69, .v undef) :: (70, .v undef) :: (71, .v undef) :: (72, .v undef) :: (73, .v undef) :: (74, .v undef) :: (75, .v undef) :: (76, .v (.bool true)) :: (77, .v (.bool true)) :: [])) (init := [0, 1, 2, 3, 4, 5, 6, 7, 8, 9]) (fin := [0, 1, 2, 3, 4, 5, 6, 7, 8, 47]) (sps := (⟨[8], [], [10], [(.slot 40)]⟩ :: ⟨[1], [], [11], [(.slot 41)]⟩ :: ⟨[11], [], [12], [(.slot 42)]⟩ :: ⟨[10, 12], [], [13], [(.slot 43)]⟩ :: ⟨[13], [], [14], [(.slot 44)]⟩ :: ⟨[14, 1], [], [15], [(.slot 45)]⟩ :: ⟨[14, 8], [], [16], [(.slot 46)]⟩ :: ⟨[14, 15, 16], [], [17], [(.slot 47)]⟩ :: ⟨[14, 17, 15], [], [18], [(.slot 48)]⟩ :: ⟨[14, 18], [], [19], [(.slot 49)]⟩ :: ⟨[19], [], [20], [(.slot 50)]⟩ :: ⟨[20, 7], [], [21], [(.slot 51)]⟩ :: ⟨[20, 8], [], [22], [(.slot 52)]⟩ :: ⟨[20, 21, 7, 22], [], [23], [(.slot 53)]⟩ :: ⟨[20, 23, 7], [], [24], [(.slot 54)]⟩ :: ⟨[20, 24], [], [25], [(.slot 55)]⟩ :: ⟨[20, 25], [], [26], [(.slot 56)]⟩ :: ⟨[26, 7], [], [27], [(.slot 57)]⟩ :: ⟨[26, 8], [], [28], [(.slot 58)]⟩ :: ⟨[26, 27, 7, 28], [], [29], [(.slot 59)]⟩ :: ⟨[26, 29, 7], [], [30], [(.slot 60)]⟩ :: ⟨[26, 30], [], [31], [(.slot 61)]⟩ :: ⟨[20, 26, 31], [], [32], [(.slot 62)]⟩ :: ⟨[20, 32], [], [33], [(.slot 63)]⟩ :: ⟨[33], [], [34], [(.slot 64)]⟩ :: ⟨[33], [], [35], [(.slot 65)]⟩ :: ⟨[33], [], [36], [(.slot 66)]⟩ :: ⟨[33], [], [37], [(.slot 67)]⟩ :: ⟨[33], [], [38], [(.slot 68)]⟩ :: ⟨[33], [], [39], [(.slot 69)]⟩ :: ⟨[39], [], [40], [(.slot 70)]⟩ :: ⟨[39], [], [41], [(.slot 71)]⟩ :: ⟨[39], [], [42], [(.slot 72)]⟩ :: ⟨[39], [], [43], [(.slot 73)]⟩ :: ⟨[39], [], [44], [(.slot 74)]⟩ :: ⟨[33], [], [45], [(.slot 75)]⟩ :: ⟨[20, 33], [], [46], [(.slot 76)]⟩ :: ⟨[20, 46], [], [47], [(.slot 77)]⟩ :: [])) (es' := [(_, _), (_, _), (_, _), (_, _), (_, _), (_, _), (_, _), (_, _), (_, _), (77, .v (.bool true))]) (by kernel_rfl) rfl rfl
             ⟨st_plain rfl (op_move _ _ _ _ rfl rfl),
             st_plain rfl (op_move _ _ _ _ rfl rfl),
             st_plain rfl (op_len_fl _ _ _ Tryd.underlying36 rfl (by decide) (map_len _)),
             st_plain rfl (op_bin _ _ _ _ _ rfl rfl rfl),
             st_plain rfl (op_move _ _ _ _ (congrArg (fun b => AV.v (Value.bool b)) hg8_4) rfl),
             st_run 4 44 true rfl rfl rfl (List.Mem.head _) (op_move _ _ _ _ rfl rfl),
             st_run 4 44 true rfl rfl rfl (List.Mem.head _) (op_move _ _ _ _ rfl rfl),
             st_run 4 44 true rfl rfl rfl (List.Mem.head _) (op_ix _ _ _ _ _ _ _ _ Tryd.underlying36 sz4 (by decide) rfl rfl rfl (ix_ok hv9).1 (map_lt (ix_ok hv9).2) rfl),
             st_run 4 44 true rfl rfl rfl (List.Mem.head _) (op_load_e _ _ _ _ _ _ Tryd.underlying4 rfl rfl rfl (map_get hv10)),
             st_plain rfl (op_pick _ _ true _ rfl rfl),
             st_plain rfl (op_move _ _ _ _ (congrArg (fun b => AV.v (Value.bool b)) hg8_10) rfl),
             st_run 10 50 true rfl rfl rfl (List.Mem.head _) (op_move _ _ _ _ rfl rfl),
             st_run 10 50 true rfl rfl rfl (List.Mem.head _) (op_move _ _ _ _ rfl rfl),
             st_run 10 50 true rfl rfl rfl (List.Mem.head _) (op_ix_mk _ _ _ _ _ _ _ Tryd.underlying37 sz5 rfl rfl rfl (ix_ok hv11).1 (mk_lt' (ix_ok hv11).2) rfl),
             st_run 10 50 true rfl rfl rfl (List.Mem.head _) (op_load_mk _ _ _ _ _ _ Tryd.underlying5 rfl rfl rfl (map_get hv12)),
             st_run 10 50 true rfl rfl rfl (List.Mem.head _) (op_bin _ _ _ _ _ rfl rfl rfl),
             st_run 10 50 true rfl rfl rfl (List.Mem.head _) (op_move _ _ _ _ (congrArg (fun b => AV.v (Value.bool b)) hg8_16) rfl),
             st_run 16 56 true rfl rfl rfl (List.Mem.head _) (op_move _ _ _ _ rfl rfl),
             st_run 16 56 true rfl rfl rfl (List.Mem.head _) (op_move _ _ _ _ rfl rfl),
             st_run 16 56 true rfl rfl rfl (List.Mem.head _) (op_ix_mk _ _ _ _ _ _ _ Tryd.underlying37 sz5 rfl rfl rfl (ix_ok hv13).1 (mk_lt' (ix_ok hv13).2) rfl),
             st_run 16 56 true rfl rfl rfl (List.Mem.head _) (op_load_mk _ _ _ _ _ _ Tryd.underlying5 rfl rfl rfl (map_get hv14)),
             st_run 16 56 true rfl rfl rfl (List.Mem.head _) (op_bin _ _ _ _ _ rfl rfl rfl),
             st_run 10 50 true rfl rfl rfl (List.Mem.head _) (op_pick _ _ true _ rfl rfl),
             st_run 10 50 true rfl rfl rfl (List.Mem.head _) (op_move _ _ _ _ (congrArg (fun b => AV.v (Value.bool b)) hg8_23) rfl),
             st_skip 23 63 _ false rfl rfl rfl rfl (List.Mem.head _),
             st_skip 23 63 _ false rfl rfl rfl rfl (List.Mem.head _),
             st_skip 23 63 _ false rfl rfl rfl rfl (List.Mem.head _),
             st_skip 23 63 _ false rfl rfl rfl rfl (List.Mem.head _),
             st_skip 23 63 _ false rfl rfl rfl rfl (List.Mem.head _),
             st_skip 23 63 _ false rfl rfl rfl rfl (List.Mem.head _),
             st_skipU 29 69 _ true rfl rfl rfl rfl (List.Mem.head _),
             st_skipU 29 69 _ true rfl rfl rfl rfl (List.Mem.head _),
             st_skipU 29 69 _ true rfl rfl rfl rfl (List.Mem.head _),
             st_skipU 29 69 _ true rfl rfl rfl rfl (List.Mem.head _),
             st_skipU 29 69 _ true rfl rfl rfl rfl (List.Mem.head _),
             st_skip 23 63 _ false rfl rfl rfl rfl (List.Mem.head _),
             st_run 10 50 true rfl rfl rfl (List.Mem.head _) (op_pick _ _ true _ rfl rfl),
             st_plain rfl (op_pick _ _ true _ rfl rfl),
             trivial⟩ ?_
            exact hl108 _ (Option.some.inj h).symm
           ·obtain ⟨v15, hv15, h⟩ := bind_some h
            obtain ⟨v16, hv16, h⟩ := bind_some h
            refine cond_some h (fun hg8_29 h => ?_) (fun hg8_29 h => ?_)
            ·obtain ⟨v17, hv17, h⟩ := bind_some h
             obtain ⟨v18, hv18, h⟩ := bind_some h
             refine ht_seqR hn (El := (_ :: _ :: _ :: _ :: _ :: _ :: _ :: _ :: _ :: _ :: (40, .v (.int .i64 s65)) :: (41, .fl .shr 1 (List.map Value.bool flips)) :: (42, .v (.int .i64 (flips.length : Int))) :: (43, .v (.bool ((decide (s65 < (flips.length : Int)))))) :: (44, .v (.bool true)) :: (45, .fl .shr 1 (List.map Value.bool flips)) :: (46, .v (.int .i64 s65)) :: (47, .eref (.slot 45) (v9 * 1)) :: (48, .v (.bool v10)) :: (49, .v (.bool v10)) :: (50, .v (.bool true)) :: (51, .same (.slot 11)) :: (52, .v (.int .i64 s65)) :: (53, .eref (.slot 11) (v11 * 1)) :: (54, .v (.int .u8 v12)) :: (55, .v (.bool ((decide (97 ≤ v12))))) :: (56, .v (.bool true)) :: (57, .same (.slot 11)) :: (58, .v (.int .i64 s65)) :: (59, .eref (.slot 11) (v13 * 1)) :: (60, .v (.int .u8 v14)) :: (61, .v (.bool ((decide (v14 ≤ 122))))) :: (62, .v (.bool ((decide (v14 ≤ 122))))) :: (63, .v (.bool false)) :: (64, .same (.slot 11)) :: (65, .v (.int .i64 s65)) :: (66, .eref (.slot 11) (v15 * 1)) :: (67, .v (.int .u8 v16)) :: (68, .v (.bool ((decide (65 ≤ v16))))) :: (69, .v (.bool true)) :: (70, .same (.slot 11)) :: (71, .v (.int .i64 s65)) :: (72, .eref (.slot 11) (v17 * 1)) :: (73, .v (.int .u8 v18)) :: (74, .v (.bool ((decide (v18 ≤ 90))))) :: (75, .v (.bool ((decide (v18 ≤ 90))))) :: (76, .v (.bool ((decide (v18 ≤ 90))))) :: (77, .v (.bool ((decide (v18 ≤ 90))))) :: [])) (init := [0, 1, 2, 3, 4, 5, 6, 7, 8, 9]) (fin := [0, 1, 2, 3, 4, 5, 6, 7, 8, 47]) (sps := (⟨[8], [], [10], [(.slot 40)]⟩ :: ⟨[1], [], [11], [(.slot 41)]⟩ :: ⟨[11], [], [12], [(.slot 42)]⟩ :: ⟨[10, 12], [], [13], [(.slot 43)]⟩ :: ⟨[13], [], [14], [(.slot 44)]⟩ :: ⟨[14, 1], [], [15], [(.slot 45)]⟩ :: ⟨[14, 8], [], [16], [(.slot 46)]⟩ :: ⟨[14, 15, 16], [], [17], [(.slot 47)]⟩ :: ⟨[14, 17, 15], [], [18], [(.slot 48)]⟩ :: ⟨[14, 18], [], [19], [(.slot 49)]⟩ :: ⟨[19], [], [20], [(.slot 50)]⟩ :: ⟨[20, 7], [], [21], [(.slot 51)]⟩ :: ⟨[20, 8], [], [22], [(.slot 52)]⟩ :: ⟨[20, 21, 7, 22], [], [23], [(.slot 53)]⟩ :: ⟨[20, 23, 7], [], [24], [(.slot 54)]⟩ :: ⟨[20, 24], [], [25], [(.slot 55)]⟩ :: ⟨[20, 25], [], [26], [(.slot 56)]⟩ :: ⟨[26, 7], [], [27], [(.slot 57)]⟩ :: ⟨[26, 8], [], [28], [(.slot 58)]⟩ :: ⟨[26, 27, 7, 28], [], [29], [(.slot 59)]⟩ :: ⟨[26, 29, 7], [], [30], [(.slot 60)]⟩ :: ⟨[26, 30], [], [31], [(.slot 61)]⟩ :: ⟨[20, 26, 31], [], [32], [(.slot 62)]⟩ :: ⟨[20, 32], [], [33], [(.slot 63)]⟩ :: ⟨[33, 7], [], [34], [(.slot 64)]⟩ :: ⟨[33, 8], [], [35], [(.slot 65)]⟩ :: ⟨[33, 34, 7, 35], [], [36], [(.slot 66)]⟩ :: ⟨[33, 36, 7], [], [37], [(.slot 67)]⟩ :: ⟨[33, 37], [], [38], [(.slot 68)]⟩ :: ⟨[33, 38], [], [39], [(.slot 69)]⟩ :: ⟨[39, 7], [], [40], [(.slot 70)]⟩ :: ⟨[39, 8], [], [41], [(.slot 71)]⟩ :: ⟨[39, 40, 7, 41], [], [42], [(.slot 72)]⟩ :: ⟨[39, 42, 7], [], [43], [(.slot 73)]⟩ :: ⟨[39, 43], [], [44], [(.slot 74)]⟩ :: ⟨[33, 39, 44], [], [45], [(.slot 75)]⟩ :: ⟨[20, 33, 45], [], [46], [(.slot 76)]⟩ :: ⟨[20, 46], [], [47], [(.slot 77)]⟩ :: [])) (es' := [(_, _), (_, _), (_, _), (_, _), (_, _), (_, _), (_, _), (_, _), (_, _), (77, .v (.bool ((decide (v18 ≤ 90)))))]) (by kernel_rfl) rfl rfl
              ⟨st_plain rfl (op_move _ _ _ _ rfl rfl),
              st_plain rfl (op_move _ _ _ _ rfl rfl),
              st_plain rfl (op_len_fl _ _ _ Tryd.underlying36 rfl (by decide) (map_len _)),
              st_plain rfl (op_bin _ _ _ _ _ rfl rfl rfl),
              st_plain rfl (op_move _ _ _ _ (congrArg (fun b => AV.v (Value.bool b)) hg8_4) rfl),
              st_run 4 44 true rfl rfl rfl (List.Mem.head _) (op_move _ _ _ _ rfl rfl),
              st_run 4 44 true rfl rfl rfl (List.Mem.head _) (op_move _ _ _ _ rfl rfl),
              st_run 4 44 true rfl rfl rfl (List.Mem.head _) (op_ix _ _ _ _ _ _ _ _ Tryd.underlying36 sz4 (by decide) rfl rfl rfl (ix_ok hv9).1 (map_lt (ix_ok hv9).2) rfl),
              st_run 4 44 true rfl rfl rfl (List.Mem.head _) (op_load_e _ _ _ _ _ _ Tryd.underlying4 rfl rfl rfl (map_get hv10)),
              st_plain rfl (op_pick _ _ true _ rfl rfl),
              st_plain rfl (op_move _ _ _ _ (congrArg (fun b => AV.v (Value.bool b)) hg8_10) rfl),
              st_run 10 50 true rfl rfl rfl (List.Mem.head _) (op_move _ _ _ _ rfl rfl),
              st_run 10 50 true rfl rfl rfl (List.Mem.head _) (op_move _ _ _ _ rfl rfl),
              st_run 10 50 true rfl rfl rfl (List.Mem.head _) (op_ix_mk _ _ _ _ _ _ _ Tryd.underlying37 sz5 rfl rfl rfl (ix_ok hv11).1 (mk_lt' (ix_ok hv11).2) rfl),
              st_run 10 50 true rfl rfl rfl (List.Mem.head _) (op_load_mk _ _ _ _ _ _ Tryd.underlying5 rfl rfl rfl (map_get hv12)),
              st_run 10 50 true rfl rfl rfl (List.Mem.head _) (op_bin _ _ _ _ _ rfl rfl rfl),
              st_run 10 50 true rfl rfl rfl (List.Mem.head _) (op_move _ _ _ _ (congrArg (fun b => AV.v (Value.bool b)) hg8_16) rfl),
              st_run 16 56 true rfl rfl rfl (List.Mem.head _) (op_move _ _ _ _ rfl rfl),
              st_run 16 56 true rfl rfl rfl (List.Mem.head _) (op_move _ _ _ _ rfl rfl),
              st_run 16 56 true rfl rfl rfl (List.Mem.head _) (op_ix_mk _ _ _ _ _ _ _ Tryd.underlying37 sz5 rfl rfl rfl (ix_ok hv13).1 (mk_lt' (ix_ok hv13).2) rfl),
              st_run 16 56 true rfl rfl rfl (List.Mem.head _) (op_load_mk _ _ _ _ _ _ Tryd.underlying5 rfl rfl rfl (map_get hv14)),
              st_run 16 56 true rfl rfl rfl (List.Mem.head _) (op_bin _ _ _ _ _ rfl rfl rfl),
              st_run 10 50 true rfl rfl rfl (List.Mem.head _) (op_pick _ _ true _ rfl rfl),
              st_run 10 50 true rfl rfl rfl (List.Mem.head _) (op_move _ _ _ _ (congrArg (fun b => AV.v (Value.bool b)) hg8_23) rfl),
              st_run 23 63 false rfl rfl rfl (List.Mem.head _) (op_move _ _ _ _ rfl rfl),
              st_run 23 63 false rfl rfl rfl (List.Mem.head _) (op_move _ _ _ _ rfl rfl),
              st_run 23 63 false rfl rfl rfl (List.Mem.head _) (op_ix_mk _ _ _ _ _ _ _ Tryd.underlying37 sz5 rfl rfl rfl (ix_ok hv15).1 (mk_lt' (ix_ok hv15).2) rfl),
              st_run 23 63 false rfl rfl rfl (List.Mem.head _) (op_load_mk _ _ _ _ _ _ Tryd.underlying5 rfl rfl rfl (map_get hv16)),
              st_run 23 63 false rfl rfl rfl (List.Mem.head _) (op_bin _ _ _ _ _ rfl rfl rfl),
              st_run 23 63 false rfl rfl rfl (List.Mem.head _) (op_move _ _ _ _ (congrArg (fun b => AV.v (Value.bool b)) hg8_29) rfl),
              st_run 29 69 true rfl rfl rfl (List.Mem.head _) (op_move _ _ _ _ rfl rfl),
              st_run 29 69 true rfl rfl rfl (List.Mem.head _) (op_move _ _ _ _ rfl rfl),
              st_run 29 69 true rfl rfl rfl (List.Mem.head _) (op_ix_mk _ _ _ _ _ _ _ Tryd.underlying37 sz5 rfl rfl rfl (ix_ok hv17).1 (mk_lt' (ix_ok hv17).2) rfl),
              st_run 29 69 true rfl rfl rfl (List.Mem.head _) (op_load_mk _ _ _ _ _ _ Tryd.underlying5 rfl rfl rfl (map_get hv18)),
              st_run 29 69 true rfl rfl rfl (List.Mem.head _) (op_bin _ _ _ _ _ rfl rfl rfl),
              st_run 23 63 false rfl rfl rfl (List.Mem.head _) (op_pick _ _ true _ rfl rfl),
              st_run 10 50 true rfl rfl rfl (List.Mem.head _) (op_pick _ _ false _ rfl rfl),
              st_plain rfl (op_pick _ _ true _ rfl rfl),
              trivial⟩ ?_
             exact hl108 _ (Option.some.inj h).symm
            ·refine ht_seqR hn (El := (_ :: _ :: _ :: _ :: _ :: _ :: _ :: _ :: _ :: _ :: (40, .v (.int .i64 s65)) :: (41, .fl .shr 1 (List.map Value.bool flips)) :: (42, .v (.int .i64 (flips.length : Int))) :: (43, .v (.bool ((decide (s65 < (flips.length : Int)))))) :: (44, .v (.bool true)) :: (45, .fl .shr 1 (List.map Value.bool flips)) :: (46, .v (.int .i64 s65)) :: (47, .eref (.slot 45) (v9 * 1)) :: (48, .v (.bool v10)) :: (49, .v (.bool v10)) :: (50, .v (.bool true)) :: (51, .same (.slot 11)) :: (52, .v (.int .i64 s65)) :: (53, .eref (.slot 11) (v11 * 1)) :: (54, .v (.int .u8 v12)) :: (55, .v (.bool ((decide (97 ≤ v12))))) :: (56, .v (.bool true)) :: (57, .same (.slot 11)) :: (58, .v (.int .i64 s65)) :: (59, .eref (.slot 11) (v13 * 1)) :: (60, .v (.int .u8 v14)) :: (61, .v (.bool ((decide (v14 ≤ 122))))) :: (62, .v (.bool ((decide (v14 ≤ 122))))) :: (63, .v (.bool false)) :: (64, .same (.slot 11)) :: (65, .v (.int .i64 s65)) :: (66, .eref (.slot 11) (v15 * 1)) :: (67, .v (.int .u8 v16)) :: (68, .v (.bool ((decide (65 ≤ v16))))) :: (69, .v (.bool false)) :: (70, .v undef) :: (71, .v undef) :: (72, .v undef) :: (73, .v undef) :: (74, .v undef) :: (75, .v (.bool false)) :: (76, .v (.bool false)) :: (77, .v (.bool false)) :: [])) (init := [0, 1, 2, 3, 4, 5, 6, 7, 8, 9]) (fin := [0, 1, 2, 3, 4, 5, 6, 7, 8, 47]) (sps := (⟨[8], [], [10], [(.slot 40)]⟩ :: ⟨[1], [], [11], [(.slot 41)]⟩ :: ⟨[11], [], [12], [(.slot 42)]⟩ :: ⟨[10, 12], [], [13], [(.slot 43)]⟩ :: ⟨[13], [], [14], [(.slot 44)]⟩ :: ⟨[14, 1], [], [15], [(.slot 45)]⟩ :: ⟨[14, 8], [], [16], [(.slot 46)]⟩ :: ⟨[14, 15, 16], [], [17], [(.slot 47)]⟩ :: ⟨[14, 17, 15], [], [18], [(.slot 48)]⟩ :: ⟨[14, 18], [], [19], [(.slot 49)]⟩ :: ⟨[19], [], [20], [(.slot 50)]⟩ :: ⟨[20, 7], [], [21], [(.slot 51)]⟩ :: ⟨[20, 8], [], [22], [(.slot 52)]⟩ :: ⟨[20, 21, 7, 22], [], [23], [(.slot 53)]⟩ :: ⟨[20, 23, 7], [], [24], [(.slot 54)]⟩ :: ⟨[20, 24], [], [25], [(.slot 55)]⟩ :: ⟨[20, 25], [], [26], [(.slot 56)]⟩ :: ⟨[26, 7], [], [27], [(.slot 57)]⟩ :: ⟨[26, 8], [], [28], [(.slot 58)]⟩ :: ⟨[26, 27, 7, 28], [], [29], [(.slot 59)]⟩ :: ⟨[26, 29, 7], [], [30], [(.slot 60)]⟩ :: ⟨[26, 30], [], [31], [(.slot 61)]⟩ :: ⟨[20, 26, 31], [], [32], [(.slot 62)]⟩ :: ⟨[20, 32], [], [33], [(.slot 63)]⟩ :: ⟨[33, 7], [], [34], [(.slot 64)]⟩ :: ⟨[33, 8], [], [35], [(.slot 65)]⟩ :: ⟨[33, 34, 7, 35], [], [36], [(.slot 66)]⟩ :: ⟨[33, 36, 7], [], [37], [(.slot 67)]⟩ :: ⟨[33, 37], [], [38], [(.slot 68)]⟩ :: ⟨[33, 38], [], [39], [(.slot 69)]⟩ :: ⟨[39], [], [40], [(.slot 70)]⟩ :: ⟨[39], [], [41], [(.slot 71)]⟩ :: ⟨[39], [], [42], [(.slot 72)]⟩ :: ⟨[39], [], [43], [(.slot 73)]⟩ :: ⟨[39], [], [44], [(.slot 74)]⟩ :: ⟨[33, 39], [], [45], [(.slot 75)]⟩ :: ⟨[20, 33, 45], [], [46], [(.slot 76)]⟩ :: ⟨[20, 46], [], [47], [(.slot 77)]⟩ :: [])) (es' := [(_, _), (_, _), (_, _), (_, _), (_, _), (_, _), (_, _), (_, _), (_, _), (77, .v (.bool false))]) (by kernel_rfl) rfl rfl
              ⟨st_plain rfl (op_move _ _ _ _ rfl rfl),
              st_plain rfl (op_move _ _ _ _ rfl rfl),
              st_plain rfl (op_len_fl _ _ _ Tryd.underlying36 rfl (by decide) (map_len _)),
              st_plain rfl (op_bin _ _ _ _ _ rfl rfl rfl),
              st_plain rfl (op_move _ _ _ _ (congrArg (fun b => AV.v (Value.bool b)) hg8_4) rfl),
              st_run 4 44 true rfl rfl rfl (List.Mem.head _) (op_move _ _ _ _ rfl rfl),
              st_run 4 44 true rfl rfl rfl (List.Mem.head _) (op_move _ _ _ _ rfl rfl),
              st_run 4 44 true rfl rfl rfl (List.Mem.head _) (op_ix _ _ _ _ _ _ _ _ Tryd.underlying36 sz4 (by decide) rfl rfl rfl (ix_ok hv9).1 (map_lt (ix_ok hv9).2) rfl),
              st_run 4 44 true rfl rfl rfl (List.Mem.head _) (op_load_e _ _ _ _ _ _ Tryd.underlying4 rfl rfl rfl (map_get hv10)),
              st_plain rfl (op_pick _ _ true _ rfl rfl),
              st_plain rfl (op_move _ _ _ _ (congrArg (fun b => AV.v (Value.bool b)) hg8_10) rfl),
              st_run 10 50 true rfl rfl rfl (List.Mem.head _) (op_move _ _ _ _ rfl rfl),
              st_run 10 50 true rfl rfl rfl (List.Mem.head _) (op_move _ _ _ _ rfl rfl),
              st_run 10 50 true rfl rfl rfl (List.Mem.head _) (op_ix_mk _ _ _ _ _ _ _ Tryd.underlying37 sz5 rfl rfl rfl (ix_ok hv11).1 (mk_lt' (ix_ok hv11).2) rfl),
              st_run 10 50 true rfl rfl rfl (List.Mem.head _) (op_load_mk _ _ _ _ _ _ Tryd.underlying5 rfl rfl rfl (map_get hv12)),
              st_run 10 50 true rfl rfl rfl (List.Mem.head _) (op_bin _ _ _ _ _ rfl rfl rfl),
              st_run 10 50 true rfl rfl rfl (List.Mem.head _) (op_move _ _ _ _ (congrArg (fun b => AV.v (Value.bool b)) hg8_16) rfl),
              st_run 16 56 true rfl rfl rfl (List.Mem.head _) (op_move _ _ _ _ rfl rfl),
              st_run 16 56 true rfl rfl rfl (List.Mem.head _) (op_move _ _ _ _ rfl rfl),
              st_run 16 56 true rfl rfl rfl (List.Mem.head _) (op_ix_mk _ _ _ _ _ _ _ Tryd.underlying37 sz5 rfl rfl rfl (ix_ok hv13).1 (mk_lt' (ix_ok hv13).2) rfl),
              st_run 16 56 true rfl rfl rfl (List.Mem.head _) (op_load_mk _ _ _ _ _ _ Tryd.underlying5 rfl rfl rfl (map_get hv14)),
              st_run 16 56 true rfl rfl rfl (List.Mem.head _) (op_bin _ _ _ _ _ rfl rfl rfl),
              st_run 10 50 true rfl rfl rfl (List.Mem.head _) (op_pick _ _ true _ rfl rfl),
              st_run 10 50 true rfl rfl rfl (List.Mem.head _) (op_move _ _ _ _ (congrArg (fun b => AV.v (Value.bool b)) hg8_23) rfl),
              st_run 23 63 false rfl rfl rfl (List.Mem.head _) (op_move _ _ _ _ rfl rfl),
              st_run 23 63 false rfl rfl rfl (List.Mem.head _) (op_move _ _ _ _ rfl rfl),
              st_run 23 63 false rfl rfl rfl (List.Mem.head _) (op_ix_mk _ _ _ _ _ _ _ Tryd.underlying37 sz5 rfl rfl rfl (ix_ok hv15).1 (mk_lt' (ix_ok hv15).2) rfl),
              st_run 23 63 false rfl rfl rfl (List.Mem.head _) (op_load_mk _ _ _ _ _ _ Tryd.underlying5 rfl rfl rfl (map_get hv16)),
              st_run 23 63 false rfl rfl rfl (List.Mem.head _) (op_bin _ _ _ _ _ rfl rfl rfl),
              st_run 23 63 false rfl rfl rfl (List.Mem.head _) (op_move _ _ _ _ (congrArg (fun b => AV.v (Value.bool b)) hg8_29) rfl),
              st_skip 29 69 _ true rfl rfl rfl rfl (List.Mem.head _),
              st_skip 29 69 _ true rfl rfl rfl rfl (List.Mem.head _),
              st_skip 29 69 _ true rfl rfl rfl rfl (List.Mem.head _),
              st_skip 29 69 _ true rfl rfl rfl rfl (List.Mem.head _),
              st_skip 29 69 _ true rfl rfl rfl rfl (List.Mem.head _),
              st_run 23 63 false rfl rfl rfl (List.Mem.head _) (op_pick _ _ false _ rfl rfl),
              st_run 10 50 true rfl rfl rfl (List.Mem.head _) (op_pick _ _ false _ rfl rfl),
              st_plain rfl (op_pick _ _ true _ rfl rfl),
              trivial⟩ ?_
             exact hl108 _ (Option.some.inj h).symm
          ·obtain ⟨v19, hv19, h⟩ := bind_some h
           obtain ⟨v20, hv20, h⟩ := bind_some h
           refine cond_some h (fun hg8_29 h => ?_) (fun hg8_29 h => ?_)
           ·obtain ⟨v21, hv21, h⟩ := bind_some h
            obtain ⟨v22, hv22, h⟩ := bind_some h
            refine ht_seqR hn (El := (_ :: _ :: _ :: _ :: _ :: _ :: _ :: _ :: _ :: _ :: (40, .v (.int .i64 s65)) :: (41, .fl .shr 1 (List.map Value.bool flips)) :: (42, .v (.int .i64 (flips.length : Int))) :: (43, .v (.bool ((decide (s65 < (flips.length : Int)))))) :: (44, .v (.bool true)) :: (45, .fl .shr 1 (List.map Value.bool flips)) :: (46, .v (.int .i64 s65)) :: (47, .eref (.slot 45) (v9 * 1)) :: (48, .v (.bool v10)) :: (49, .v (.bool v10)) :: (50, .v (.bool true)) :: (51, .same (.slot 11)) :: (52, .v (.int .i64 s65)) :: (53, .eref (.slot 11) (v11 * 1)) :: (54, .v (.int .u8 v12)) :: (55, .v (.bool ((decide (97 ≤ v12))))) :: (56, .v (.bool false)) :: (57, .v undef) :: (58, .v undef) :: (59, .v undef) :: (60, .v undef) :: (61, .v undef) :: (62, .v (.bool false)) :: (63, .v (.bool false)) :: (64, .same (.slot 11)) :: (65, .v (.int .i64 s65)) :: (66, .eref (.slot 11) (v19 * 1)) :: (67, .v (.int .u8 v20)) :: (68, .v (.bool ((decide (65 ≤ v20))))) :: (69, .v (.bool true)) :: (70, .same (.slot 11)) :: (71, .v (.int .i64 s65)) :: (72, .eref (.slot 11) (v21 * 1)) :: (73, .v (.int .u8 v22)) :: (74, .v (.bool ((decide (v22 ≤ 90))))) :: (75, .v (.bool ((decide (v22 ≤ 90))))) :: (76, .v (.bool ((decide (v22 ≤ 90))))) :: (77, .v (.bool ((decide (v22 ≤ 90))))) :: [])) (init := [0, 1, 2, 3, 4, 5, 6, 7, 8, 9]) (fin := [0, 1, 2, 3, 4, 5, 6, 7, 8, 47]) (sps := (⟨[8], [], [10], [(.slot 40)]⟩ :: ⟨[1], [], [11], [(.slot 41)]⟩ :: ⟨[11], [], [12], [(.slot 42)]⟩ :: ⟨[10, 12], [], [13], [(.slot 43)]⟩ :: ⟨[13], [], [14], [(.slot 44)]⟩ :: ⟨[14, 1], [], [15], [(.slot 45)]⟩ :: ⟨[14, 8], [], [16], [(.slot 46)]⟩ :: ⟨[14, 15, 16], [], [17], [(.slot 47)]⟩ :: ⟨[14, 17, 15], [], [18], [(.slot 48)]⟩ :: ⟨[14, 18], [], [19], [(.slot 49)]⟩ :: ⟨[19], [], [20], [(.slot 50)]⟩ :: ⟨[20, 7], [], [21], [(.slot 51)]⟩ :: ⟨[20, 8], [], [22], [(.slot 52)]⟩ :: ⟨[20, 21, 7, 22], [], [23], [(.slot 53)]⟩ :: ⟨[20, 23, 7], [], [24], [(.slot 54)]⟩ :: ⟨[20, 24], [], [25], [(.slot 55)]⟩ :: ⟨[20, 25], [], [26], [(.slot 56)]⟩ :: ⟨[26], [], [27], [(.slot 57)]⟩ :: ⟨[26], [], [28], [(.slot 58)]⟩ :: ⟨[26], [], [29], [(.slot 59)]⟩ :: ⟨[26], [], [30], [(.slot 60)]⟩ :: ⟨[26], [], [31], [(.slot 61)]⟩ :: ⟨[20, 26], [], [32], [(.slot 62)]⟩ :: ⟨[20, 32], [], [33], [(.slot 63)]⟩ :: ⟨[33, 7], [], [34], [(.slot 64)]⟩ :: ⟨[33, 8], [], [35], [(.slot 65)]⟩ :: ⟨[33, 34, 7, 35], [], [36], [(.slot 66)]⟩ :: ⟨[33, 36, 7], [], [37], [(.slot 67)]⟩ :: ⟨[33, 37], [], [38], [(.slot 68)]⟩ :: ⟨[33, 38], [], [39], [(.slot 69)]⟩ :: ⟨[39, 7], [], [40], [(.slot 70)]⟩ :: ⟨[39, 8], [], [41], [(.slot 71)]⟩ :: ⟨[39, 40, 7, 41], [], [42], [(.slot 72)]⟩ :: ⟨[39, 42, 7], [], [43], [(.slot 73)]⟩ :: ⟨[39, 43], [], [44], [(.slot 74)]⟩ :: ⟨[33, 39, 44], [], [45], [(.slot 75)]⟩ :: ⟨[20, 33, 45], [], [46], [(.slot 76)]⟩ :: ⟨[20, 46], [], [47], [(.slot 77)]⟩ :: [])) (es' := [(_, _), (_, _), (_, _), (_, _), (_, _), (_, _), (_, _), (_, _), (_, _), (77, .v (.bool ((decide (v22 ≤ 90)))))]) (by kernel_rfl) rfl rfl
             ⟨st_plain rfl (op_move _ _ _ _ rfl rfl),
             st_plain rfl (op_move _ _ _ _ rfl rfl),
             st_plain rfl (op_len_fl _ _ _ Tryd.underlying36 rfl (by decide) (map_len _)),
             st_plain rfl (op_bin _ _ _ _ _ rfl rfl rfl),
             st_plain rfl (op_move _ _ _ _ (congrArg (fun b => AV.v (Value.bool b)) hg8_4) rfl),
             st_run 4 44 true rfl rfl rfl (List.Mem.head _) (op_move _ _ _ _ rfl rfl),
             st_run 4 44 true rfl rfl rfl (List.Mem.head _) (op_move _ _ _ _ rfl rfl),
             st_run 4 44 true rfl rfl rfl (List.Mem.head _) (op_ix _ _ _ _ _ _ _ _ Tryd.underlying36 sz4 (by decide) rfl rfl rfl (ix_ok hv9).1 (map_lt (ix_ok hv9).2) rfl),
             st_run 4 44 true rfl rfl rfl (List.Mem.head _) (op_load_e _ _ _ _ _ _ Tryd.underlying4 rfl rfl rfl (map_get hv10)),
             st_plain rfl (op_pick _ _ true _ rfl rfl),
             st_plain rfl (op_move _ _ _ _ (congrArg (fun b => AV.v (Value.bool b)) hg8_10) rfl),
             st_run 10 50 true rfl rfl rfl (List.Mem.head _) (op_move _ _ _ _ rfl rfl),
             st_run 10 50 true rfl rfl rfl (List.Mem.head _) (op_move _ _ _ _ rfl rfl),
             st_run 10 50 true rfl rfl rfl (List.Mem.head _) (op_ix_mk _ _ _ _ _ _ _ Tryd.underlying37 sz5 rfl rfl rfl (ix_ok hv11).1 (mk_lt' (ix_ok hv11).2) rfl),
             st_run 10 50 true rfl rfl rfl (List.Mem.head _) (op_load_mk _ _ _ _ _ _ Tryd.underlying5 rfl rfl rfl (map_get hv12)),
             st_run 10 50 true rfl rfl rfl (List.Mem.head _) (op_bin _ _ _ _ _ rfl rfl rfl),
             st_run 10 50 true rfl rfl rfl (List.Mem.head _) (op_move _ _ _ _ (congrArg (fun b => AV.v (Value.bool b)) hg8_16) rfl),
             st_skip 16 56 _ true rfl rfl rfl rfl (List.Mem.head _),
             st_skip 16 56 _ true rfl rfl rfl rfl (List.Mem.head _),
             st_skip 16 56 _ true rfl rfl rfl rfl (List.Mem.head _),
             st_skip 16 56 _ true rfl rfl rfl rfl (List.Mem.head _),
             st_skip 16 56 _ true rfl rfl rfl rfl (List.Mem.head _),
             st_run 10 50 true rfl rfl rfl (List.Mem.head _) (op_pick _ _ false _ rfl rfl),
             st_run 10 50 true rfl rfl rfl (List.Mem.head _) (op_move _ _ _ _ rfl rfl),
             st_run 23 63 false rfl rfl rfl (List.Mem.head _) (op_move _ _ _ _ rfl rfl),
             st_run 23 63 false rfl rfl rfl (List.Mem.head _) (op_move _ _ _ _ rfl rfl),
             st_run 23 63 false rfl rfl rfl (List.Mem.head _) (op_ix_mk _ _ _ _ _ _ _ Tryd.underlying37 sz5 rfl rfl rfl (ix_ok hv19).1 (mk_lt' (ix_ok hv19).2) rfl),
             st_run 23 63 false rfl rfl rfl (List.Mem.head _) (op_load_mk _ _ _ _ _ _ Tryd.underlying5 rfl rfl rfl (map_get hv20)),
             st_run 23 63 false rfl rfl rfl (List.Mem.head _) (op_bin _ _ _ _ _ rfl rfl rfl),
             st_run 23 63 false rfl rfl rfl (List.Mem.head _) (op_move _ _ _ _ (congrArg (fun b => AV.v (Value.bool b)) hg8_29) rfl),
             st_run 29 69 true rfl rfl rfl (List.Mem.head _) (op_move _ _ _ _ rfl rfl),
             st_run 29 69 true rfl rfl rfl (List.Mem.head _) (op_move _ _ _ _ rfl rfl),
             st_run 29 69 true rfl rfl rfl (List.Mem.head _) (op_ix_mk _ _ _ _ _ _ _ Tryd.underlying37 sz5 rfl rfl rfl (ix_ok hv21).1 (mk_lt' (ix_ok hv21).2) rfl),
             st_run 29 69 true rfl rfl rfl (List.Mem.head _) (op_load_mk _ _ _ _ _ _ Tryd.underlying5 rfl rfl rfl (map_get hv22)),
             st_run 29 69 true rfl rfl rfl (List.Mem.head _) (op_bin _ _ _ _ _ rfl rfl rfl),
             st_run 23 63 false rfl rfl rfl (List.Mem.head _) (op_pick _ _ true _ rfl rfl),
             st_run 10 50 true rfl rfl rfl (List.Mem.head _) (op_pick _ _ false _ rfl rfl),
             st_plain rfl (op_pick _ _ true _ rfl rfl),
             trivial⟩ ?_
            exact hl108 _ (Option.some.inj h).symm
           ·refine ht_seqR hn (El := (_ :: _ :: _ :: _ :: _ :: _ :: _ :: _ :: _ :: _ :: (40, .v (.int .i64 s65)) :: (41, .fl .shr 1 (List.map Value.bool flips)) :: (42, .v (.int .i64 (flips.length : Int))) :: (43, .v (.bool ((decide (s65 < (flips.length : Int)))))) :: (44, .v (.bool true)) :: (45, .fl .shr 1 (List.map Value.bool flips)) :: (46, .v (.int .i64 s65)) :: (47, .eref (.slot 45) (v9 * 1)) :: (48, .v (.bool v10)) :: (49, .v (.bool v10)) :: (50, .v (.bool true)) :: (51, .same (.slot 11)) :: (52, .v (.int .i64 s65)) :: (53, .eref (.slot 11) (v11 * 1)) :: (54, .v (.int .u8 v12)) :: (55, .v (.bool ((decide (97 ≤ v12))))) :: (56, .v (.bool false)) :: (57, .v undef) :: (58, .v undef) :: (59, .v undef) :: (60, .v undef) :: (61, .v undef) :: (62, .v (.bool false)) :: (63, .v (.bool false)) :: (64, .same (.slot 11)) :: (65, .v (.int .i64 s65)) :: (66, .eref (.slot 11) (v19 * 1)) :: (67, .v (.int .u8 v20)) :: (68, .v (.bool ((decide (65 ≤ v20))))) :: (69, .v (.bool false)) :: (70, .v undef) :: (71, .v undef) :: (72, .v undef) :: (73, .v undef) :: (74, .v undef) :: (75, .v (.bool false)) :: (76, .v (.bool false)) :: (77, .v (.bool false)) :: [])) (init := [0, 1, 2, 3, 4, 5, 6, 7, 8, 9]) (fin := [0, 1, 2, 3, 4, 5, 6, 7, 8, 47]) (sps := (⟨[8], [], [10], [(.slot 40)]⟩ :: ⟨[1], [], [11], [(.slot 41)]⟩ :: ⟨[11], [], [12], [(.slot 42)]⟩ :: ⟨[10, 12], [], [13], [(.slot 43)]⟩ :: ⟨[13], [], [14], [(.slot 44)]⟩ :: ⟨[14, 1], [], [15], [(.slot 45)]⟩ :: ⟨[14, 8], [], [16], [(.slot 46)]⟩ :: ⟨[14, 15, 16], [], [17], [(.slot 47)]⟩ :: ⟨[14, 17, 15], [], [18], [(.slot 48)]⟩ :: ⟨[14, 18], [], [19], [(.slot 49)]⟩ :: ⟨[19], [], [20], [(.slot 50)]⟩ :: ⟨[20, 7], [], [21], [(.slot 51)]⟩ :: ⟨[20, 8], [], [22], [(.slot 52)]⟩ :: ⟨[20, 21, 7, 22], [], [23], [(.slot 53)]⟩ :: ⟨[20, 23, 7], [], [24], [(.slot 54)]⟩ :: ⟨[20, 24], [], [25], [(.slot 55)]⟩ :: ⟨[20, 25], [], [26], [(.slot 56)]⟩ :: ⟨[26], [], [27], [(.slot 57)]⟩ :: ⟨[26], [], [28], [(.slot 58)]⟩ :: ⟨[26], [], [29], [(.slot 59)]⟩ :: ⟨[26], [], [30], [(.slot 60)]⟩ :: ⟨[26], [], [31], [(.slot 61)]⟩ :: ⟨[20, 26], [], [32], [(.slot 62)]⟩ :: ⟨[20, 32], [], [33], [(.slot 63)]⟩ :: ⟨[33, 7], [], [34], [(.slot 64)]⟩ :: ⟨[33, 8], [], [35], [(.slot 65)]⟩ :: ⟨[33, 34, 7, 35], [], [36], [(.slot 66)]⟩ :: ⟨[33, 36, 7], [], [37], [(.slot 67)]⟩ :: ⟨[33, 37], [], [38], [(.slot 68)]⟩ :: ⟨[33, 38], [], [39], [(.slot 69)]⟩ :: ⟨[39], [], [40], [(.slot 70)]⟩ :: ⟨[39], [], [41], [(.slot 71)]⟩ :: ⟨[39], [], [42], [(.slot 72)]⟩ :: ⟨[39], [], [43], [(.slot 73)]⟩ :: ⟨[39], [], [44], [(.slot 74)]⟩ :: ⟨[33, 39], [], [45], [(.slot 75)]⟩ :: ⟨[20, 33, 45], [], [46], [(.slot 76)]⟩ :: ⟨[20, 46], [], [47], [(.slot 77)]⟩ :: [])) (es' := [(_, _), (_, _), (_, _), (_, _), (_, _), (_, _), (_, _), (_, _), (_, _), (77, .v (.bool false))]) (by kernel_rfl) rfl rfl
             ⟨st_plain rfl (op_move _ _ _ _ rfl rfl),
             st_plain rfl (op_move _ _ _ _ rfl rfl),
             st_plain rfl (op_len_fl _ _ _ Tryd.underlying36 rfl (by decide) (map_len _)),
             st_plain rfl (op_bin _ _ _ _ _ rfl rfl rfl),
             st_plain rfl (op_move _ _ _ _ (congrArg (fun b => AV.v (Value.bool b)) hg8_4) rfl),
             st_run 4 44 true rfl rfl rfl (List.Mem.head _) (op_move _ _ _ _ rfl rfl),
             st_run 4 44 true rfl rfl rfl (List.Mem.head _) (op_move _ _ _ _ rfl rfl),
             st_run 4 44 true rfl rfl rfl (List.Mem.head _) (op_ix _ _ _ _ _ _ _ _ Tryd.underlying36 sz4 (by decide) rfl rfl rfl (ix_ok hv9).1 (map_lt (ix_ok hv9).2) rfl),
             st_run 4 44 true rfl rfl rfl (List.Mem.head _) (op_load_e _ _ _ _ _ _ Tryd.underlying4 rfl rfl rfl (map_get hv10)),
             st_plain rfl (op_pick _ _ true _ rfl rfl),
             st_plain rfl (op_move _ _ _ _ (congrArg (fun b => AV.v (Value.bool b)) hg8_10) rfl),
             st_run 10 50 true rfl rfl rfl (List.Mem.head _) (op_move _ _ _ _ rfl rfl),
             st_run 10 50 true rfl rfl rfl (List.Mem.head _) (op_move _ _ _ _ rfl rfl),
             st_run 10 50 true rfl rfl rfl (List.Mem.head _) (op_ix_mk _ _ _ _ _ _ _ Tryd.underlying37 sz5 rfl rfl rfl (ix_ok hv11).1 (mk_lt' (ix_ok hv11).2) rfl),
             st_run 10 50 true rfl rfl rfl (List.Mem.head _) (op_load_mk _ _ _ _ _ _ Tryd.underlying5 rfl rfl rfl (map_get hv12)),
             st_run 10 50 true rfl rfl rfl (List.Mem.head _) (op_bin _ _ _ _ _ rfl rfl rfl),
             st_run 10 50 true rfl rfl rfl (List.Mem.head _) (op_move _ _ _ _ (congrArg (fun b => AV.v (Value.bool b)) hg8_16) rfl),
             st_skip 16 56 _ true rfl rfl rfl rfl (List.Mem.head _),
             st_skip 16 56 _ true rfl rfl rfl rfl (List.Mem.head _),
             st_skip 16 56 _ true rfl rfl rfl rfl (List.Mem.head _),
             st_skip 16 56 _ true rfl rfl rfl rfl (List.Mem.head _),
             st_skip 16 56 _ true rfl rfl rfl rfl (List.Mem.head _),
             st_run 10 50 true rfl rfl rfl (List.Mem.head _) (op_pick _ _ false _ rfl rfl),
             st_run 10 50 true rfl rfl rfl (List.Mem.head _) (op_move _ _ _ _ rfl rfl),
             st_run 23 63 false rfl rfl rfl (List.Mem.head _) (op_move _ _ _ _ rfl rfl),
             st_run 23 63 false rfl rfl rfl (List.Mem.head _) (op_move _ _ _ _ rfl rfl),
             st_run 23 63 false rfl rfl rfl (List.Mem.head _) (op_ix_mk _ _ _ _ _ _ _ Tryd.underlying37 sz5 rfl rfl rfl (ix_ok hv19).1 (mk_lt' (ix_ok hv19).2) rfl),
             st_run 23 63 false rfl rfl rfl (List.Mem.head _) (op_load_mk _ _ _ _ _ _ Tryd.underlying5 rfl rfl rfl (map_get hv20)),
             st_run 23 63 false rfl rfl rfl (List.Mem.head _) (op_bin _ _ _ _ _ rfl rfl rfl),
             st_run 23 63 false rfl rfl rfl (List.Mem.head _) (op_move _ _ _ _ (congrArg (fun b => AV.v (Value.bool b)) hg8_29) rfl),
             st_skip 29 69 _ true rfl rfl rfl rfl (List.Mem.head _),
             st_skip 29 69 _ true rfl rfl rfl rfl (List.Mem.head _),
             st_skip 29 69 _ true rfl rfl rfl rfl (List.Mem.head _),
             st_skip 29 69 _ true rfl rfl rfl rfl (List.Mem.head _),
             st_skip 29 69 _ true rfl rfl rfl rfl (List.Mem.head _),
             st_run 23 63 false rfl rfl rfl (List.Mem.head _) (op_pick _ _ false _ rfl rfl),
             st_run 10 50 true rfl rfl rfl (List.Mem.head _) (op_pick _ _ false _ rfl rfl),
             st_plain rfl (op_pick _ _ true _ rfl rfl),
             trivial⟩ ?_
            exact hl108 _ (Option.some.inj h).symm
         ·refine ht_seqR hn (El := (_ :: _ :: _ :: _ :: _ :: _ :: _ :: _ :: _ :: _ :: (40, .v (.int .i64 s65)) :: (41, .fl .shr 1 (List.map Value.bool flips)) :: (42, .v (.int .i64 (flips.length : Int))) :: (43, .v (.bool ((decide (s65 < (flips.length : Int)))))) :: (44, .v (.bool true)) :: (45, .fl .shr 1 (List.map Value.bool flips)) :: (46, .v (.int .i64 s65)) :: (47, .eref (.slot 45) (v9 * 1)) :: (48, .v (.bool v10)) :: (49, .v (.bool v10)) :: (50, .v (.bool false)) :: (51, .v undef) :: (52, .v undef) :: (53, .v undef) :: (54, .v undef) :: (55, .v undef) :: (56, .v undef) :: (57, .v undef) :: (58, .v undef) :: (59, .v undef) :: (60, .v undef) :: (61, .v undef) :: (62, .v undef) :: (63, .v undef) :: (64, .v undef) :: (65, .v undef) :: (66, .v undef) :: (67, .v undef) :: (68, .v undef) :: (69, .v undef) :: (70, .v undef) :: (71, .v undef) :: (72, .v undef) :: (73, .v undef) :: (74, .v undef) :: (75, .v undef) :: (76, .v undef) :: (77, .v (.bool false)) :: [])) (init := [0, 1, 2, 3, 4, 5, 6, 7, 8, 9]) (fin := [0, 1, 2, 3, 4, 5, 6, 7, 8, 47]) (sps := (⟨[8], [], [10], [(.slot 40)]⟩ :: ⟨[1], [], [11], [(.slot 41)]⟩ :: ⟨[11], [], [12], [(.slot 42)]⟩ :: ⟨[10, 12], [], [13], [(.slot 43)]⟩ :: ⟨[13], [], [14], [(.slot 44)]⟩ :: ⟨[14, 1], [], [15], [(.slot 45)]⟩ :: ⟨[14, 8], [], [16], [(.slot 46)]⟩ :: ⟨[14, 15, 16], [], [17], [(.slot 47)]⟩ :: ⟨[14, 17, 15], [], [18], [(.slot 48)]⟩ :: ⟨[14, 18], [], [19], [(.slot 49)]⟩ :: ⟨[19], [], [20], [(.slot 50)]⟩ :: ⟨[20], [], [21], [(.slot 51)]⟩ :: ⟨[20], [], [22], [(.slot 52)]⟩ :: ⟨[20], [], [23], [(.slot 53)]⟩ :: ⟨[20], [], [24], [(.slot 54)]⟩ :: ⟨[20], [], [25], [(.slot 55)]⟩ :: ⟨[20], [], [26], [(.slot 56)]⟩ :: ⟨[26], [], [27], [(.slot 57)]⟩ :: ⟨[26], [], [28], [(.slot 58)]⟩ :: ⟨[26], [], [29], [(.slot 59)]⟩ :: ⟨[26], [], [30], [(.slot 60)]⟩ :: ⟨[26], [], [31], [(.slot 61)]⟩ :: ⟨[20], [], [32], [(.slot 62)]⟩ :: ⟨[20], [], [33], [(.slot 63)]⟩ :: ⟨[33], [], [34], [(.slot 64)]⟩ :: ⟨[33], [], [35], [(.slot 65)]⟩ :: ⟨[33], [], [36], [(.slot 66)]⟩ :: ⟨[33], [], [37], [(.slot 67)]⟩ :: ⟨[33], [], [38], [(.slot 68)]⟩ :: ⟨[33], [], [39], [(.slot 69)]⟩ :: ⟨[39], [], [40], [(.slot 70)]⟩ :: ⟨[39], [], [41], [(.slot 71)]⟩ :: ⟨[39], [], [42], [(.slot 72)]⟩ :: ⟨[39], [], [43], [(.slot 73)]⟩ :: ⟨[39], [], [44], [(.slot 74)]⟩ :: ⟨[33], [], [45], [(.slot 75)]⟩ :: ⟨[20], [], [46], [(.slot 76)]⟩ :: ⟨[20], [], [47], [(.slot 77)]⟩ :: [])) (es' := [(_, _), (_, _), (_, _), (_, _), (_, _), (_, _), (_, _), (_, _), (_, _), (77, .v (.bool false))]) (by kernel_rfl) rfl rfl
           ⟨st_plain rfl (op_move _ _ _ _ rfl rfl),
           st_plain rfl (op_move _ _ _ _ rfl rfl),
           st_plain rfl (op_len_fl _ _ _ Tryd.underlying36 rfl (by decide) (map_len _)),
           st_plain rfl (op_bin _ _ _ _ _ rfl rfl rfl),
           st_plain rfl (op_move _ _ _ _ (congrArg (fun b => AV.v (Value.bool b)) hg8_4) rfl),
           st_run 4 44 true rfl rfl rfl (List.Mem.head _) (op_move _ _ _ _ rfl rfl),
           st_run 4 44 true rfl rfl rfl (List.Mem.head _) (op_move _ _ _ _ rfl rfl),
           st_run 4 44 true rfl rfl rfl (List.Mem.head _) (op_ix _ _ _ _ _ _ _ _ Tryd.underlying36 sz4 (by decide) rfl rfl rfl (ix_ok hv9).1 (map_lt (ix_ok hv9).2) rfl),
           st_run 4 44 true rfl rfl rfl (List.Mem.head _) (op_load_e _ _ _ _ _ _ Tryd.underlying4 rfl rfl rfl (map_get hv10)),
           st_plain rfl (op_pick _ _ true _ rfl rfl),
           st_plain rfl (op_move _ _ _ _ (congrArg (fun b => AV.v (Value.bool b)) hg8_10) rfl),
           st_skip 10 50 _ true rfl rfl rfl rfl (List.Mem.head _),
           st_skip 10 50 _ true rfl rfl rfl rfl (List.Mem.head _),
           st_skip 10 50 _ true rfl rfl rfl rfl (List.Mem.head _),
           st_skip 10 50 _ true rfl rfl rfl rfl (List.Mem.head _),
           st_skip 10 50 _ true rfl rfl rfl rfl (List.Mem.head _),
           st_skip 10 50 _ true rfl rfl rfl rfl (List.Mem.head _),
           st_skipU 16 56 _ true rfl rfl rfl rfl (List.Mem.head _),
           st_skipU 16 56 _ true rfl rfl rfl rfl (List.Mem.head _),
           st_skipU 16 56 _ true rfl rfl rfl rfl (List.Mem.head _),
           st_skipU 16 56 _ true rfl rfl rfl rfl (List.Mem.head _),
           st_skipU 16 56 _ true rfl rfl rfl rfl (List.Mem.head _),
           st_skip 10 50 _ true rfl rfl rfl rfl (List.Mem.head _),
           st_skip 10 50 _ true rfl rfl rfl rfl (List.Mem.head _),
           st_skipU 23 63 _ false rfl rfl rfl rfl (List.Mem.head _),
           st_skipU 23 63 _ false rfl rfl rfl rfl (List.Mem.head _),
           st_skipU 23 63 _ false rfl rfl rfl rfl (List.Mem.head _),
           st_skipU 23 63 _ false rfl rfl rfl rfl (List.Mem.head _),
           st_skipU 23 63 _ false rfl rfl rfl rfl (List.Mem.head _),
           st_skipU 23 63 _ false rfl rfl rfl rfl (List.Mem.head _),
           st_skipU 29 69 _ true rfl rfl rfl rfl (List.Mem.head _),
           st_skipU 29 69 _ true rfl rfl rfl rfl (List.Mem.head _),
           st_skipU 29 69 _ true rfl rfl rfl rfl (List.Mem.head _),
           st_skipU 29 69 _ true rfl rfl rfl rfl (List.Mem.head _),
           st_skipU 29 69 _ true rfl rfl rfl rfl (List.Mem.head _),
           st_skipU 23 63 _ false rfl rfl rfl rfl (List.Mem.head _),
           st_skip 10 50 _ true rfl rfl rfl rfl (List.Mem.head _),
           st_plain rfl (op_pick _ _ false _ rfl rfl),
           trivial⟩ ?_
          exact hl108 _ (Option.some.inj h).symm
        ·refine ht_seqR hn (El := (_ :: _ :: _ :: _ :: _ :: _ :: _ :: _ :: _ :: _ :: (40, .v (.int .i64 s65)) :: (41, .fl .shr 1 (List.map Value.bool flips)) :: (42, .v (.int .i64 (flips.length : Int))) :: (43, .v (.bool ((decide (s65 < (flips.length : Int)))))) :: (44, .v (.bool false)) :: (45, .v undef) :: (46, .v undef) :: (47, .v undef) :: (48, .v undef) :: (49, .v (.bool false)) :: (50, .v (.bool false)) :: (51, .v undef) :: (52, .v undef) :: (53, .v undef) :: (54, .v undef) :: (55, .v undef) :: (56, .v undef) :: (57, .v undef) :: (58, .v undef) :: (59, .v undef) :: (60, .v undef) :: (61, .v undef) :: (62, .v undef) :: (63, .v undef) :: (64, .v undef) :: (65, .v undef) :: (66, .v undef) :: (67, .v undef) :: (68, .v undef) :: (69, .v undef) :: (70, .v undef) :: (71, .v undef) :: (72, .v undef) :: (73, .v undef) :: (74, .v undef) :: (75, .v undef) :: (76, .v undef) :: (77, .v (.bool false)) :: [])) (init := [0, 1, 2, 3, 4, 5, 6, 7, 8, 9]) (fin := [0, 1, 2, 3, 4, 5, 6, 7, 8, 47]) (sps := (⟨[8], [], [10], [(.slot 40)]⟩ :: ⟨[1], [], [11], [(.slot 41)]⟩ :: ⟨[11], [], [12], [(.slot 42)]⟩ :: ⟨[10, 12], [], [13], [(.slot 43)]⟩ :: ⟨[13], [], [14], [(.slot 44)]⟩ :: ⟨[14], [], [15], [(.slot 45)]⟩ :: ⟨[14], [], [16], [(.slot 46)]⟩ :: ⟨[14], [], [17], [(.slot 47)]⟩ :: ⟨[14], [], [18], [(.slot 48)]⟩ :: ⟨[14], [], [19], [(.slot 49)]⟩ :: ⟨[19], [], [20], [(.slot 50)]⟩ :: ⟨[20], [], [21], [(.slot 51)]⟩ :: ⟨[20], [], [22], [(.slot 52)]⟩ :: ⟨[20], [], [23], [(.slot 53)]⟩ :: ⟨[20], [], [24], [(.slot 54)]⟩ :: ⟨[20], [], [25], [(.slot 55)]⟩ :: ⟨[20], [], [26], [(.slot 56)]⟩ :: ⟨[26], [], [27], [(.slot 57)]⟩ :: ⟨[26], [], [28], [(.slot 58)]⟩ :: ⟨[26], [], [29], [(.slot 59)]⟩ :: ⟨[26], [], [30], [(.slot 60)]⟩ :: ⟨[26], [], [31], [(.slot 61)]⟩ :: ⟨[20], [], [32], [(.slot 62)]⟩ :: ⟨[20], [], [33], [(.slot 63)]⟩ :: ⟨[33], [], [34], [(.slot 64)]⟩ :: ⟨[33], [], [35], [(.slot 65)]⟩ :: ⟨[33], [], [36], [(.slot 66)]⟩ :: ⟨[33], [], [37], [(.slot 67)]⟩ :: ⟨[33], [], [38], [(.slot 68)]⟩ :: ⟨[33], [], [39], [(.slot 69)]⟩ :: ⟨[39], [], [40], [(.slot 70)]⟩ :: ⟨[39], [], [41], [(.slot 71)]⟩ :: ⟨[39], [], [42], [(.slot 72)]⟩ :: ⟨[39], [], [43], [(.slot 73)]⟩ :: ⟨[39], [], [44], [(.slot 74)]⟩ :: ⟨[33], [], [45], [(.slot 75)]⟩ :: ⟨[20], [], [46], [(.slot 76)]⟩ :: ⟨[20], [], [47], [(.slot 77)]⟩ :: [])) (es' := [(_, _), (_, _), (_, _), (_, _), (_, _), (_, _), (_, _), (_, _), (_, _), (77, .v (.bool false))]) (by kernel_rfl) rfl rfl
          ⟨st_plain rfl (op_move _ _ _ _ rfl rfl),
          st_plain rfl (op_move _ _ _ _ rfl rfl),
          st_plain rfl (op_len_fl _ _ _ Tryd.underlying36 rfl (by decide) (map_len _)),
          st_plain rfl (op_bin _ _ _ _ _ rfl rfl rfl),
          st_plain rfl (op_move _ _ _ _ (congrArg (fun b => AV.v (Value.bool b)) hg8_4) rfl),
          st_skip 4 44 _ true rfl rfl rfl rfl (List.Mem.head _),
          st_skip 4 44 _ true rfl rfl rfl rfl (List.Mem.head _),
          st_skip 4 44 _ true rfl rfl rfl rfl (List.Mem.head _),
          st_skip 4 44 _ true rfl rfl rfl rfl (List.Mem.head _),
          st_plain rfl (op_pick _ _ false _ rfl rfl),
          st_plain rfl (op_move _ _ _ _ rfl rfl),
          st_skip 10 50 _ true rfl rfl rfl rfl (List.Mem.head _),
          st_skip 10 50 _ true rfl rfl rfl rfl (List.Mem.head _),
          st_skip 10 50 _ true rfl rfl rfl rfl (List.Mem.head _),
          st_skip 10 50 _ true rfl rfl rfl rfl (List.Mem.head _),
          st_skip 10 50 _ true rfl rfl rfl rfl (List.Mem.head _),
          st_skip 10 50 _ true rfl rfl rfl rfl (List.Mem.head _),
          st_skipU 16 56 _ true rfl rfl rfl rfl (List.Mem.head _),
          st_skipU 16 56 _ true rfl rfl rfl rfl (List.Mem.head _),
          st_skipU 16 56 _ true rfl rfl rfl rfl (List.Mem.head _),
          st_skipU 16 56 _ true rfl rfl rfl rfl (List.Mem.head _),
          st_skipU 16 56 _ true rfl rfl rfl rfl (List.Mem.head _),
          st_skip 10 50 _ true rfl rfl rfl rfl (List.Mem.head _),
          st_skip 10 50 _ true rfl rfl rfl rfl (List.Mem.head _),
          st_skipU 23 63 _ false rfl rfl rfl rfl (List.Mem.head _),
          st_skipU 23 63 _ false rfl rfl rfl rfl (List.Mem.head _),
          st_skipU 23 63 _ false rfl rfl rfl rfl (List.Mem.head _),
          st_skipU 23 63 _ false rfl rfl rfl rfl (List.Mem.head _),
          st_skipU 23 63 _ false rfl rfl rfl rfl (List.Mem.head _),
          st_skipU 23 63 _ false rfl rfl rfl rfl (List.Mem.head _),
          st_skipU 29 69 _ true rfl rfl rfl rfl (List.Mem.head _),
          st_skipU 29 69 _ true rfl rfl rfl rfl (List.Mem.head _),
          st_skipU 29 69 _ true rfl rfl rfl rfl (List.Mem.head _),
          st_skipU 29 69 _ true rfl rfl rfl rfl (List.Mem.head _),
          st_skipU 29 69 _ true rfl rfl rfl rfl (List.Mem.head _),
          st_skipU 23 63 _ false rfl rfl rfl rfl (List.Mem.head _),
          st_skip 10 50 _ true rfl rfl rfl rfl (List.Mem.head _),
          st_plain rfl (op_pick _ _ false _ rfl rfl),
          trivial⟩ ?_
         exact hl108 _ (Option.some.inj h).symm
     ·have h := cond_f hb96 h
      refine ht_exit ?_
      refine pt_x_then ?_
      refine pt_x_then ?_
      refine pt_x_in ?_
      refine pt_pick [0, 2, 3, 4, 5, 6, 7] (by kernel_rfl) (es' := [(_, _), (_, _), (_, _), (_, _), (_, _), (_, _), (_, _)]) rfl ?_
      exact hl87 _ (ho89 _ (Option.some.inj h).symm).symm
    ·intro u93 h hl94 hr95
     refine cond_some h (fun hg6_2 h => ?_) (fun hg6_2 h => ?_)
     ·refine ht_seqR hn (El := (_ :: _ :: _ :: _ :: _ :: _ :: _ :: _ :: _ :: (30, .v (.int .i64 s65)) :: (31, .v (.bool ((decide (s65 < 4))))) :: (32, .v (.bool true)) :: (33, .v (.int .i64 s65)) :: (34, .same (.slot 11)) :: (35, .v (.int .i64 (s64.length : Int))) :: (36, .v (.bool ((decide (s65 < (s64.length : Int)))))) :: (37, .v (.bool ((decide (s65 < (s64.length : Int)))))) :: [])) (init := [0, 1, 2, 3, 4, 5, 6, 7, 8]) (fin := [0, 1, 2, 3, 4, 5, 6, 7, 8, 16]) (sps := [⟨[8], [], [9], [(.slot 30)]⟩, ⟨[9], [], [10], [(.slot 31)]⟩, ⟨[10], [], [11], [(.slot 32)]⟩, ⟨[11, 8], [], [12], [(.slot 33)]⟩, ⟨[11, 7], [], [13], [(.slot 34)]⟩, ⟨[11, 13, 7], [], [14], [(.slot 35)]⟩, ⟨[11, 12, 14], [], [15], [(.slot 36)]⟩, ⟨[11, 15], [], [16], [(.slot 37)]⟩]) (es' := [(_, _), (_, _), (_, _), (_, _), (_, _), (_, _), (_, _), (_, _), (_, _), (37, .v (.bool ((decide (s65 < (s64.length : Int))))))]) (by kernel_rfl) rfl rfl
       ⟨st_plain rfl (op_move _ _ _ _ rfl rfl),
       st_plain rfl (op_bin _ _ _ _ _ rfl rfl rfl),
       st_plain rfl (op_move _ _ _ _ (congrArg (fun b => AV.v (Value.bool b)) hg6_2) rfl),
       st_run 2 32 true rfl rfl rfl (List.Mem.head _) (op_move _ _ _ _ rfl rfl),
       st_run 2 32 true rfl rfl rfl (List.Mem.head _) (op_move _ _ _ _ rfl rfl),
       st_run 2 32 true rfl rfl rfl (List.Mem.head _) (op_len_mk _ _ _ Tryd.underlying37 rfl (List.length_map _)),
       st_run 2 32 true rfl rfl rfl (List.Mem.head _) (op_bin _ _ _ _ _ rfl rfl rfl),
       st_plain rfl (op_pick _ _ true _ rfl rfl),
       trivial⟩ ?_
      exact hl94 _ (Option.some.inj h).symm
     ·refine ht_seqR hn (El := (_ :: _ :: _ :: _ :: _ :: _ :: _ :: _ :: _ :: (30, .v (.int .i64 s65)) :: (31, .v (.bool ((decide (s65 < 4))))) :: (32, .v (.bool false)) :: (33, .v undef) :: (34, .v undef) :: (35, .v undef) :: (36, .v undef) :: (37, .v (.bool false)) :: [])) (init := [0, 1, 2, 3, 4, 5, 6, 7, 8]) (fin := [0, 1, 2, 3, 4, 5, 6, 7, 8, 16]) (sps := [⟨[8], [], [9], [(.slot 30)]⟩, ⟨[9], [], [10], [(.slot 31)]⟩, ⟨[10], [], [11], [(.slot 32)]⟩, ⟨[11], [], [12], [(.slot 33)]⟩, ⟨[11], [], [13], [(.slot 34)]⟩, ⟨[11], [], [14], [(.slot 35)]⟩, ⟨[11], [], [15], [(.slot 36)]⟩, ⟨[11], [], [16], [(.slot 37)]⟩]) (es' := [(_, _), (_, _), (_, _), (_, _), (_, _), (_, _), (_, _), (_, _), (_, _), (37, .v (.bool false))]) (by kernel_rfl) rfl rfl
       ⟨st_plain rfl (op_move _ _ _ _ rfl rfl),
       st_plain rfl (op_bin _ _ _ _ _ rfl rfl rfl),
       st_plain rfl (op_move _ _ _ _ (congrArg (fun b => AV.v (Value.bool b)) hg6_2) rfl),
       st_skip 2 32 _ true rfl rfl rfl rfl (List.Mem.head _),
       st_skip 2 32 _ true rfl rfl rfl rfl (List.Mem.head _),
       st_skip 2 32 _ true rfl rfl rfl rfl (List.Mem.head _),
       st_skip 2 32 _ true rfl rfl rfl rfl (List.Mem.head _),
       st_plain rfl (op_pick _ _ false _ rfl rfl),
       trivial⟩ ?_
      exact hl94 _ (Option.some.inj h).symm

end Go.Proofs.YthfmdofkkkpbkaaDoor
