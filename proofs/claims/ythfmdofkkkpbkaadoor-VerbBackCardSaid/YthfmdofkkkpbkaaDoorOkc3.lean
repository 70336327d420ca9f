/-
  The model's runs are what is told in Lean.
-/
import Derived.Test.YthfmdofkkkpbkaaDoorProg
import Derived.KernelRfl
import Derived.Test.YthfmdofkkkpbkaaDoorShelf
import Derived.Test.YthfmdofkkkpbkaaDoorOkc2
set_option linter.unusedVariables false
set_option linter.unusedSimpArgs false
namespace Go.Proofs.YthfmdofkkkpbkaaDoor
open Go.Abs Go.Abs.Sh

set_option maxHeartbeats 1000000 in
theorem ok_verb_pathCommand (mx : Int) (kind : Int) (line : ByteArray) (r : (T_Cmd × Bool)) (h : Sh.verb_pathCommand kind line = some r) : FnG Tryd.prog (GL mx) 35 [.v (.int .i64 kind), .v (.string line)] (.tup [.agg [.v (.int .i64 r.1.Kind), .v (.string r.1.Text), .v (.bool r.1.Path.Null), .v (.string r.1.Path.Local), .v (.string r.1.Path.Domain), .fl .ro 2 (List.flatten (List.map T_Param.enc r.1.Params))], .v (.bool r.2)]) := by
  unfold Sh.verb_pathCommand at h
  refine fn_okG Tryd.func35 rfl (Nat.le_of_ble_eq_true rfl) rfl rfl fun g0 hn hio => ?_
  refine ht_seq ?_
  refine ht_seqR hn (El := [_, _, _, (4, .box 26 [.v (.int .i64 0), .v (.string (⟨#[]⟩ : ByteArray)), .v (.bool false), .v (.string (⟨#[]⟩ : ByteArray)), .v (.string (⟨#[]⟩ : ByteArray)), .v (.slice none 0 0)]), (5, .v (.bool false))]) (init := [0, 1, 2]) (fin := [0, 1, 2, 3]) (sps := [⟨[], [], [3], [(.slot 4)]⟩, ⟨[], [], [4], [(.slot 5)]⟩]) (es' := [(_, _), (_, _), (_, _), (4, .box 26 [.v (.int .i64 0), .v (.string (⟨#[]⟩ : ByteArray)), .v (.bool false), .v (.string (⟨#[]⟩ : ByteArray)), .v (.string (⟨#[]⟩ : ByteArray)), .v (.slice none 0 0)])]) (by kernel_rfl) rfl rfl
   ⟨st_plain rfl (op_alloc _ _ zr26),
   st_plain rfl (op_assign _ _ _ _ rfl rfl),
   trivial⟩ ?_
  refine pt_then ?_
  refine ht_seq ?_
  obtain ⟨v1, hv1, h⟩ := bind_some h
  obtain ⟨v2, hv2, h⟩ := bind_some h
  refine ht_seqR hn (El := [_, _, _, _, (13, .v (.string line)), (14, .v (.int .i64 kind)), (15, .v (.string v1)), (16, .tup [.v (.string v2.1), .v (.bool v2.2)]), (12, .tup [.v (.string v2.1), .v (.bool v2.2)]), (17, .v (.string v2.1)), (18, .v (.bool v2.2)), (6, .v (.string v2.1)), (7, .v (.bool v2.2))]) (init := [0, 1, 2, 3]) (fin := [0, 2, 3, 11, 12]) (sps := [⟨[1], [], [4], [(.slot 13)]⟩, ⟨[0], [], [5], [(.slot 14)]⟩, ⟨[5], [], [6], [(.slot 15)]⟩, ⟨[4, 6], [], [7], [(.slot 16)]⟩, ⟨[], [7], [8], [(.slot 12)]⟩, ⟨[8], [], [9], [(.slot 17)]⟩, ⟨[8], [], [10], [(.slot 18)]⟩, ⟨[9], [], [11], [(.slot 6)]⟩, ⟨[10], [], [12], [(.slot 7)]⟩]) (es' := [(_, _), (_, _), (_, _), (6, .v (.string v2.1)), (7, .v (.bool v2.2))]) (by kernel_rfl) rfl rfl
   ⟨st_plain rfl (op_move _ _ _ _ rfl rfl),
   st_plain rfl (op_move _ _ _ _ rfl rfl),
   st_plain rfl (op_call _ _ 27 _ _ rfl Tryd.call27 rfl (ok_verb_opening kind _ hv1) rfl rfl),
   st_plain rfl (op_call _ _ 32 _ _ rfl Tryd.call32 rfl (ok_verb_cutFold line v1 _ hv2) rfl rfl),
   st_plain rfl (op_move_take _ _ _ _ rfl),
   st_plain rfl (op_extract _ _ _ _ _ rfl rfl (Nat.le_of_ble_eq_true rfl) rfl rfl),
   st_plain rfl (op_extract _ _ _ _ _ rfl rfl (Nat.le_of_ble_eq_true rfl) rfl rfl),
   st_plain rfl (op_assign _ _ _ _ rfl rfl),
   st_plain rfl (op_assign _ _ _ _ rfl rfl),
   trivial⟩ ?_
  refine pt_then ?_
  refine ht_seq ?_
  refine ht_seq ?_
  refine ht_seqR hn (El := [_, _, _, _, _, (19, .v (.bool v2.2)), (20, .v (.bool (!v2.2)))]) (init := [0, 1, 2, 3, 4]) (fin := [0, 1, 2, 3, 6]) (sps := [⟨[4], [], [5], [(.slot 19)]⟩, ⟨[5], [], [6], [(.slot 20)]⟩]) (es' := [(_, _), (_, _), (_, _), (_, _), (20, .v (.bool (!v2.2)))]) (by kernel_rfl) rfl rfl
   ⟨st_plain rfl (op_move _ _ _ _ rfl rfl),
   st_plain rfl (op_un _ _ _ _ rfl rfl),
   trivial⟩ ?_
  refine pt_then ?_
  refine ht_cond _ rfl (fun hb15 => ?_) (fun hb15 => ?_)
  ·have h := cond_t hb15 h
   refine ht_seq ?_
   refine ht_seqR hn (El := [_, _, _, _, _, (21, .agg [.v (.int .i64 0), .v (.string (⟨#[]⟩ : ByteArray)), .v (.bool false), .v (.string (⟨#[]⟩ : ByteArray)), .v (.string (⟨#[]⟩ : ByteArray)), .v (.slice none 0 0)]), (4, .box 26 [.v (.int .i64 0), .v (.string (⟨#[]⟩ : ByteArray)), .v (.bool false), .v (.string (⟨#[]⟩ : ByteArray)), .v (.string (⟨#[]⟩ : ByteArray)), .v (.slice none 0 0)]), (5, .v (.bool false))]) (init := [0, 1, 2, 3, 4]) (fin := [1, 6, 7]) (sps := [⟨[], [], [5], [(.slot 21)]⟩, ⟨[], [5, 2], [6], [.cell 4 0, .cell 4 1, .cell 4 2, .cell 4 3, .cell 4 4, .cell 4 5]⟩, ⟨[], [], [7], [(.slot 5)]⟩]) (es' := [(_, _), (4, .box 26 [.v (.int .i64 0), .v (.string (⟨#[]⟩ : ByteArray)), .v (.bool false), .v (.string (⟨#[]⟩ : ByteArray)), .v (.string (⟨#[]⟩ : ByteArray)), .v (.slice none 0 0)]), (5, .v (.bool false))]) (by kernel_rfl) rfl rfl
    ⟨st_plain rfl (op_build _ _ _ _ [1, 1, 3, 1] _ _ Tryd.underlying26 zr26 (fs26 _ Tryd.underlying26) Src.nil rfl rfl rfl),
    st_plain rfl (op_store_self _ _ _ 21 4 6 sz26 rfl rfl rfl rfl rfl (.eq _ (.eq _ (.eq _ (.eq _ (.eq _ (.eq _ (.nil _))))))) rfl),
    st_plain rfl (op_assign _ _ _ _ rfl rfl),
    trivial⟩ ?_
   refine pt_then ?_
   refine ht_ret ?_
   refine pt_pick [1, 2] (by kernel_rfl) (es' := [(_, _), (_, _)]) rfl ?_
   refine pt_sub (fs := [(4, .box 26 [.v (.int .i64 0), .v (.string (⟨#[]⟩ : ByteArray)), .v (.bool false), .v (.string (⟨#[]⟩ : ByteArray)), .v (.string (⟨#[]⟩ : ByteArray)), .fl (.own 46) 2 (List.flatten (List.map T_Param.enc []))]), (5, .v (.bool false))]) (.box _ _ (subs_cons (sub_refl _) (subs_cons (sub_refl _) (subs_cons (sub_refl _) (subs_cons (sub_refl _) (subs_cons (sub_refl _) (subs_cons (sub_nil 46 2) (subs_nil))))))) rfl (.same _ .nil)) ?_
   refine pt_frz 0 hio (es' := [(4, .box 26 [.v (.int .i64 0), .v (.string (⟨#[]⟩ : ByteArray)), .v (.bool false), .v (.string (⟨#[]⟩ : ByteArray)), .v (.string (⟨#[]⟩ : ByteArray)), .fl .ro 2 (List.flatten (List.map T_Param.enc []))]), (5, .v (.bool false))]) rfl ?_
   refine pt_r_then ?_
   obtain rfl := Option.some.inj h
   exact pt_ret hio rfl (.cellA _ _ _ _ Tryd.underlying26 rfl sz26 (.tmp _ _ .nil)) rfl rfl
  ·have h := cond_f hb15 h
   refine ht_skip ?_
   refine pt_then ?_
   refine ht_seq ?_
   obtain ⟨v4, hv4, h⟩ := bind_some h
   obtain ⟨v5, hv5, h⟩ := bind_some h
   refine ht_seqR hn (El := [_, _, _, _, _, (22, .v (.string v2.1)), (23, .v (.int .i64 v4)), (24, .v (.int .i64 v5)), (8, .v (.int .i64 v5))]) (init := [0, 1, 2, 3, 4]) (fin := [0, 1, 2, 3, 8]) (sps := [⟨[3], [], [5], [(.slot 22)]⟩, ⟨[5], [], [6], [(.slot 23)]⟩, ⟨[6], [], [7], [(.slot 24)]⟩, ⟨[7], [], [8], [(.slot 8)]⟩]) (es' := [(_, _), (_, _), (_, _), (_, _), (8, .v (.int .i64 v5))]) (by kernel_rfl) rfl rfl
    ⟨st_plain rfl (op_move _ _ _ _ rfl rfl),
    st_plain rfl (op_call _ _ 41 _ _ rfl Tryd.call41 rfl (ok_strings_Index v2.1 (⟨#[62]⟩ : ByteArray) _ hv4) rfl rfl),
    st_plain rfl (op_bin _ _ _ _ _ rfl rfl (ibind (f := Value.int .i64) (Option.some.inj hv5))),
    st_plain rfl (op_assign _ _ _ _ rfl rfl),
    trivial⟩ ?_
   refine pt_then ?_
   refine ht_seq ?_
   obtain ⟨v6, hv6, h⟩ := bind_some h
   obtain ⟨v7, hv7, h⟩ := bind_some h
   refine ht_seqR hn (El := (_ :: _ :: _ :: _ :: _ :: (26, .v (.string v2.1)) :: (27, .v (.int .i64 v5)) :: (28, .v (.string v6)) :: (29, .tup [.agg [.v (.bool v7.1.Null), .v (.string v7.1.Local), .v (.string v7.1.Domain)], .v (.int .i64 v7.2)]) :: (25, .tup [.agg [.v (.bool v7.1.Null), .v (.string v7.1.Local), .v (.string v7.1.Domain)], .v (.int .i64 v7.2)]) :: (30, .agg [.v (.bool v7.1.Null), .v (.string v7.1.Local), .v (.string v7.1.Domain)]) :: (31, .v (.int .i64 v7.2)) :: (9, .box 23 [.v (.bool false), .v (.string (⟨#[]⟩ : ByteArray)), .v (.string (⟨#[]⟩ : ByteArray))]) :: (9, .box 23 [.v (.bool v7.1.Null), .v (.string v7.1.Local), .v (.string v7.1.Domain)]) :: (10, .v (.int .i64 v7.2)) :: [])) (init := [0, 1, 2, 3, 4]) (fin := [0, 1, 2, 3, 4, 13, 14]) (sps := [⟨[3], [], [5], [(.slot 26)]⟩, ⟨[4], [], [6], [(.slot 27)]⟩, ⟨[5, 6], [], [7], [(.slot 28)]⟩, ⟨[7, 1], [], [8], [(.slot 29)]⟩, ⟨[], [8], [9], [(.slot 25)]⟩, ⟨[9], [], [10], [(.slot 30)]⟩, ⟨[9], [], [11], [(.slot 31)]⟩, ⟨[], [], [12], [(.slot 9)]⟩, ⟨[10], [12], [13], [.cell 9 0, .cell 9 1, .cell 9 2]⟩, ⟨[11], [], [14], [(.slot 10)]⟩]) (es' := [(_, _), (_, _), (_, _), (_, _), (_, _), (9, .box 23 [.v (.bool v7.1.Null), .v (.string v7.1.Local), .v (.string v7.1.Domain)]), (10, .v (.int .i64 v7.2))]) (by kernel_rfl) rfl rfl
    ⟨st_plain rfl (op_move _ _ _ _ rfl rfl),
    st_plain rfl (op_move _ _ _ _ rfl rfl),
    st_plain rfl (op_substr _ _ _ 0 v5 _ Tryd.underlying9 rfl rfl ⟨_, rfl⟩ hv6),
    st_plain rfl (op_callG _ _ 56 42 _ _ rfl Tryd.call42 rfl rfl (fun _ h => h) (ok_path_Parse mx v6 _ hv7) rfl rfl),
    st_plain rfl (op_move_take _ _ _ _ rfl),
    st_plain rfl (op_extract_no _ _ _ _ _ _ rfl rfl (Nat.le_of_ble_eq_true rfl) rfl rfl),
    st_plain rfl (op_extract _ _ _ _ _ rfl rfl (Nat.le_of_ble_eq_true rfl) rfl rfl),
    st_plain rfl (op_alloc _ _ zr23),
    st_plain rfl (op_store _ _ _ _ _ _ _ _ sz23 rfl rfl rfl rfl (Nat.le_of_ble_eq_true rfl) rfl rfl),
    st_plain rfl (op_assign _ _ _ _ rfl rfl),
    trivial⟩ ?_
   refine pt_then ?_
   refine ht_seq ?_
   refine ht_seq ?_
   refine ht_joinS h (fun (s16 : Bool) => [(0, .v (.int .i64 kind)), (56, .glob (GL mx)), (4, .box 26 [.v (.int .i64 0), .v (.string (⟨#[]⟩ : ByteArray)), .v (.bool false), .v (.string (⟨#[]⟩ : ByteArray)), .v (.string (⟨#[]⟩ : ByteArray)), .v (.slice none 0 0)]), (6, .v (.string v2.1)), (8, .v (.int .i64 v5)), (9, .box 23 [.v (.bool v7.1.Null), .v (.string v7.1.Local), .v (.string v7.1.Domain)]), (41, .v (.bool s16))]) ?_ ?_
   ·rintro s16 h
    refine pt_then ?_
    refine ht_cond _ rfl (fun hb20 => ?_) (fun hb20 => ?_)
    ·have h := cond_t hb20 h
     refine ht_seq ?_
     refine ht_seqR hn (El := [_, _, _, _, _, _, _, (42, .agg [.v (.int .i64 0), .v (.string (⟨#[]⟩ : ByteArray)), .v (.bool false), .v (.string (⟨#[]⟩ : ByteArray)), .v (.string (⟨#[]⟩ : ByteArray)), .v (.slice none 0 0)]), (4, .box 26 [.v (.int .i64 0), .v (.string (⟨#[]⟩ : ByteArray)), .v (.bool false), .v (.string (⟨#[]⟩ : ByteArray)), .v (.string (⟨#[]⟩ : ByteArray)), .v (.slice none 0 0)]), (5, .v (.bool false))]) (init := [0, 1, 2, 3, 4, 5, 6]) (fin := [1, 8, 9]) (sps := [⟨[], [], [7], [(.slot 42)]⟩, ⟨[], [7, 2], [8], [.cell 4 0, .cell 4 1, .cell 4 2, .cell 4 3, .cell 4 4, .cell 4 5]⟩, ⟨[], [], [9], [(.slot 5)]⟩]) (es' := [(_, _), (4, .box 26 [.v (.int .i64 0), .v (.string (⟨#[]⟩ : ByteArray)), .v (.bool false), .v (.string (⟨#[]⟩ : ByteArray)), .v (.string (⟨#[]⟩ : ByteArray)), .v (.slice none 0 0)]), (5, .v (.bool false))]) (by kernel_rfl) rfl rfl
      ⟨st_plain rfl (op_build _ _ _ _ [1, 1, 3, 1] _ _ Tryd.underlying26 zr26 (fs26 _ Tryd.underlying26) Src.nil rfl rfl rfl),
      st_plain rfl (op_store_self _ _ _ 42 4 6 sz26 rfl rfl rfl rfl rfl (.eq _ (.eq _ (.eq _ (.eq _ (.eq _ (.eq _ (.nil _))))))) rfl),
      st_plain rfl (op_assign _ _ _ _ rfl rfl),
      trivial⟩ ?_
     refine pt_then ?_
     refine ht_ret ?_
     refine pt_pick [1, 2] (by kernel_rfl) (es' := [(_, _), (_, _)]) rfl ?_
     refine pt_sub (fs := [(4, .box 26 [.v (.int .i64 0), .v (.string (⟨#[]⟩ : ByteArray)), .v (.bool false), .v (.string (⟨#[]⟩ : ByteArray)), .v (.string (⟨#[]⟩ : ByteArray)), .fl (.own 46) 2 (List.flatten (List.map T_Param.enc []))]), (5, .v (.bool false))]) (.box _ _ (subs_cons (sub_refl _) (subs_cons (sub_refl _) (subs_cons (sub_refl _) (subs_cons (sub_refl _) (subs_cons (sub_refl _) (subs_cons (sub_nil 46 2) (subs_nil))))))) rfl (.same _ .nil)) ?_
     refine pt_frz 0 hio (es' := [(4, .box 26 [.v (.int .i64 0), .v (.string (⟨#[]⟩ : ByteArray)), .v (.bool false), .v (.string (⟨#[]⟩ : ByteArray)), .v (.string (⟨#[]⟩ : ByteArray)), .fl .ro 2 (List.flatten (List.map T_Param.enc []))]), (5, .v (.bool false))]) rfl ?_
     refine pt_r_then ?_
     obtain rfl := Option.some.inj h
     exact pt_ret hio rfl (.cellA _ _ _ _ Tryd.underlying26 rfl sz26 (.tmp _ _ .nil)) rfl rfl
    ·have h := cond_f hb20 h
     refine ht_skip ?_
     refine pt_then ?_
     refine ht_seq ?_
     obtain ⟨v13, hv13, h⟩ := bind_some h
     obtain ⟨v14, hv14, h⟩ := bind_some h
     refine ht_seqR hn (El := (_ :: _ :: _ :: _ :: _ :: _ :: _ :: (44, .v (.int .i64 kind)) :: (45, .v (.string v2.1)) :: (46, .v (.int .i64 v5)) :: (47, .v (.string v13)) :: (48, .tup [.fl .ro 2 (List.flatten (List.map T_Param.enc v14.1)), .v (.bool v14.2)]) :: (43, .tup [.fl .ro 2 (List.flatten (List.map T_Param.enc v14.1)), .v (.bool v14.2)]) :: (49, .fl .ro 2 (List.flatten (List.map T_Param.enc v14.1))) :: (50, .v (.bool v14.2)) :: (11, .fl .ro 2 (List.flatten (List.map T_Param.enc v14.1))) :: (7, .v (.bool v14.2)) :: [])) (init := [0, 1, 2, 3, 4, 5, 6]) (fin := [0, 1, 2, 5, 15, 16]) (sps := [⟨[0], [], [7], [(.slot 44)]⟩, ⟨[3], [], [8], [(.slot 45)]⟩, ⟨[4], [], [9], [(.slot 46)]⟩, ⟨[8, 9], [], [10], [(.slot 47)]⟩, ⟨[7, 10, 1], [], [11], [(.slot 48)]⟩, ⟨[], [11], [12], [(.slot 43)]⟩, ⟨[12], [], [13], [(.slot 49)]⟩, ⟨[12], [], [14], [(.slot 50)]⟩, ⟨[13], [], [15], [(.slot 11)]⟩, ⟨[14], [], [16], [(.slot 7)]⟩]) (es' := [(_, _), (_, _), (_, _), (_, _), (11, .fl .ro 2 (List.flatten (List.map T_Param.enc v14.1))), (7, .v (.bool v14.2))]) (by kernel_rfl) rfl rfl
      ⟨st_plain rfl (op_move _ _ _ _ rfl rfl),
      st_plain rfl (op_move _ _ _ _ rfl rfl),
      st_plain rfl (op_move _ _ _ _ rfl rfl),
      st_plain rfl (op_substr _ _ _ v5 (v2.1.size : Int) _ Tryd.underlying9 rfl ⟨_, rfl⟩ rfl hv13),
      st_plain rfl (op_callG _ _ 56 43 _ _ rfl Tryd.call43 rfl rfl (fun _ h => h) (ok_verb_parameters mx kind v13 _ hv14) rfl rfl),
      st_plain rfl (op_move_take _ _ _ _ rfl),
      st_plain rfl (op_extract _ _ _ _ _ rfl rfl (Nat.le_of_ble_eq_true rfl) rfl rfl),
      st_plain rfl (op_extract _ _ _ _ _ rfl rfl (Nat.le_of_ble_eq_true rfl) rfl rfl),
      st_plain rfl (op_assign _ _ _ _ rfl rfl),
      st_plain rfl (op_assign _ _ _ _ rfl rfl),
      trivial⟩ ?_
     refine pt_then ?_
     refine ht_seq ?_
     refine ht_seqR hn (El := [_, _, _, _, _, _, (51, .v (.int .i64 kind)), (52, .agg [.v (.bool v7.1.Null), .v (.string v7.1.Local), .v (.string v7.1.Domain)]), (53, .fl .ro 2 (List.flatten (List.map T_Param.enc v14.1))), (54, .agg [.v (.int .i64 kind), .v (.string (⟨#[]⟩ : ByteArray)), .v (.bool v7.1.Null), .v (.string v7.1.Local), .v (.string v7.1.Domain), .fl .ro 2 (List.flatten (List.map T_Param.enc v14.1))]), (55, .v (.bool v14.2)), (4, .box 26 [.v (.int .i64 kind), .v (.string (⟨#[]⟩ : ByteArray)), .v (.bool v7.1.Null), .v (.string v7.1.Local), .v (.string v7.1.Domain), .fl .ro 2 (List.flatten (List.map T_Param.enc v14.1))]), (5, .v (.bool v14.2))]) (init := [0, 1, 2, 3, 4, 5]) (fin := [1, 11, 12]) (sps := [⟨[0], [], [6], [(.slot 51)]⟩, ⟨[3], [], [7], [(.slot 52)]⟩, ⟨[4], [], [8], [(.slot 53)]⟩, ⟨[6, 7, 8], [], [9], [(.slot 54)]⟩, ⟨[5], [], [10], [(.slot 55)]⟩, ⟨[9], [2], [11], [.cell 4 0, .cell 4 1, .cell 4 2, .cell 4 3, .cell 4 4, .cell 4 5]⟩, ⟨[10], [], [12], [(.slot 5)]⟩]) (es' := [(_, _), (4, .box 26 [.v (.int .i64 kind), .v (.string (⟨#[]⟩ : ByteArray)), .v (.bool v7.1.Null), .v (.string v7.1.Local), .v (.string v7.1.Domain), .fl .ro 2 (List.flatten (List.map T_Param.enc v14.1))]), (5, .v (.bool v14.2))]) (by kernel_rfl) rfl rfl
      ⟨st_plain rfl (op_move _ _ _ _ rfl rfl),
      st_plain rfl (op_loadA _ _ _ _ _ _ _ Tryd.underlying23 rfl sz23 rfl rfl (Nat.le_of_ble_eq_true rfl) rfl rfl),
      st_plain rfl (op_move _ _ _ _ rfl rfl),
      st_plain rfl (op_build _ _ _ _ [1, 1, 3, 1] _ _ Tryd.underlying26 zr26 (fs26 _ Tryd.underlying26) (.copy _ (.copy _ (.copy _ Src.nil))) rfl rfl rfl),
      st_plain rfl (op_move _ _ _ _ rfl rfl),
      st_plain rfl (op_store _ _ _ _ _ _ _ _ sz26 rfl rfl rfl rfl (Nat.le_of_ble_eq_true rfl) rfl rfl),
      st_plain rfl (op_assign _ _ _ _ rfl rfl),
      trivial⟩ ?_
     refine pt_then ?_
     refine ht_ret ?_
     refine pt_pick [1, 2] (by kernel_rfl) (es' := [(_, _), (_, _)]) rfl ?_
     obtain rfl := Option.some.inj h
     exact pt_ret hio rfl (.cellA _ _ _ _ Tryd.underlying26 rfl sz26 (.tmp _ _ .nil)) rfl rfl
   ·intro u17 h hl18 hr19
    refine cond_some h (fun hg6_2 h => ?_) (fun hg6_2 h => ?_)
    ·refine ht_seqR hn (El := (_ :: _ :: _ :: _ :: _ :: _ :: _ :: (32, .v (.int .i64 v7.2)) :: (33, .v (.bool (v7.2 != 0))) :: (34, .v (.bool true)) :: (35, .v undef) :: (36, .v undef) :: (37, .v undef) :: (38, .v undef) :: (39, .v undef) :: (40, .v undef) :: (41, .v (.bool true)) :: [])) (init := [0, 1, 2, 3, 4, 5, 6]) (fin := [0, 1, 2, 3, 4, 5, 16]) (sps := [⟨[6], [], [7], [(.slot 32)]⟩, ⟨[7], [], [8], [(.slot 33)]⟩, ⟨[8], [], [9], [(.slot 34)]⟩, ⟨[9], [], [10], [(.slot 35)]⟩, ⟨[9], [], [11], [(.slot 36)]⟩, ⟨[9], [], [12], [(.slot 37)]⟩, ⟨[12], [], [13], [(.slot 38)]⟩, ⟨[12], [], [14], [(.slot 39)]⟩, ⟨[9], [], [15], [(.slot 40)]⟩, ⟨[9], [], [16], [(.slot 41)]⟩]) (es' := [(_, _), (_, _), (_, _), (_, _), (_, _), (_, _), (41, .v (.bool true))]) (by kernel_rfl) rfl rfl
      ⟨st_plain rfl (op_move _ _ _ _ rfl rfl),
      st_plain rfl (op_bin _ _ _ _ _ rfl rfl rfl),
      st_plain rfl (op_move _ _ _ _ (congrArg (fun b => AV.v (Value.bool b)) hg6_2) rfl),
      st_skip 2 34 _ false rfl rfl rfl rfl (List.Mem.head _),
      st_skip 2 34 _ false rfl rfl rfl rfl (List.Mem.head _),
      st_skip 2 34 _ false rfl rfl rfl rfl (List.Mem.head _),
      st_skipU 5 37 _ true rfl rfl rfl rfl (List.Mem.head _),
      st_skipU 5 37 _ true rfl rfl rfl rfl (List.Mem.head _),
      st_skip 2 34 _ false rfl rfl rfl rfl (List.Mem.head _),
      st_plain rfl (op_pick _ _ true _ rfl rfl),
      trivial⟩ ?_
     exact hl18 _ (Option.some.inj h).symm
    ·refine cond_some h (fun hg6_5 h => ?_) (fun hg6_5 h => ?_)
     ·refine ht_seqR hn (El := (_ :: _ :: _ :: _ :: _ :: _ :: _ :: (32, .v (.int .i64 v7.2)) :: (33, .v (.bool (v7.2 != 0))) :: (34, .v (.bool false)) :: (35, .v (.int .i64 kind)) :: (36, .v (.bool (kind == 3))) :: (37, .v (.bool true)) :: (38, .ptr 9 0) :: (39, .v (.bool v7.1.Null)) :: (40, .v (.bool v7.1.Null)) :: (41, .v (.bool v7.1.Null)) :: [])) (init := [0, 1, 2, 3, 4, 5, 6]) (fin := [0, 1, 2, 3, 4, 5, 16]) (sps := [⟨[6], [], [7], [(.slot 32)]⟩, ⟨[7], [], [8], [(.slot 33)]⟩, ⟨[8], [], [9], [(.slot 34)]⟩, ⟨[9, 0], [], [10], [(.slot 35)]⟩, ⟨[9, 10], [], [11], [(.slot 36)]⟩, ⟨[9, 11], [], [12], [(.slot 37)]⟩, ⟨[12, 5], [], [13], [(.slot 38)]⟩, ⟨[12, 13, 5], [], [14], [(.slot 39)]⟩, ⟨[9, 12, 14], [], [15], [(.slot 40)]⟩, ⟨[9, 15], [], [16], [(.slot 41)]⟩]) (es' := [(_, _), (_, _), (_, _), (_, _), (_, _), (_, _), (41, .v (.bool v7.1.Null))]) (by kernel_rfl) rfl rfl
       ⟨st_plain rfl (op_move _ _ _ _ rfl rfl),
       st_plain rfl (op_bin _ _ _ _ _ rfl rfl rfl),
       st_plain rfl (op_move _ _ _ _ (congrArg (fun b => AV.v (Value.bool b)) hg6_2) rfl),
       st_run 2 34 false rfl rfl rfl (List.Mem.head _) (op_move _ _ _ _ rfl rfl),
       st_run 2 34 false rfl rfl rfl (List.Mem.head _) (op_bin _ _ _ _ _ rfl rfl rfl),
       st_run 2 34 false rfl rfl rfl (List.Mem.head _) (op_move _ _ _ _ (congrArg (fun b => AV.v (Value.bool b)) hg6_5) rfl),
       st_run 5 37 true rfl rfl rfl (List.Mem.head _) (op_fieldAddr _ _ _ _ 9 0 _ Tryd.underlying23 rfl sz4 rfl rfl (by decide)),
       st_run 5 37 true rfl rfl rfl (List.Mem.head _) (op_load _ _ _ _ _ _ Tryd.underlying4 rfl rfl rfl (Nat.le_of_ble_eq_true rfl) rfl rfl rfl),
       st_run 2 34 false rfl rfl rfl (List.Mem.head _) (op_pick _ _ true _ rfl rfl),
       st_plain rfl (op_pick _ _ false _ rfl rfl),
       trivial⟩ ?_
      exact hl18 _ (Option.some.inj h).symm
     ·refine ht_seqR hn (El := (_ :: _ :: _ :: _ :: _ :: _ :: _ :: (32, .v (.int .i64 v7.2)) :: (33, .v (.bool (v7.2 != 0))) :: (34, .v (.bool false)) :: (35, .v (.int .i64 kind)) :: (36, .v (.bool (kind == 3))) :: (37, .v (.bool false)) :: (38, .v undef) :: (39, .v undef) :: (40, .v (.bool false)) :: (41, .v (.bool false)) :: [])) (init := [0, 1, 2, 3, 4, 5, 6]) (fin := [0, 1, 2, 3, 4, 5, 16]) (sps := [⟨[6], [], [7], [(.slot 32)]⟩, ⟨[7], [], [8], [(.slot 33)]⟩, ⟨[8], [], [9], [(.slot 34)]⟩, ⟨[9, 0], [], [10], [(.slot 35)]⟩, ⟨[9, 10], [], [11], [(.slot 36)]⟩, ⟨[9, 11], [], [12], [(.slot 37)]⟩, ⟨[12], [], [13], [(.slot 38)]⟩, ⟨[12], [], [14], [(.slot 39)]⟩, ⟨[9, 12], [], [15], [(.slot 40)]⟩, ⟨[9, 15], [], [16], [(.slot 41)]⟩]) (es' := [(_, _), (_, _), (_, _), (_, _), (_, _), (_, _), (41, .v (.bool false))]) (by kernel_rfl) rfl rfl
       ⟨st_plain rfl (op_move _ _ _ _ rfl rfl),
       st_plain rfl (op_bin _ _ _ _ _ rfl rfl rfl),
       st_plain rfl (op_move _ _ _ _ (congrArg (fun b => AV.v (Value.bool b)) hg6_2) rfl),
       st_run 2 34 false rfl rfl rfl (List.Mem.head _) (op_move _ _ _ _ rfl rfl),
       st_run 2 34 false rfl rfl rfl (List.Mem.head _) (op_bin _ _ _ _ _ rfl rfl rfl),
       st_run 2 34 false rfl rfl rfl (List.Mem.head _) (op_move _ _ _ _ (congrArg (fun b => AV.v (Value.bool b)) hg6_5) rfl),
       st_skip 5 37 _ true rfl rfl rfl rfl (List.Mem.head _),
       st_skip 5 37 _ true rfl rfl rfl rfl (List.Mem.head _),
       st_run 2 34 false rfl rfl rfl (List.Mem.head _) (op_pick _ _ false _ rfl rfl),
       st_plain rfl (op_pick _ _ false _ rfl rfl),
       trivial⟩ ?_
      exact hl18 _ (Option.some.inj h).symm

set_option maxHeartbeats 1000000 in
theorem ok_verb_command (mx : Int) (line : ByteArray) (r : (T_Cmd × Bool)) (h : Sh.verb_command line = some r) : FnG Tryd.prog (GL mx) 19 [.v (.string line)] (.tup [.agg [.v (.int .i64 r.1.Kind), .v (.string r.1.Text), .v (.bool r.1.Path.Null), .v (.string r.1.Path.Local), .v (.string r.1.Path.Domain), .fl .ro 2 (List.flatten (List.map T_Param.enc r.1.Params))], .v (.bool r.2)]) := by
  unfold Sh.verb_command at h
  refine fn_okG Tryd.func19 rfl (Nat.le_of_ble_eq_true rfl) rfl rfl fun g0 hn hio => ?_
  refine ht_seq ?_
  refine ht_seqR hn (El := [_, _, (2, .box 26 [.v (.int .i64 0), .v (.string (⟨#[]⟩ : ByteArray)), .v (.bool false), .v (.string (⟨#[]⟩ : ByteArray)), .v (.string (⟨#[]⟩ : ByteArray)), .v (.slice none 0 0)]), (3, .v (.bool false))]) (init := [0, 1]) (fin := [0, 1, 2]) (sps := [⟨[], [], [2], [(.slot 2)]⟩, ⟨[], [], [3], [(.slot 3)]⟩]) (es' := [(_, _), (_, _), (2, .box 26 [.v (.int .i64 0), .v (.string (⟨#[]⟩ : ByteArray)), .v (.bool false), .v (.string (⟨#[]⟩ : ByteArray)), .v (.string (⟨#[]⟩ : ByteArray)), .v (.slice none 0 0)])]) (by kernel_rfl) rfl rfl
   ⟨st_plain rfl (op_alloc _ _ zr26),
   st_plain rfl (op_assign _ _ _ _ rfl rfl),
   trivial⟩ ?_
  refine pt_then ?_
  refine ht_seq ?_
  obtain ⟨v1, hv1, h⟩ := bind_some h
  refine ht_seqR hn (El := [_, _, _, (9, .v (.string line)), (10, .tup [.v (.string v1.1), .v (.string v1.2.1), .v (.bool v1.2.2)]), (8, .tup [.v (.string v1.1), .v (.string v1.2.1), .v (.bool v1.2.2)]), (11, .v (.string v1.1)), (12, .v (.string v1.2.1)), (13, .v (.bool v1.2.2)), (4, .v (.string v1.1)), (5, .v (.string v1.2.1)), (6, .v (.bool v1.2.2))]) (init := [0, 1, 2]) (fin := [0, 1, 2, 10, 11]) (sps := [⟨[0], [], [3], [(.slot 9)]⟩, ⟨[3], [], [4], [(.slot 10)]⟩, ⟨[], [4], [5], [(.slot 8)]⟩, ⟨[5], [], [6], [(.slot 11)]⟩, ⟨[5], [], [7], [(.slot 12)]⟩, ⟨[5], [], [8], [(.slot 13)]⟩, ⟨[6], [], [9], [(.slot 4)]⟩, ⟨[7], [], [10], [(.slot 5)]⟩, ⟨[8], [], [11], [(.slot 6)]⟩]) (es' := [(_, _), (_, _), (_, _), (5, .v (.string v1.2.1)), (6, .v (.bool v1.2.2))]) (by kernel_rfl) rfl rfl
   ⟨st_plain rfl (op_move _ _ _ _ rfl rfl),
   st_plain rfl (op_call _ _ 30 _ _ rfl Tryd.call30 rfl (ok_strings_Cut line (⟨#[32]⟩ : ByteArray) _ hv1) rfl rfl),
   st_plain rfl (op_move_take _ _ _ _ rfl),
   st_plain rfl (op_extract _ _ _ _ _ rfl rfl (Nat.le_of_ble_eq_true rfl) rfl rfl),
   st_plain rfl (op_extract _ _ _ _ _ rfl rfl (Nat.le_of_ble_eq_true rfl) rfl rfl),
   st_plain rfl (op_extract _ _ _ _ _ rfl rfl (Nat.le_of_ble_eq_true rfl) rfl rfl),
   st_plain rfl (op_assign _ _ _ _ rfl rfl),
   st_plain rfl (op_assign _ _ _ _ rfl rfl),
   st_plain rfl (op_assign _ _ _ _ rfl rfl),
   trivial⟩ ?_
  refine pt_then ?_
  refine ht_seq ?_
  obtain ⟨v2, hv2, h⟩ := bind_some h
  refine ht_seqR hn (El := [_, _, _, _, _, (14, .v (.string line)), (15, .v (.int .i64 v2)), (16, .agg [.v (.int .i64 v2), .v (.string (⟨#[]⟩ : ByteArray)), .v (.bool false), .v (.string (⟨#[]⟩ : ByteArray)), .v (.string (⟨#[]⟩ : ByteArray)), .v (.slice none 0 0)]), (7, .box 26 [.v (.int .i64 0), .v (.string (⟨#[]⟩ : ByteArray)), .v (.bool false), .v (.string (⟨#[]⟩ : ByteArray)), .v (.string (⟨#[]⟩ : ByteArray)), .v (.slice none 0 0)]), (7, .box 26 [.v (.int .i64 v2), .v (.string (⟨#[]⟩ : ByteArray)), .v (.bool false), .v (.string (⟨#[]⟩ : ByteArray)), .v (.string (⟨#[]⟩ : ByteArray)), .v (.slice none 0 0)])]) (init := [0, 1, 2, 3, 4]) (fin := [0, 1, 2, 3, 4, 9]) (sps := [⟨[0], [], [5], [(.slot 14)]⟩, ⟨[5], [], [6], [(.slot 15)]⟩, ⟨[6], [], [7], [(.slot 16)]⟩, ⟨[], [], [8], [(.slot 7)]⟩, ⟨[7], [8], [9], [.cell 7 0, .cell 7 1, .cell 7 2, .cell 7 3, .cell 7 4, .cell 7 5]⟩]) (es' := [(_, _), (_, _), (_, _), (_, _), (_, _), (7, .box 26 [.v (.int .i64 v2), .v (.string (⟨#[]⟩ : ByteArray)), .v (.bool false), .v (.string (⟨#[]⟩ : ByteArray)), .v (.string (⟨#[]⟩ : ByteArray)), .v (.slice none 0 0)])]) (by kernel_rfl) rfl rfl
   ⟨st_plain rfl (op_move _ _ _ _ rfl rfl),
   st_plain rfl (op_call _ _ 17 _ _ rfl Tryd.call17 rfl (ok_verb_kindOf line _ hv2) rfl rfl),
   st_plain rfl (op_build _ _ _ _ [1, 1, 3, 1] _ _ Tryd.underlying26 zr26 (fs26 _ Tryd.underlying26) (.copy _ Src.nil) rfl rfl rfl),
   st_plain rfl (op_alloc _ _ zr26),
   st_plain rfl (op_store _ _ _ _ _ _ _ _ sz26 rfl rfl rfl rfl (Nat.le_of_ble_eq_true rfl) rfl rfl),
   trivial⟩ ?_
  refine pt_then ?_
  refine ht_seq ?_
  refine ht_seq ?_
  refine ht_seqR hn (El := [_, _, _, _, _, _, (17, .ptr 7 0), (18, .v (.int .i64 v2))]) (init := [0, 1, 2, 3, 4, 5]) (fin := [0, 1, 2, 3, 4, 5, 7]) (sps := [⟨[5], [], [6], [(.slot 17)]⟩, ⟨[6, 5], [], [7], [(.slot 18)]⟩]) (es' := [(_, _), (_, _), (_, _), (_, _), (_, _), (_, _), (18, .v (.int .i64 v2))]) (by kernel_rfl) rfl rfl
   ⟨st_plain rfl (op_fieldAddr _ _ _ _ 7 0 _ Tryd.underlying26 rfl sz3 rfl rfl (by decide)),
   st_plain rfl (op_load _ _ _ _ _ _ Tryd.underlying3 rfl rfl rfl (Nat.le_of_ble_eq_true rfl) rfl rfl rfl),
   trivial⟩ ?_
  refine pt_then ?_
  refine ht_block ?_
  refine ht_seq ?_
  refine ht_joinS h (fun (s30 : Bool) => [(0, .v (.string line)), (65, .glob (GL mx)), (2, .box 26 [.v (.int .i64 0), .v (.string (⟨#[]⟩ : ByteArray)), .v (.bool false), .v (.string (⟨#[]⟩ : ByteArray)), .v (.string (⟨#[]⟩ : ByteArray)), .v (.slice none 0 0)]), (5, .v (.string v1.2.1)), (6, .v (.bool v1.2.2)), (7, .box 26 [.v (.int .i64 v2), .v (.string (⟨#[]⟩ : ByteArray)), .v (.bool false), .v (.string (⟨#[]⟩ : ByteArray)), .v (.string (⟨#[]⟩ : ByteArray)), .v (.slice none 0 0)]), (18, .v (.int .i64 v2)), (19, .v (.bool s30))]) ?_ ?_
  ·rintro s30 h
   refine pt_then ?_
   refine ht_cond _ rfl (fun hb35 => ?_) (fun hb35 => ?_)
   ·have h := cond_t hb35 h
    refine ht_seq ?_
    obtain ⟨v10, hv10, h⟩ := bind_some h
    refine ht_seqR hn (El := (_ :: _ :: _ :: _ :: _ :: _ :: _ :: _ :: (22, .ptr 7 0) :: (23, .v (.int .i64 v2)) :: (24, .v (.string line)) :: (25, .tup [.agg [.v (.int .i64 v10.1.Kind), .v (.string v10.1.Text), .v (.bool v10.1.Path.Null), .v (.string v10.1.Path.Local), .v (.string v10.1.Path.Domain), .fl .ro 2 (List.flatten (List.map T_Param.enc v10.1.Params))], .v (.bool v10.2)]) :: (26, .agg [.v (.int .i64 v10.1.Kind), .v (.string v10.1.Text), .v (.bool v10.1.Path.Null), .v (.string v10.1.Path.Local), .v (.string v10.1.Path.Domain), .fl .ro 2 (List.flatten (List.map T_Param.enc v10.1.Params))]) :: (27, .v (.bool v10.2)) :: (2, .box 26 [.v (.int .i64 v10.1.Kind), .v (.string v10.1.Text), .v (.bool v10.1.Path.Null), .v (.string v10.1.Path.Local), .v (.string v10.1.Path.Domain), .fl .ro 2 (List.flatten (List.map T_Param.enc v10.1.Params))]) :: (3, .v (.bool v10.2)) :: [])) (init := [0, 1, 2, 3, 4, 5, 6, 7]) (fin := [1, 14, 15]) (sps := [⟨[5], [], [8], [(.slot 22)]⟩, ⟨[8, 5], [], [9], [(.slot 23)]⟩, ⟨[0], [], [10], [(.slot 24)]⟩, ⟨[9, 10, 1], [], [11], [(.slot 25)]⟩, ⟨[11], [], [12], [(.slot 26)]⟩, ⟨[11], [], [13], [(.slot 27)]⟩, ⟨[12], [2], [14], [.cell 2 0, .cell 2 1, .cell 2 2, .cell 2 3, .cell 2 4, .cell 2 5]⟩, ⟨[13], [], [15], [(.slot 3)]⟩]) (es' := [(_, _), (2, .box 26 [.v (.int .i64 v10.1.Kind), .v (.string v10.1.Text), .v (.bool v10.1.Path.Null), .v (.string v10.1.Path.Local), .v (.string v10.1.Path.Domain), .fl .ro 2 (List.flatten (List.map T_Param.enc v10.1.Params))]), (3, .v (.bool v10.2))]) (by kernel_rfl) rfl rfl
     ⟨st_plain rfl (op_fieldAddr _ _ _ _ 7 0 _ Tryd.underlying26 rfl sz3 rfl rfl (by decide)),
     st_plain rfl (op_load _ _ _ _ _ _ Tryd.underlying3 rfl rfl rfl (Nat.le_of_ble_eq_true rfl) rfl rfl rfl),
     st_plain rfl (op_move _ _ _ _ rfl rfl),
     st_plain rfl (op_callG _ _ 65 35 _ _ rfl Tryd.call35 rfl rfl (fun _ h => h) (ok_verb_pathCommand mx v2 line _ hv10) rfl rfl),
     st_plain rfl (op_extract_no _ _ _ _ _ _ rfl rfl (Nat.le_of_ble_eq_true rfl) rfl rfl),
     st_plain rfl (op_extract _ _ _ _ _ rfl rfl (Nat.le_of_ble_eq_true rfl) rfl rfl),
     st_plain rfl (op_store _ _ _ _ _ _ _ _ sz26 rfl rfl rfl rfl (Nat.le_of_ble_eq_true rfl) rfl rfl),
     st_plain rfl (op_assign _ _ _ _ rfl rfl),
     trivial⟩ ?_
    refine pt_then ?_
    refine ht_ret ?_
    refine pt_pick [1, 2] (by kernel_rfl) (es' := [(_, _), (_, _)]) rfl ?_
    refine pt_r_in ?_
    refine pt_r_then ?_
    obtain rfl := Option.some.inj h
    exact pt_ret hio rfl (.cellA _ _ _ _ Tryd.underlying26 rfl sz26 (.tmp _ _ .nil)) rfl rfl
   ·have h := cond_f hb35 h
    refine ht_seq ?_
    refine ht_joinS h (fun (s37 : Bool) => [(65, .glob (GL mx)), (2, .box 26 [.v (.int .i64 0), .v (.string (⟨#[]⟩ : ByteArray)), .v (.bool false), .v (.string (⟨#[]⟩ : ByteArray)), .v (.string (⟨#[]⟩ : ByteArray)), .v (.slice none 0 0)]), (5, .v (.string v1.2.1)), (6, .v (.bool v1.2.2)), (7, .box 26 [.v (.int .i64 v2), .v (.string (⟨#[]⟩ : ByteArray)), .v (.bool false), .v (.string (⟨#[]⟩ : ByteArray)), .v (.string (⟨#[]⟩ : ByteArray)), .v (.slice none 0 0)]), (18, .v (.int .i64 v2)), (28, .v (.bool s37))]) ?_ ?_
    ·rintro s37 h
     refine pt_then ?_
     refine ht_cond _ rfl (fun hb42 => ?_) (fun hb42 => ?_)
     ·have h := cond_t hb42 h
      refine ht_seq ?_
      refine ht_seqR hn (El := [_, _, _, _, _, _, _, (31, .v (.string v1.2.1)), (32, .ptr 7 1), (7, .box 26 [.v (.int .i64 v2), .v (.string v1.2.1), .v (.bool false), .v (.string (⟨#[]⟩ : ByteArray)), .v (.string (⟨#[]⟩ : ByteArray)), .v (.slice none 0 0)])]) (init := [0, 1, 2, 3, 4, 5, 6]) (fin := [0, 1, 2, 9]) (sps := [⟨[2], [], [7], [(.slot 31)]⟩, ⟨[4], [], [8], [(.slot 32)]⟩, ⟨[8, 7], [4], [9], [.cell 7 1]⟩]) (es' := [(_, _), (_, _), (_, _), (7, .box 26 [.v (.int .i64 v2), .v (.string v1.2.1), .v (.bool false), .v (.string (⟨#[]⟩ : ByteArray)), .v (.string (⟨#[]⟩ : ByteArray)), .v (.slice none 0 0)])]) (by kernel_rfl) rfl rfl
       ⟨st_plain rfl (op_move _ _ _ _ rfl rfl),
       st_plain rfl (op_fieldAddr _ _ _ _ 7 0 _ Tryd.underlying26 rfl sz9 rfl rfl (by decide)),
       st_plain rfl (op_store _ _ _ _ _ _ _ _ sz9 rfl rfl rfl rfl (Nat.le_of_ble_eq_true rfl) rfl rfl),
       trivial⟩ ?_
      refine pt_then ?_
      refine ht_seq ?_
      obtain ⟨v18, hv18, h⟩ := bind_some h
      refine ht_anyR (by kernel_rfl) hn (El := [_, _, _, _, (33, .agg [.v (.int .i64 v2), .v (.string v1.2.1), .v (.bool false), .v (.string (⟨#[]⟩ : ByteArray)), .v (.string (⟨#[]⟩ : ByteArray)), .v (.slice none 0 0)]), (34, .v (.string v1.2.1)), (35, .v (.bool v18)), (2, .box 26 [.v (.int .i64 v2), .v (.string v1.2.1), .v (.bool false), .v (.string (⟨#[]⟩ : ByteArray)), .v (.string (⟨#[]⟩ : ByteArray)), .v (.slice none 0 0)]), (3, .v (.bool v18))]) (init := [0, 1, 2, 3]) (fin := [0, 7, 8]) (sps := [⟨[3], [], [4], [(.slot 33)]⟩, ⟨[2], [], [5], [(.slot 34)]⟩, ⟨[5, 0], [], [6], [(.slot 35)]⟩, ⟨[4], [1], [7], [.cell 2 0, .cell 2 1, .cell 2 2, .cell 2 3, .cell 2 4, .cell 2 5]⟩, ⟨[6], [], [8], [(.slot 3)]⟩]) (es' := [(_, _), (2, .box 26 [.v (.int .i64 v2), .v (.string v1.2.1), .v (.bool false), .v (.string (⟨#[]⟩ : ByteArray)), .v (.string (⟨#[]⟩ : ByteArray)), .v (.slice none 0 0)]), (3, .v (.bool v18))]) (by kernel_rfl) rfl rfl
       ⟨st_plain rfl (op_loadA _ _ _ _ _ _ _ Tryd.underlying26 rfl sz26 rfl rfl (Nat.le_of_ble_eq_true rfl) rfl rfl),
       st_plain rfl (op_move _ _ _ _ rfl rfl),
       st_plain rfl (op_callG _ _ 65 34 _ _ rfl Tryd.call34 rfl rfl (fun _ h => h) (ok_path_Domain mx v1.2.1 _ hv18) rfl rfl),
       st_plain rfl (op_store _ _ _ _ _ _ _ _ sz26 rfl rfl rfl rfl (Nat.le_of_ble_eq_true rfl) rfl rfl),
       st_plain rfl (op_assign _ _ _ _ rfl rfl),
       trivial⟩ ?_
      refine pt_then ?_
      refine ht_ret ?_
      refine pt_pick [1, 2] (by kernel_rfl) (es' := [(_, _), (_, _)]) rfl ?_
      refine pt_sub (fs := [(2, .box 26 [.v (.int .i64 v2), .v (.string v1.2.1), .v (.bool false), .v (.string (⟨#[]⟩ : ByteArray)), .v (.string (⟨#[]⟩ : ByteArray)), .fl (.own 46) 2 (List.flatten (List.map T_Param.enc []))]), (3, .v (.bool v18))]) (.box _ _ (subs_cons (sub_refl _) (subs_cons (sub_refl _) (subs_cons (sub_refl _) (subs_cons (sub_refl _) (subs_cons (sub_refl _) (subs_cons (sub_nil 46 2) (subs_nil))))))) rfl (.same _ .nil)) ?_
      refine pt_frz 0 hio (es' := [(2, .box 26 [.v (.int .i64 v2), .v (.string v1.2.1), .v (.bool false), .v (.string (⟨#[]⟩ : ByteArray)), .v (.string (⟨#[]⟩ : ByteArray)), .fl .ro 2 (List.flatten (List.map T_Param.enc []))]), (3, .v (.bool v18))]) rfl ?_
      refine pt_r_in ?_
      refine pt_r_then ?_
      obtain rfl := Option.some.inj h
      exact pt_ret hio rfl (.cellA _ _ _ _ Tryd.underlying26 rfl sz26 (.tmp _ _ .nil)) rfl rfl
     ·have h := cond_f hb42 h
      refine ht_seq ?_
      refine ht_seqR hn (El := [_, _, _, _, _, _, _, (37, .v (.bool (v2 == 6))), (36, .v (.bool (v2 == 6)))]) (init := [0, 1, 2, 3, 4, 5, 6]) (fin := [0, 1, 2, 3, 4, 5, 8]) (sps := [⟨[5], [], [7], [(.slot 37)]⟩, ⟨[7], [], [8], [(.slot 36)]⟩]) (es' := [(_, _), (_, _), (_, _), (_, _), (_, _), (_, _), (36, .v (.bool (v2 == 6)))]) (by kernel_rfl) rfl rfl
       ⟨st_plain rfl (op_bin _ _ _ _ _ rfl rfl rfl),
       st_plain rfl (op_assign _ _ _ _ rfl rfl),
       trivial⟩ ?_
      refine pt_then ?_
      refine ht_cond _ rfl (fun hb43 => ?_) (fun hb43 => ?_)
      ·have h := cond_t hb43 h
       refine ht_seq ?_
       refine ht_seqR hn (El := [_, _, _, _, _, _, _, (38, .v (.string v1.2.1)), (39, .ptr 7 1), (7, .box 26 [.v (.int .i64 v2), .v (.string v1.2.1), .v (.bool false), .v (.string (⟨#[]⟩ : ByteArray)), .v (.string (⟨#[]⟩ : ByteArray)), .v (.slice none 0 0)])]) (init := [0, 1, 2, 3, 4, 5, 6]) (fin := [0, 1, 2, 9]) (sps := [⟨[2], [], [7], [(.slot 38)]⟩, ⟨[4], [], [8], [(.slot 39)]⟩, ⟨[8, 7], [4], [9], [.cell 7 1]⟩]) (es' := [(_, _), (_, _), (_, _), (7, .box 26 [.v (.int .i64 v2), .v (.string v1.2.1), .v (.bool false), .v (.string (⟨#[]⟩ : ByteArray)), .v (.string (⟨#[]⟩ : ByteArray)), .v (.slice none 0 0)])]) (by kernel_rfl) rfl rfl
        ⟨st_plain rfl (op_move _ _ _ _ rfl rfl),
        st_plain rfl (op_fieldAddr _ _ _ _ 7 0 _ Tryd.underlying26 rfl sz9 rfl rfl (by decide)),
        st_plain rfl (op_store _ _ _ _ _ _ _ _ sz9 rfl rfl rfl rfl (Nat.le_of_ble_eq_true rfl) rfl rfl),
        trivial⟩ ?_
       refine pt_then ?_
       refine ht_seq ?_
       refine ht_seqR hn (El := [_, _, _, _, (40, .agg [.v (.int .i64 v2), .v (.string v1.2.1), .v (.bool false), .v (.string (⟨#[]⟩ : ByteArray)), .v (.string (⟨#[]⟩ : ByteArray)), .v (.slice none 0 0)]), (41, .v (.string v1.2.1)), (42, .v (.bool ((!(v1.2.1.toList == (⟨#[]⟩ : ByteArray).toList))))), (2, .box 26 [.v (.int .i64 v2), .v (.string v1.2.1), .v (.bool false), .v (.string (⟨#[]⟩ : ByteArray)), .v (.string (⟨#[]⟩ : ByteArray)), .v (.slice none 0 0)]), (3, .v (.bool ((!(v1.2.1.toList == (⟨#[]⟩ : ByteArray).toList)))))]) (init := [0, 1, 2, 3]) (fin := [0, 7, 8]) (sps := [⟨[3], [], [4], [(.slot 40)]⟩, ⟨[2], [], [5], [(.slot 41)]⟩, ⟨[5], [], [6], [(.slot 42)]⟩, ⟨[4], [1], [7], [.cell 2 0, .cell 2 1, .cell 2 2, .cell 2 3, .cell 2 4, .cell 2 5]⟩, ⟨[6], [], [8], [(.slot 3)]⟩]) (es' := [(_, _), (2, .box 26 [.v (.int .i64 v2), .v (.string v1.2.1), .v (.bool false), .v (.string (⟨#[]⟩ : ByteArray)), .v (.string (⟨#[]⟩ : ByteArray)), .v (.slice none 0 0)]), (3, .v (.bool ((!(v1.2.1.toList == (⟨#[]⟩ : ByteArray).toList)))))]) (by kernel_rfl) rfl rfl
        ⟨st_plain rfl (op_loadA _ _ _ _ _ _ _ Tryd.underlying26 rfl sz26 rfl rfl (Nat.le_of_ble_eq_true rfl) rfl rfl),
        st_plain rfl (op_move _ _ _ _ rfl rfl),
        st_plain rfl (op_bin _ _ _ _ _ rfl rfl rfl),
        st_plain rfl (op_store _ _ _ _ _ _ _ _ sz26 rfl rfl rfl rfl (Nat.le_of_ble_eq_true rfl) rfl rfl),
        st_plain rfl (op_assign _ _ _ _ rfl rfl),
        trivial⟩ ?_
       refine pt_then ?_
       refine ht_ret ?_
       refine pt_pick [1, 2] (by kernel_rfl) (es' := [(_, _), (_, _)]) rfl ?_
       refine pt_sub (fs := [(2, .box 26 [.v (.int .i64 v2), .v (.string v1.2.1), .v (.bool false), .v (.string (⟨#[]⟩ : ByteArray)), .v (.string (⟨#[]⟩ : ByteArray)), .fl (.own 46) 2 (List.flatten (List.map T_Param.enc []))]), (3, .v (.bool ((!(v1.2.1.toList == (⟨#[]⟩ : ByteArray).toList)))))]) (.box _ _ (subs_cons (sub_refl _) (subs_cons (sub_refl _) (subs_cons (sub_refl _) (subs_cons (sub_refl _) (subs_cons (sub_refl _) (subs_cons (sub_nil 46 2) (subs_nil))))))) rfl (.same _ .nil)) ?_
       refine pt_frz 0 hio (es' := [(2, .box 26 [.v (.int .i64 v2), .v (.string v1.2.1), .v (.bool false), .v (.string (⟨#[]⟩ : ByteArray)), .v (.string (⟨#[]⟩ : ByteArray)), .fl .ro 2 (List.flatten (List.map T_Param.enc []))]), (3, .v (.bool ((!(v1.2.1.toList == (⟨#[]⟩ : ByteArray).toList)))))]) rfl ?_
       refine pt_r_in ?_
       refine pt_r_then ?_
       obtain rfl := Option.some.inj h
       exact pt_ret hio rfl (.cellA _ _ _ _ Tryd.underlying26 rfl sz26 (.tmp _ _ .nil)) rfl rfl
      ·have h := cond_f hb43 h
       refine ht_seq ?_
       refine ht_seqR hn (El := [_, _, _, _, _, _, _, (44, .v (.bool (v2 == 11))), (43, .v (.bool (v2 == 11)))]) (init := [0, 1, 2, 3, 4, 5, 6]) (fin := [0, 1, 2, 3, 4, 5, 8]) (sps := [⟨[5], [], [7], [(.slot 44)]⟩, ⟨[7], [], [8], [(.slot 43)]⟩]) (es' := [(_, _), (_, _), (_, _), (_, _), (_, _), (_, _), (43, .v (.bool (v2 == 11)))]) (by kernel_rfl) rfl rfl
        ⟨st_plain rfl (op_bin _ _ _ _ _ rfl rfl rfl),
        st_plain rfl (op_assign _ _ _ _ rfl rfl),
        trivial⟩ ?_
       refine pt_then ?_
       refine ht_cond _ rfl (fun hb44 => ?_) (fun hb44 => ?_)
       ·have h := cond_t hb44 h
        refine ht_seq ?_
        refine ht_seqR hn (El := [_, _, _, _, _, _, _, (45, .v (.string v1.2.1)), (46, .ptr 7 1), (7, .box 26 [.v (.int .i64 v2), .v (.string v1.2.1), .v (.bool false), .v (.string (⟨#[]⟩ : ByteArray)), .v (.string (⟨#[]⟩ : ByteArray)), .v (.slice none 0 0)])]) (init := [0, 1, 2, 3, 4, 5, 6]) (fin := [0, 1, 2, 3, 9]) (sps := [⟨[2], [], [7], [(.slot 45)]⟩, ⟨[4], [], [8], [(.slot 46)]⟩, ⟨[8, 7], [4], [9], [.cell 7 1]⟩]) (es' := [(_, _), (_, _), (_, _), (_, _), (7, .box 26 [.v (.int .i64 v2), .v (.string v1.2.1), .v (.bool false), .v (.string (⟨#[]⟩ : ByteArray)), .v (.string (⟨#[]⟩ : ByteArray)), .v (.slice none 0 0)])]) (by kernel_rfl) rfl rfl
         ⟨st_plain rfl (op_move _ _ _ _ rfl rfl),
         st_plain rfl (op_fieldAddr _ _ _ _ 7 0 _ Tryd.underlying26 rfl sz9 rfl rfl (by decide)),
         st_plain rfl (op_store _ _ _ _ _ _ _ _ sz9 rfl rfl rfl rfl (Nat.le_of_ble_eq_true rfl) rfl rfl),
         trivial⟩ ?_
        refine pt_then ?_
        refine ht_seq ?_
        refine ht_joinS h (fun (s45 : Bool) => [(65, .glob (GL mx)), (2, .box 26 [.v (.int .i64 v2), .v (.string v1.2.1), .v (.bool false), .v (.string (⟨#[]⟩ : ByteArray)), .v (.string (⟨#[]⟩ : ByteArray)), .v (.slice none 0 0)]), (3, .v (.bool s45))]) ?_ ?_
        ·rintro s45 h
         refine pt_then ?_
         refine ht_ret ?_
         refine pt_pick [1, 2] (by kernel_rfl) (es' := [(_, _), (_, _)]) rfl ?_
         refine pt_sub (fs := [(2, .box 26 [.v (.int .i64 v2), .v (.string v1.2.1), .v (.bool false), .v (.string (⟨#[]⟩ : ByteArray)), .v (.string (⟨#[]⟩ : ByteArray)), .fl (.own 46) 2 (List.flatten (List.map T_Param.enc []))]), (3, .v (.bool s45))]) (.box _ _ (subs_cons (sub_refl _) (subs_cons (sub_refl _) (subs_cons (sub_refl _) (subs_cons (sub_refl _) (subs_cons (sub_refl _) (subs_cons (sub_nil 46 2) (subs_nil))))))) rfl (.same _ .nil)) ?_
         refine pt_frz 0 hio (es' := [(2, .box 26 [.v (.int .i64 v2), .v (.string v1.2.1), .v (.bool false), .v (.string (⟨#[]⟩ : ByteArray)), .v (.string (⟨#[]⟩ : ByteArray)), .fl .ro 2 (List.flatten (List.map T_Param.enc []))]), (3, .v (.bool s45))]) rfl ?_
         refine pt_r_in ?_
         refine pt_r_then ?_
         obtain rfl := Option.some.inj h
         exact pt_ret hio rfl (.cellA _ _ _ _ Tryd.underlying26 rfl sz26 (.tmp _ _ .nil)) rfl rfl
        ·intro u46 h hl47 hr48
         refine cond_some h (fun hg16_3 h => ?_) (fun hg16_3 h => ?_)
         ·refine ht_anyR (by kernel_rfl) hn (El := [_, _, _, _, _, (47, .agg [.v (.int .i64 v2), .v (.string v1.2.1), .v (.bool false), .v (.string (⟨#[]⟩ : ByteArray)), .v (.string (⟨#[]⟩ : ByteArray)), .v (.slice none 0 0)]), (48, .v (.bool v1.2.2)), (49, .v (.bool (!v1.2.2))), (50, .v (.bool true)), (51, .v undef), (52, .v undef), (53, .v (.bool true)), (2, .box 26 [.v (.int .i64 v2), .v (.string v1.2.1), .v (.bool false), .v (.string (⟨#[]⟩ : ByteArray)), .v (.string (⟨#[]⟩ : ByteArray)), .v (.slice none 0 0)]), (3, .v (.bool true))]) (init := [0, 1, 2, 3, 4]) (fin := [0, 12, 13]) (sps := [⟨[4], [], [5], [(.slot 47)]⟩, ⟨[3], [], [6], [(.slot 48)]⟩, ⟨[6], [], [7], [(.slot 49)]⟩, ⟨[7], [], [8], [(.slot 50)]⟩, ⟨[8], [], [9], [(.slot 51)]⟩, ⟨[8], [], [10], [(.slot 52)]⟩, ⟨[8], [], [11], [(.slot 53)]⟩, ⟨[5], [1], [12], [.cell 2 0, .cell 2 1, .cell 2 2, .cell 2 3, .cell 2 4, .cell 2 5]⟩, ⟨[11], [], [13], [(.slot 3)]⟩]) (es' := [(_, _), (2, .box 26 [.v (.int .i64 v2), .v (.string v1.2.1), .v (.bool false), .v (.string (⟨#[]⟩ : ByteArray)), .v (.string (⟨#[]⟩ : ByteArray)), .v (.slice none 0 0)]), (3, .v (.bool true))]) (by kernel_rfl) rfl rfl
           ⟨st_plain rfl (op_loadA _ _ _ _ _ _ _ Tryd.underlying26 rfl sz26 rfl rfl (Nat.le_of_ble_eq_true rfl) rfl rfl),
           st_plain rfl (op_move _ _ _ _ rfl rfl),
           st_plain rfl (op_un _ _ _ _ rfl rfl),
           st_plain rfl (op_move _ _ _ _ (congrArg (fun b => AV.v (Value.bool b)) hg16_3) rfl),
           st_skip 3 50 _ false rfl rfl rfl rfl (List.Mem.head _),
           st_skip 3 50 _ false rfl rfl rfl rfl (List.Mem.head _),
           st_plain rfl (op_pick _ _ true _ rfl rfl),
           st_plain rfl (op_store _ _ _ _ _ _ _ _ sz26 rfl rfl rfl rfl (Nat.le_of_ble_eq_true rfl) rfl rfl),
           st_plain rfl (op_assign _ _ _ _ rfl rfl),
           trivial⟩ ?_
          exact hl47 _ (Option.some.inj h).symm
         ·obtain ⟨v21, hv21, h⟩ := bind_some h
          refine ht_anyR (by kernel_rfl) hn (El := [_, _, _, _, _, (47, .agg [.v (.int .i64 v2), .v (.string v1.2.1), .v (.bool false), .v (.string (⟨#[]⟩ : ByteArray)), .v (.string (⟨#[]⟩ : ByteArray)), .v (.slice none 0 0)]), (48, .v (.bool v1.2.2)), (49, .v (.bool (!v1.2.2))), (50, .v (.bool false)), (51, .v (.string v1.2.1)), (52, .v (.bool v21)), (53, .v (.bool v21)), (2, .box 26 [.v (.int .i64 v2), .v (.string v1.2.1), .v (.bool false), .v (.string (⟨#[]⟩ : ByteArray)), .v (.string (⟨#[]⟩ : ByteArray)), .v (.slice none 0 0)]), (3, .v (.bool v21))]) (init := [0, 1, 2, 3, 4]) (fin := [0, 12, 13]) (sps := [⟨[4], [], [5], [(.slot 47)]⟩, ⟨[3], [], [6], [(.slot 48)]⟩, ⟨[6], [], [7], [(.slot 49)]⟩, ⟨[7], [], [8], [(.slot 50)]⟩, ⟨[8, 2], [], [9], [(.slot 51)]⟩, ⟨[8, 9, 0], [], [10], [(.slot 52)]⟩, ⟨[8, 10], [], [11], [(.slot 53)]⟩, ⟨[5], [1], [12], [.cell 2 0, .cell 2 1, .cell 2 2, .cell 2 3, .cell 2 4, .cell 2 5]⟩, ⟨[11], [], [13], [(.slot 3)]⟩]) (es' := [(_, _), (2, .box 26 [.v (.int .i64 v2), .v (.string v1.2.1), .v (.bool false), .v (.string (⟨#[]⟩ : ByteArray)), .v (.string (⟨#[]⟩ : ByteArray)), .v (.slice none 0 0)]), (3, .v (.bool v21))]) (by kernel_rfl) rfl rfl
           ⟨st_plain rfl (op_loadA _ _ _ _ _ _ _ Tryd.underlying26 rfl sz26 rfl rfl (Nat.le_of_ble_eq_true rfl) rfl rfl),
           st_plain rfl (op_move _ _ _ _ rfl rfl),
           st_plain rfl (op_un _ _ _ _ rfl rfl),
           st_plain rfl (op_move _ _ _ _ (congrArg (fun b => AV.v (Value.bool b)) hg16_3) rfl),
           st_run 3 50 false rfl rfl rfl (List.Mem.head _) (op_move _ _ _ _ rfl rfl),
           st_run 3 50 false rfl rfl rfl (List.Mem.head _) (op_callG _ _ 65 34 _ _ rfl Tryd.call34 rfl rfl (fun _ h => h) (ok_path_Domain mx v1.2.1 _ hv21) rfl rfl),
           st_plain rfl (op_pick _ _ false _ rfl rfl),
           st_plain rfl (op_store _ _ _ _ _ _ _ _ sz26 rfl rfl rfl rfl (Nat.le_of_ble_eq_true rfl) rfl rfl),
           st_plain rfl (op_assign _ _ _ _ rfl rfl),
           trivial⟩ ?_
          exact hl47 _ (Option.some.inj h).symm
       ·have h := cond_f hb44 h
        refine ht_seq ?_
        refine ht_seqR hn (El := [_, _, _, _, _, _, _, (55, .v (.bool (v2 == 10))), (54, .v (.bool (v2 == 10)))]) (init := [0, 1, 2, 3, 4, 5, 6]) (fin := [0, 1, 2, 3, 4, 5, 8]) (sps := [⟨[5], [], [7], [(.slot 55)]⟩, ⟨[7], [], [8], [(.slot 54)]⟩]) (es' := [(_, _), (_, _), (_, _), (_, _), (_, _), (_, _), (54, .v (.bool (v2 == 10)))]) (by kernel_rfl) rfl rfl
         ⟨st_plain rfl (op_bin _ _ _ _ _ rfl rfl rfl),
         st_plain rfl (op_assign _ _ _ _ rfl rfl),
         trivial⟩ ?_
        refine pt_then ?_
        refine ht_cond _ rfl (fun hb49 => ?_) (fun hb49 => ?_)
        ·have h := cond_t hb49 h
         refine ht_seq ?_
         obtain ⟨v27, hv27, h⟩ := bind_some h
         refine ht_anyR (by kernel_rfl) hn (El := [_, _, _, _, _, _, _, (56, .agg [.v (.int .i64 v2), .v (.string (⟨#[]⟩ : ByteArray)), .v (.bool false), .v (.string (⟨#[]⟩ : ByteArray)), .v (.string (⟨#[]⟩ : ByteArray)), .v (.slice none 0 0)]), (57, .v (.string v1.2.1)), (58, .v (.bool v27)), (2, .box 26 [.v (.int .i64 v2), .v (.string (⟨#[]⟩ : ByteArray)), .v (.bool false), .v (.string (⟨#[]⟩ : ByteArray)), .v (.string (⟨#[]⟩ : ByteArray)), .v (.slice none 0 0)]), (3, .v (.bool v27))]) (init := [0, 1, 2, 3, 4, 5, 6]) (fin := [0, 10, 11]) (sps := [⟨[4], [], [7], [(.slot 56)]⟩, ⟨[2], [], [8], [(.slot 57)]⟩, ⟨[8], [], [9], [(.slot 58)]⟩, ⟨[7], [1], [10], [.cell 2 0, .cell 2 1, .cell 2 2, .cell 2 3, .cell 2 4, .cell 2 5]⟩, ⟨[9], [], [11], [(.slot 3)]⟩]) (es' := [(_, _), (2, .box 26 [.v (.int .i64 v2), .v (.string (⟨#[]⟩ : ByteArray)), .v (.bool false), .v (.string (⟨#[]⟩ : ByteArray)), .v (.string (⟨#[]⟩ : ByteArray)), .v (.slice none 0 0)]), (3, .v (.bool v27))]) (by kernel_rfl) rfl rfl
          ⟨st_plain rfl (op_loadA _ _ _ _ _ _ _ Tryd.underlying26 rfl sz26 rfl rfl (Nat.le_of_ble_eq_true rfl) rfl rfl),
          st_plain rfl (op_move _ _ _ _ rfl rfl),
          st_plain rfl (op_call _ _ 33 _ _ rfl Tryd.call33 rfl (ok_verb_equalFold v1.2.1 (⟨#[67, 82, 65, 77, 45, 77, 68, 53]⟩ : ByteArray) _ hv27) rfl rfl),
          st_plain rfl (op_store _ _ _ _ _ _ _ _ sz26 rfl rfl rfl rfl (Nat.le_of_ble_eq_true rfl) rfl rfl),
          st_plain rfl (op_assign _ _ _ _ rfl rfl),
          trivial⟩ ?_
         refine pt_then ?_
         refine ht_ret ?_
         refine pt_pick [1, 2] (by kernel_rfl) (es' := [(_, _), (_, _)]) rfl ?_
         refine pt_sub (fs := [(2, .box 26 [.v (.int .i64 v2), .v (.string (⟨#[]⟩ : ByteArray)), .v (.bool false), .v (.string (⟨#[]⟩ : ByteArray)), .v (.string (⟨#[]⟩ : ByteArray)), .fl (.own 46) 2 (List.flatten (List.map T_Param.enc []))]), (3, .v (.bool v27))]) (.box _ _ (subs_cons (sub_refl _) (subs_cons (sub_refl _) (subs_cons (sub_refl _) (subs_cons (sub_refl _) (subs_cons (sub_refl _) (subs_cons (sub_nil 46 2) (subs_nil))))))) rfl (.same _ .nil)) ?_
         refine pt_frz 0 hio (es' := [(2, .box 26 [.v (.int .i64 v2), .v (.string (⟨#[]⟩ : ByteArray)), .v (.bool false), .v (.string (⟨#[]⟩ : ByteArray)), .v (.string (⟨#[]⟩ : ByteArray)), .fl .ro 2 (List.flatten (List.map T_Param.enc []))]), (3, .v (.bool v27))]) rfl ?_
         refine pt_r_in ?_
         refine pt_r_then ?_
         obtain rfl := Option.some.inj h
         exact pt_ret hio rfl (.cellA _ _ _ _ Tryd.underlying26 rfl sz26 (.tmp _ _ .nil)) rfl rfl
        ·have h := cond_f hb49 h
         refine ht_seq ?_
         refine ht_seqR hn (El := [_, _, _, _, _, _, _, (60, .v (.bool (v2 == 7))), (59, .v (.bool (v2 == 7)))]) (init := [0, 1, 2, 3, 4, 5, 6]) (fin := [0, 1, 3, 4, 8]) (sps := [⟨[5], [], [7], [(.slot 60)]⟩, ⟨[7], [], [8], [(.slot 59)]⟩]) (es' := [(_, _), (_, _), (_, _), (_, _), (59, .v (.bool (v2 == 7)))]) (by kernel_rfl) rfl rfl
          ⟨st_plain rfl (op_bin _ _ _ _ _ rfl rfl rfl),
          st_plain rfl (op_assign _ _ _ _ rfl rfl),
          trivial⟩ ?_
         refine pt_then ?_
         refine ht_cond _ rfl (fun hb50 => ?_) (fun hb50 => ?_)
         ·have h := cond_t hb50 h
          refine ht_seq ?_
          refine ht_seqR hn (El := [_, _, _, _, _, (61, .agg [.v (.int .i64 v2), .v (.string (⟨#[]⟩ : ByteArray)), .v (.bool false), .v (.string (⟨#[]⟩ : ByteArray)), .v (.string (⟨#[]⟩ : ByteArray)), .v (.slice none 0 0)]), (2, .box 26 [.v (.int .i64 v2), .v (.string (⟨#[]⟩ : ByteArray)), .v (.bool false), .v (.string (⟨#[]⟩ : ByteArray)), .v (.string (⟨#[]⟩ : ByteArray)), .v (.slice none 0 0)]), (3, .v (.bool true))]) (init := [0, 1, 2, 3, 4]) (fin := [0, 6, 7]) (sps := [⟨[3], [], [5], [(.slot 61)]⟩, ⟨[5], [1], [6], [.cell 2 0, .cell 2 1, .cell 2 2, .cell 2 3, .cell 2 4, .cell 2 5]⟩, ⟨[], [], [7], [(.slot 3)]⟩]) (es' := [(_, _), (2, .box 26 [.v (.int .i64 v2), .v (.string (⟨#[]⟩ : ByteArray)), .v (.bool false), .v (.string (⟨#[]⟩ : ByteArray)), .v (.string (⟨#[]⟩ : ByteArray)), .v (.slice none 0 0)]), (3, .v (.bool true))]) (by kernel_rfl) rfl rfl
           ⟨st_plain rfl (op_loadA _ _ _ _ _ _ _ Tryd.underlying26 rfl sz26 rfl rfl (Nat.le_of_ble_eq_true rfl) rfl rfl),
           st_plain rfl (op_store _ _ _ _ _ _ _ _ sz26 rfl rfl rfl rfl (Nat.le_of_ble_eq_true rfl) rfl rfl),
           st_plain rfl (op_assign _ _ _ _ rfl rfl),
           trivial⟩ ?_
          refine pt_then ?_
          refine ht_ret ?_
          refine pt_pick [1, 2] (by kernel_rfl) (es' := [(_, _), (_, _)]) rfl ?_
          refine pt_sub (fs := [(2, .box 26 [.v (.int .i64 v2), .v (.string (⟨#[]⟩ : ByteArray)), .v (.bool false), .v (.string (⟨#[]⟩ : ByteArray)), .v (.string (⟨#[]⟩ : ByteArray)), .fl (.own 46) 2 (List.flatten (List.map T_Param.enc []))]), (3, .v (.bool true))]) (.box _ _ (subs_cons (sub_refl _) (subs_cons (sub_refl _) (subs_cons (sub_refl _) (subs_cons (sub_refl _) (subs_cons (sub_refl _) (subs_cons (sub_nil 46 2) (subs_nil))))))) rfl (.same _ .nil)) ?_
          refine pt_frz 0 hio (es' := [(2, .box 26 [.v (.int .i64 v2), .v (.string (⟨#[]⟩ : ByteArray)), .v (.bool false), .v (.string (⟨#[]⟩ : ByteArray)), .v (.string (⟨#[]⟩ : ByteArray)), .fl .ro 2 (List.flatten (List.map T_Param.enc []))]), (3, .v (.bool true))]) rfl ?_
          refine pt_r_in ?_
          refine pt_r_then ?_
          obtain rfl := Option.some.inj h
          exact pt_ret hio rfl (.cellA _ _ _ _ Tryd.underlying26 rfl sz26 (.tmp _ _ .nil)) rfl rfl
         ·have h := cond_f hb50 h
          refine ht_skip ?_
          refine pt_inb ?_
          refine pt_then ?_
          refine ht_seq ?_
          refine ht_seqR hn (El := [_, _, _, _, _, (62, .agg [.v (.int .i64 v2), .v (.string (⟨#[]⟩ : ByteArray)), .v (.bool false), .v (.string (⟨#[]⟩ : ByteArray)), .v (.string (⟨#[]⟩ : ByteArray)), .v (.slice none 0 0)]), (63, .v (.bool v1.2.2)), (64, .v (.bool (!v1.2.2))), (2, .box 26 [.v (.int .i64 v2), .v (.string (⟨#[]⟩ : ByteArray)), .v (.bool false), .v (.string (⟨#[]⟩ : ByteArray)), .v (.string (⟨#[]⟩ : ByteArray)), .v (.slice none 0 0)]), (3, .v (.bool (!v1.2.2)))]) (init := [0, 1, 2, 3, 4]) (fin := [0, 8, 9]) (sps := [⟨[3], [], [5], [(.slot 62)]⟩, ⟨[2], [], [6], [(.slot 63)]⟩, ⟨[6], [], [7], [(.slot 64)]⟩, ⟨[5], [1], [8], [.cell 2 0, .cell 2 1, .cell 2 2, .cell 2 3, .cell 2 4, .cell 2 5]⟩, ⟨[7], [], [9], [(.slot 3)]⟩]) (es' := [(_, _), (2, .box 26 [.v (.int .i64 v2), .v (.string (⟨#[]⟩ : ByteArray)), .v (.bool false), .v (.string (⟨#[]⟩ : ByteArray)), .v (.string (⟨#[]⟩ : ByteArray)), .v (.slice none 0 0)]), (3, .v (.bool (!v1.2.2)))]) (by kernel_rfl) rfl rfl
           ⟨st_plain rfl (op_loadA _ _ _ _ _ _ _ Tryd.underlying26 rfl sz26 rfl rfl (Nat.le_of_ble_eq_true rfl) rfl rfl),
           st_plain rfl (op_move _ _ _ _ rfl rfl),
           st_plain rfl (op_un _ _ _ _ rfl rfl),
           st_plain rfl (op_store _ _ _ _ _ _ _ _ sz26 rfl rfl rfl rfl (Nat.le_of_ble_eq_true rfl) rfl rfl),
           st_plain rfl (op_assign _ _ _ _ rfl rfl),
           trivial⟩ ?_
          refine pt_then ?_
          refine ht_ret ?_
          refine pt_pick [1, 2] (by kernel_rfl) (es' := [(_, _), (_, _)]) rfl ?_
          refine pt_sub (fs := [(2, .box 26 [.v (.int .i64 v2), .v (.string (⟨#[]⟩ : ByteArray)), .v (.bool false), .v (.string (⟨#[]⟩ : ByteArray)), .v (.string (⟨#[]⟩ : ByteArray)), .fl (.own 46) 2 (List.flatten (List.map T_Param.enc []))]), (3, .v (.bool (!v1.2.2)))]) (.box _ _ (subs_cons (sub_refl _) (subs_cons (sub_refl _) (subs_cons (sub_refl _) (subs_cons (sub_refl _) (subs_cons (sub_refl _) (subs_cons (sub_nil 46 2) (subs_nil))))))) rfl (.same _ .nil)) ?_
          refine pt_frz 0 hio (es' := [(2, .box 26 [.v (.int .i64 v2), .v (.string (⟨#[]⟩ : ByteArray)), .v (.bool false), .v (.string (⟨#[]⟩ : ByteArray)), .v (.string (⟨#[]⟩ : ByteArray)), .fl .ro 2 (List.flatten (List.map T_Param.enc []))]), (3, .v (.bool (!v1.2.2)))]) rfl ?_
          obtain rfl := Option.some.inj h
          exact pt_ret hio rfl (.cellA _ _ _ _ Tryd.underlying26 rfl sz26 (.tmp _ _ .nil)) rfl rfl
    ·intro u38 h hl39 hr40
     refine ht_seq ?_
     refine ht_seqR hn (El := [_, _, _, _, _, _, _, _, (29, .v (.bool (v2 == 1))), (28, .v (.bool (v2 == 1)))]) (init := [0, 1, 2, 3, 4, 5, 6, 7]) (fin := [1, 2, 3, 4, 5, 6, 9]) (sps := [⟨[6], [], [8], [(.slot 29)]⟩, ⟨[8], [], [9], [(.slot 28)]⟩]) (es' := [(_, _), (_, _), (_, _), (_, _), (_, _), (_, _), (28, .v (.bool (v2 == 1)))]) (by kernel_rfl) rfl rfl
      ⟨st_plain rfl (op_bin _ _ _ _ _ rfl rfl rfl),
      st_plain rfl (op_assign _ _ _ _ rfl rfl),
      trivial⟩ ?_
     refine pt_then ?_
     refine ht_cond _ rfl (fun hb41 => ?_) (fun hb41 => ?_)
     ·have h := cond_t hb41 h
      refine ht_skip ?_
      exact hl39 _ (Option.some.inj h).symm
     ·have h := cond_f hb41 h
      refine ht_seqR hn (El := [_, _, _, _, _, _, _, (30, .v (.bool (v2 == 9))), (28, .v (.bool (v2 == 9)))]) (init := [0, 1, 2, 3, 4, 5, 6]) (fin := [0, 1, 2, 3, 4, 5, 8]) (sps := [⟨[5], [], [7], [(.slot 30)]⟩, ⟨[7], [6], [8], [(.slot 28)]⟩]) (es' := [(_, _), (_, _), (_, _), (_, _), (_, _), (_, _), (28, .v (.bool (v2 == 9)))]) (by kernel_rfl) rfl rfl
       ⟨st_plain rfl (op_bin _ _ _ _ _ rfl rfl rfl),
       st_plain rfl (LOp.drop [_] (op_assign _ _ _ _ rfl rfl)),
       trivial⟩ ?_
      exact hl39 _ (Option.some.inj h).symm
  ·intro u31 h hl32 hr33
   refine ht_seq ?_
   refine ht_seqR hn (El := [_, _, _, _, _, _, _, (20, .v (.bool (v2 == 2))), (19, .v (.bool (v2 == 2)))]) (init := [0, 1, 2, 3, 4, 5, 6]) (fin := [0, 1, 2, 3, 4, 5, 6, 8]) (sps := [⟨[6], [], [7], [(.slot 20)]⟩, ⟨[7], [], [8], [(.slot 19)]⟩]) (es' := [(_, _), (_, _), (_, _), (_, _), (_, _), (_, _), (_, _), (19, .v (.bool (v2 == 2)))]) (by kernel_rfl) rfl rfl
    ⟨st_plain rfl (op_bin _ _ _ _ _ rfl rfl rfl),
    st_plain rfl (op_assign _ _ _ _ rfl rfl),
    trivial⟩ ?_
   refine pt_then ?_
   refine ht_cond _ rfl (fun hb34 => ?_) (fun hb34 => ?_)
   ·have h := cond_t hb34 h
    refine ht_skip ?_
    exact hl32 _ (Option.some.inj h).symm
   ·have h := cond_f hb34 h
    refine ht_seqR hn (El := [_, _, _, _, _, _, _, _, (21, .v (.bool (v2 == 3))), (19, .v (.bool (v2 == 3)))]) (init := [0, 1, 2, 3, 4, 5, 6, 7]) (fin := [0, 1, 2, 3, 4, 5, 6, 9]) (sps := [⟨[6], [], [8], [(.slot 21)]⟩, ⟨[8], [7], [9], [(.slot 19)]⟩]) (es' := [(_, _), (_, _), (_, _), (_, _), (_, _), (_, _), (_, _), (19, .v (.bool (v2 == 3)))]) (by kernel_rfl) rfl rfl
     ⟨st_plain rfl (op_bin _ _ _ _ _ rfl rfl rfl),
     st_plain rfl (LOp.drop [_] (op_assign _ _ _ _ rfl rfl)),
     trivial⟩ ?_
    exact hl32 _ (Option.some.inj h).symm

set_option maxHeartbeats 1000000 in
theorem ok_verb_Parse (mx : Int) (line : ByteArray) (r : (T_Cmd × Int)) (h : Sh.verb_Parse line = some r) : FnG Tryd.prog (GL mx) 10 [.v (.string line)] (.tup [.agg [.v (.int .i64 r.1.Kind), .v (.string r.1.Text), .v (.bool r.1.Path.Null), .v (.string r.1.Path.Local), .v (.string r.1.Path.Domain), .fl .ro 2 (List.flatten (List.map T_Param.enc r.1.Params))], .v (.int .i64 r.2)]) := by
  unfold Sh.verb_Parse at h
  refine fn_okG Tryd.func10 rfl (Nat.le_of_ble_eq_true rfl) rfl rfl fun g0 hn hio => ?_
  refine ht_seq ?_
  refine ht_seqR hn (El := [_, _, (2, .box 26 [.v (.int .i64 0), .v (.string (⟨#[]⟩ : ByteArray)), .v (.bool false), .v (.string (⟨#[]⟩ : ByteArray)), .v (.string (⟨#[]⟩ : ByteArray)), .v (.slice none 0 0)]), (3, .v (.int .i64 0))]) (init := [0, 1]) (fin := [0, 1, 2]) (sps := [⟨[], [], [2], [(.slot 2)]⟩, ⟨[], [], [3], [(.slot 3)]⟩]) (es' := [(_, _), (_, _), (2, .box 26 [.v (.int .i64 0), .v (.string (⟨#[]⟩ : ByteArray)), .v (.bool false), .v (.string (⟨#[]⟩ : ByteArray)), .v (.string (⟨#[]⟩ : ByteArray)), .v (.slice none 0 0)])]) (by kernel_rfl) rfl rfl
   ⟨st_plain rfl (op_alloc _ _ zr26),
   st_plain rfl (op_assign _ _ _ _ rfl rfl),
   trivial⟩ ?_
  refine pt_then ?_
  refine ht_seq ?_
  refine ht_seq ?_
  refine ht_joinS h (fun (s12 : Bool) => [(0, .v (.string line)), (32, .glob (GL mx)), (2, .box 26 [.v (.int .i64 0), .v (.string (⟨#[]⟩ : ByteArray)), .v (.bool false), .v (.string (⟨#[]⟩ : ByteArray)), .v (.string (⟨#[]⟩ : ByteArray)), .v (.slice none 0 0)]), (18, .v (.bool s12))]) ?_ ?_
  ·rintro s12 h
   refine pt_then ?_
   refine ht_cond _ rfl (fun hb16 => ?_) (fun hb16 => ?_)
   ·have h := cond_t hb16 h
    refine ht_seq ?_
    refine ht_seqR hn (El := [_, _, _, _, (19, .agg [.v (.int .i64 0), .v (.string (⟨#[]⟩ : ByteArray)), .v (.bool false), .v (.string (⟨#[]⟩ : ByteArray)), .v (.string (⟨#[]⟩ : ByteArray)), .v (.slice none 0 0)]), (2, .box 26 [.v (.int .i64 0), .v (.string (⟨#[]⟩ : ByteArray)), .v (.bool false), .v (.string (⟨#[]⟩ : ByteArray)), .v (.string (⟨#[]⟩ : ByteArray)), .v (.slice none 0 0)]), (3, .v (.int .i64 500))]) (init := [0, 1, 2, 3]) (fin := [1, 5, 6]) (sps := [⟨[], [], [4], [(.slot 19)]⟩, ⟨[], [4, 2], [5], [.cell 2 0, .cell 2 1, .cell 2 2, .cell 2 3, .cell 2 4, .cell 2 5]⟩, ⟨[], [], [6], [(.slot 3)]⟩]) (es' := [(_, _), (2, .box 26 [.v (.int .i64 0), .v (.string (⟨#[]⟩ : ByteArray)), .v (.bool false), .v (.string (⟨#[]⟩ : ByteArray)), .v (.string (⟨#[]⟩ : ByteArray)), .v (.slice none 0 0)]), (3, .v (.int .i64 500))]) (by kernel_rfl) rfl rfl
     ⟨st_plain rfl (op_build _ _ _ _ [1, 1, 3, 1] _ _ Tryd.underlying26 zr26 (fs26 _ Tryd.underlying26) Src.nil rfl rfl rfl),
     st_plain rfl (op_store_self _ _ _ 19 2 6 sz26 rfl rfl rfl rfl rfl (.eq _ (.eq _ (.eq _ (.eq _ (.eq _ (.eq _ (.nil _))))))) rfl),
     st_plain rfl (op_assign _ _ _ _ rfl rfl),
     trivial⟩ ?_
    refine pt_then ?_
    refine ht_ret ?_
    refine pt_pick [1, 2] (by kernel_rfl) (es' := [(_, _), (_, _)]) rfl ?_
    refine pt_sub (fs := [(2, .box 26 [.v (.int .i64 0), .v (.string (⟨#[]⟩ : ByteArray)), .v (.bool false), .v (.string (⟨#[]⟩ : ByteArray)), .v (.string (⟨#[]⟩ : ByteArray)), .fl (.own 46) 2 (List.flatten (List.map T_Param.enc []))]), (3, .v (.int .i64 500))]) (.box _ _ (subs_cons (sub_refl _) (subs_cons (sub_refl _) (subs_cons (sub_refl _) (subs_cons (sub_refl _) (subs_cons (sub_refl _) (subs_cons (sub_nil 46 2) (subs_nil))))))) rfl (.same _ .nil)) ?_
    refine pt_frz 0 hio (es' := [(2, .box 26 [.v (.int .i64 0), .v (.string (⟨#[]⟩ : ByteArray)), .v (.bool false), .v (.string (⟨#[]⟩ : ByteArray)), .v (.string (⟨#[]⟩ : ByteArray)), .fl .ro 2 (List.flatten (List.map T_Param.enc []))]), (3, .v (.int .i64 500))]) rfl ?_
    refine pt_r_then ?_
    obtain rfl := Option.some.inj h
    exact pt_ret hio rfl (.cellA _ _ _ _ Tryd.underlying26 rfl sz26 (.tmp _ _ .nil)) rfl rfl
   ·have h := cond_f hb16 h
    refine ht_skip ?_
    refine pt_then ?_
    refine ht_seq ?_
    refine ht_seq ?_
    obtain ⟨v8, hv8, h⟩ := bind_some h
    refine ht_seqR hn (El := [_, _, _, _, (20, .v (.string line)), (21, .v (.bool v8))]) (init := [0, 1, 2, 3]) (fin := [0, 1, 2, 5]) (sps := [⟨[0], [], [4], [(.slot 20)]⟩, ⟨[4, 1], [], [5], [(.slot 21)]⟩]) (es' := [(_, _), (_, _), (_, _), (21, .v (.bool v8))]) (by kernel_rfl) rfl rfl
     ⟨st_plain rfl (op_move _ _ _ _ rfl rfl),
     st_plain rfl (op_callG _ _ 32 18 _ _ rfl Tryd.call18 rfl rfl (fun _ h => h) (ok_verb_otherMechanism mx line _ hv8) rfl rfl),
     trivial⟩ ?_
    refine pt_then ?_
    refine ht_cond _ rfl (fun hb17 => ?_) (fun hb17 => ?_)
    ·have h := cond_t hb17 h
     refine ht_seq ?_
     refine ht_seqR hn (El := [_, _, _, _, (22, .agg [.v (.int .i64 0), .v (.string (⟨#[]⟩ : ByteArray)), .v (.bool false), .v (.string (⟨#[]⟩ : ByteArray)), .v (.string (⟨#[]⟩ : ByteArray)), .v (.slice none 0 0)]), (2, .box 26 [.v (.int .i64 0), .v (.string (⟨#[]⟩ : ByteArray)), .v (.bool false), .v (.string (⟨#[]⟩ : ByteArray)), .v (.string (⟨#[]⟩ : ByteArray)), .v (.slice none 0 0)]), (3, .v (.int .i64 504))]) (init := [0, 1, 2, 3]) (fin := [1, 5, 6]) (sps := [⟨[], [], [4], [(.slot 22)]⟩, ⟨[], [4, 2], [5], [.cell 2 0, .cell 2 1, .cell 2 2, .cell 2 3, .cell 2 4, .cell 2 5]⟩, ⟨[], [], [6], [(.slot 3)]⟩]) (es' := [(_, _), (2, .box 26 [.v (.int .i64 0), .v (.string (⟨#[]⟩ : ByteArray)), .v (.bool false), .v (.string (⟨#[]⟩ : ByteArray)), .v (.string (⟨#[]⟩ : ByteArray)), .v (.slice none 0 0)]), (3, .v (.int .i64 504))]) (by kernel_rfl) rfl rfl
      ⟨st_plain rfl (op_build _ _ _ _ [1, 1, 3, 1] _ _ Tryd.underlying26 zr26 (fs26 _ Tryd.underlying26) Src.nil rfl rfl rfl),
      st_plain rfl (op_store_self _ _ _ 22 2 6 sz26 rfl rfl rfl rfl rfl (.eq _ (.eq _ (.eq _ (.eq _ (.eq _ (.eq _ (.nil _))))))) rfl),
      st_plain rfl (op_assign _ _ _ _ rfl rfl),
      trivial⟩ ?_
     refine pt_then ?_
     refine ht_ret ?_
     refine pt_pick [1, 2] (by kernel_rfl) (es' := [(_, _), (_, _)]) rfl ?_
     refine pt_sub (fs := [(2, .box 26 [.v (.int .i64 0), .v (.string (⟨#[]⟩ : ByteArray)), .v (.bool false), .v (.string (⟨#[]⟩ : ByteArray)), .v (.string (⟨#[]⟩ : ByteArray)), .fl (.own 46) 2 (List.flatten (List.map T_Param.enc []))]), (3, .v (.int .i64 504))]) (.box _ _ (subs_cons (sub_refl _) (subs_cons (sub_refl _) (subs_cons (sub_refl _) (subs_cons (sub_refl _) (subs_cons (sub_refl _) (subs_cons (sub_nil 46 2) (subs_nil))))))) rfl (.same _ .nil)) ?_
     refine pt_frz 0 hio (es' := [(2, .box 26 [.v (.int .i64 0), .v (.string (⟨#[]⟩ : ByteArray)), .v (.bool false), .v (.string (⟨#[]⟩ : ByteArray)), .v (.string (⟨#[]⟩ : ByteArray)), .fl .ro 2 (List.flatten (List.map T_Param.enc []))]), (3, .v (.int .i64 504))]) rfl ?_
     refine pt_r_then ?_
     obtain rfl := Option.some.inj h
     exact pt_ret hio rfl (.cellA _ _ _ _ Tryd.underlying26 rfl sz26 (.tmp _ _ .nil)) rfl rfl
    ·have h := cond_f hb17 h
     refine ht_skip ?_
     refine pt_then ?_
     refine ht_seq ?_
     obtain ⟨v10, hv10, h⟩ := bind_some h
     refine ht_seqR hn (El := [_, _, _, _, (24, .v (.string line)), (25, .tup [.agg [.v (.int .i64 v10.1.Kind), .v (.string v10.1.Text), .v (.bool v10.1.Path.Null), .v (.string v10.1.Path.Local), .v (.string v10.1.Path.Domain), .fl .ro 2 (List.flatten (List.map T_Param.enc v10.1.Params))], .v (.bool v10.2)]), (23, .tup [.agg [.v (.int .i64 v10.1.Kind), .v (.string v10.1.Text), .v (.bool v10.1.Path.Null), .v (.string v10.1.Path.Local), .v (.string v10.1.Path.Domain), .fl .ro 2 (List.flatten (List.map T_Param.enc v10.1.Params))], .v (.bool v10.2)]), (26, .agg [.v (.int .i64 v10.1.Kind), .v (.string v10.1.Text), .v (.bool v10.1.Path.Null), .v (.string v10.1.Path.Local), .v (.string v10.1.Path.Domain), .fl .ro 2 (List.flatten (List.map T_Param.enc v10.1.Params))]), (27, .v (.bool v10.2)), (4, .box 26 [.v (.int .i64 0), .v (.string (⟨#[]⟩ : ByteArray)), .v (.bool false), .v (.string (⟨#[]⟩ : ByteArray)), .v (.string (⟨#[]⟩ : ByteArray)), .v (.slice none 0 0)]), (4, .box 26 [.v (.int .i64 v10.1.Kind), .v (.string v10.1.Text), .v (.bool v10.1.Path.Null), .v (.string v10.1.Path.Local), .v (.string v10.1.Path.Domain), .fl .ro 2 (List.flatten (List.map T_Param.enc v10.1.Params))]), (5, .v (.bool v10.2))]) (init := [0, 1, 2, 3]) (fin := [1, 2, 10, 11]) (sps := [⟨[0], [], [4], [(.slot 24)]⟩, ⟨[4, 1], [], [5], [(.slot 25)]⟩, ⟨[], [5], [6], [(.slot 23)]⟩, ⟨[6], [], [7], [(.slot 26)]⟩, ⟨[6], [], [8], [(.slot 27)]⟩, ⟨[], [], [9], [(.slot 4)]⟩, ⟨[7], [9], [10], [.cell 4 0, .cell 4 1, .cell 4 2, .cell 4 3, .cell 4 4, .cell 4 5]⟩, ⟨[8], [], [11], [(.slot 5)]⟩]) (es' := [(_, _), (_, _), (4, .box 26 [.v (.int .i64 v10.1.Kind), .v (.string v10.1.Text), .v (.bool v10.1.Path.Null), .v (.string v10.1.Path.Local), .v (.string v10.1.Path.Domain), .fl .ro 2 (List.flatten (List.map T_Param.enc v10.1.Params))]), (5, .v (.bool v10.2))]) (by kernel_rfl) rfl rfl
      ⟨st_plain rfl (op_move _ _ _ _ rfl rfl),
      st_plain rfl (op_callG _ _ 32 19 _ _ rfl Tryd.call19 rfl rfl (fun _ h => h) (ok_verb_command mx line _ hv10) rfl rfl),
      st_plain rfl (op_move_take _ _ _ _ rfl),
      st_plain rfl (op_extract_no _ _ _ _ _ _ rfl rfl (Nat.le_of_ble_eq_true rfl) rfl rfl),
      st_plain rfl (op_extract _ _ _ _ _ rfl rfl (Nat.le_of_ble_eq_true rfl) rfl rfl),
      st_plain rfl (op_alloc _ _ zr26),
      st_plain rfl (op_store _ _ _ _ _ _ _ _ sz26 rfl rfl rfl rfl (Nat.le_of_ble_eq_true rfl) rfl rfl),
      st_plain rfl (op_assign _ _ _ _ rfl rfl),
      trivial⟩ ?_
     refine pt_then ?_
     refine ht_seq ?_
     refine ht_seq ?_
     refine ht_seqR hn (El := [_, _, _, _, (28, .v (.bool v10.2)), (29, .v (.bool (!v10.2)))]) (init := [0, 1, 2, 3]) (fin := [0, 1, 2, 5]) (sps := [⟨[3], [], [4], [(.slot 28)]⟩, ⟨[4], [], [5], [(.slot 29)]⟩]) (es' := [(_, _), (_, _), (_, _), (29, .v (.bool (!v10.2)))]) (by kernel_rfl) rfl rfl
      ⟨st_plain rfl (op_move _ _ _ _ rfl rfl),
      st_plain rfl (op_un _ _ _ _ rfl rfl),
      trivial⟩ ?_
     refine pt_then ?_
     refine ht_cond _ rfl (fun hb18 => ?_) (fun hb18 => ?_)
     ·have h := cond_t hb18 h
      refine ht_seq ?_
      refine ht_seqR hn (El := [_, _, _, _, (30, .agg [.v (.int .i64 0), .v (.string (⟨#[]⟩ : ByteArray)), .v (.bool false), .v (.string (⟨#[]⟩ : ByteArray)), .v (.string (⟨#[]⟩ : ByteArray)), .v (.slice none 0 0)]), (2, .box 26 [.v (.int .i64 0), .v (.string (⟨#[]⟩ : ByteArray)), .v (.bool false), .v (.string (⟨#[]⟩ : ByteArray)), .v (.string (⟨#[]⟩ : ByteArray)), .v (.slice none 0 0)]), (3, .v (.int .i64 501))]) (init := [0, 1, 2, 3]) (fin := [0, 5, 6]) (sps := [⟨[], [], [4], [(.slot 30)]⟩, ⟨[], [4, 1], [5], [.cell 2 0, .cell 2 1, .cell 2 2, .cell 2 3, .cell 2 4, .cell 2 5]⟩, ⟨[], [], [6], [(.slot 3)]⟩]) (es' := [(_, _), (2, .box 26 [.v (.int .i64 0), .v (.string (⟨#[]⟩ : ByteArray)), .v (.bool false), .v (.string (⟨#[]⟩ : ByteArray)), .v (.string (⟨#[]⟩ : ByteArray)), .v (.slice none 0 0)]), (3, .v (.int .i64 501))]) (by kernel_rfl) rfl rfl
       ⟨st_plain rfl (op_build _ _ _ _ [1, 1, 3, 1] _ _ Tryd.underlying26 zr26 (fs26 _ Tryd.underlying26) Src.nil rfl rfl rfl),
       st_plain rfl (op_store_self _ _ _ 30 2 6 sz26 rfl rfl rfl rfl rfl (.eq _ (.eq _ (.eq _ (.eq _ (.eq _ (.eq _ (.nil _))))))) rfl),
       st_plain rfl (op_assign _ _ _ _ rfl rfl),
       trivial⟩ ?_
      refine pt_then ?_
      refine ht_ret ?_
      refine pt_pick [1, 2] (by kernel_rfl) (es' := [(_, _), (_, _)]) rfl ?_
      refine pt_sub (fs := [(2, .box 26 [.v (.int .i64 0), .v (.string (⟨#[]⟩ : ByteArray)), .v (.bool false), .v (.string (⟨#[]⟩ : ByteArray)), .v (.string (⟨#[]⟩ : ByteArray)), .fl (.own 46) 2 (List.flatten (List.map T_Param.enc []))]), (3, .v (.int .i64 501))]) (.box _ _ (subs_cons (sub_refl _) (subs_cons (sub_refl _) (subs_cons (sub_refl _) (subs_cons (sub_refl _) (subs_cons (sub_refl _) (subs_cons (sub_nil 46 2) (subs_nil))))))) rfl (.same _ .nil)) ?_
      refine pt_frz 0 hio (es' := [(2, .box 26 [.v (.int .i64 0), .v (.string (⟨#[]⟩ : ByteArray)), .v (.bool false), .v (.string (⟨#[]⟩ : ByteArray)), .v (.string (⟨#[]⟩ : ByteArray)), .fl .ro 2 (List.flatten (List.map T_Param.enc []))]), (3, .v (.int .i64 501))]) rfl ?_
      refine pt_r_then ?_
      obtain rfl := Option.some.inj h
      exact pt_ret hio rfl (.cellA _ _ _ _ Tryd.underlying26 rfl sz26 (.tmp _ _ .nil)) rfl rfl
     ·have h := cond_f hb18 h
      refine ht_skip ?_
      refine pt_then ?_
      refine ht_seq ?_
      refine ht_seqR hn (El := [_, _, _, _, (31, .agg [.v (.int .i64 v10.1.Kind), .v (.string v10.1.Text), .v (.bool v10.1.Path.Null), .v (.string v10.1.Path.Local), .v (.string v10.1.Path.Domain), .fl .ro 2 (List.flatten (List.map T_Param.enc v10.1.Params))]), (2, .box 26 [.v (.int .i64 v10.1.Kind), .v (.string v10.1.Text), .v (.bool v10.1.Path.Null), .v (.string v10.1.Path.Local), .v (.string v10.1.Path.Domain), .fl .ro 2 (List.flatten (List.map T_Param.enc v10.1.Params))]), (3, .v (.int .i64 0))]) (init := [0, 1, 2, 3]) (fin := [0, 5, 6]) (sps := [⟨[2], [], [4], [(.slot 31)]⟩, ⟨[4], [1], [5], [.cell 2 0, .cell 2 1, .cell 2 2, .cell 2 3, .cell 2 4, .cell 2 5]⟩, ⟨[], [], [6], [(.slot 3)]⟩]) (es' := [(_, _), (2, .box 26 [.v (.int .i64 v10.1.Kind), .v (.string v10.1.Text), .v (.bool v10.1.Path.Null), .v (.string v10.1.Path.Local), .v (.string v10.1.Path.Domain), .fl .ro 2 (List.flatten (List.map T_Param.enc v10.1.Params))]), (3, .v (.int .i64 0))]) (by kernel_rfl) rfl rfl
       ⟨st_plain rfl (op_loadA _ _ _ _ _ _ _ Tryd.underlying26 rfl sz26 rfl rfl (Nat.le_of_ble_eq_true rfl) rfl rfl),
       st_plain rfl (op_store _ _ _ _ _ _ _ _ sz26 rfl rfl rfl rfl (Nat.le_of_ble_eq_true rfl) rfl rfl),
       st_plain rfl (op_assign _ _ _ _ rfl rfl),
       trivial⟩ ?_
      refine pt_then ?_
      refine ht_ret ?_
      refine pt_pick [1, 2] (by kernel_rfl) (es' := [(_, _), (_, _)]) rfl ?_
      obtain rfl := Option.some.inj h
      exact pt_ret hio rfl (.cellA _ _ _ _ Tryd.underlying26 rfl sz26 (.tmp _ _ .nil)) rfl rfl
  ·intro u13 h hl14 hr15
   refine cond_some h (fun hg1_3 h => ?_) (fun hg1_3 h => ?_)
   ·refine ht_seqR hn (El := (_ :: _ :: _ :: (6, .v (.string line)) :: (7, .v (.int .i64 (line.size : Int))) :: (8, .v (.bool ((decide (510 < (line.size : Int)))))) :: (9, .v (.bool true)) :: (10, .v undef) :: (11, .v undef) :: (12, .v undef) :: (13, .v (.bool true)) :: (14, .v (.bool true)) :: (15, .v undef) :: (16, .v undef) :: (17, .v undef) :: (18, .v (.bool true)) :: [])) (init := [0, 1, 2]) (fin := [0, 1, 2, 15]) (sps := [⟨[0], [], [3], [(.slot 6)]⟩, ⟨[3], [], [4], [(.slot 7)]⟩, ⟨[4], [], [5], [(.slot 8)]⟩, ⟨[5], [], [6], [(.slot 9)]⟩, ⟨[6], [], [7], [(.slot 10)]⟩, ⟨[6], [], [8], [(.slot 11)]⟩, ⟨[6], [], [9], [(.slot 12)]⟩, ⟨[6], [], [10], [(.slot 13)]⟩, ⟨[10], [], [11], [(.slot 14)]⟩, ⟨[11], [], [12], [(.slot 15)]⟩, ⟨[11], [], [13], [(.slot 16)]⟩, ⟨[11], [], [14], [(.slot 17)]⟩, ⟨[11], [], [15], [(.slot 18)]⟩]) (es' := [(_, _), (_, _), (_, _), (18, .v (.bool true))]) (by kernel_rfl) rfl rfl
     ⟨st_plain rfl (op_move _ _ _ _ rfl rfl),
     st_plain rfl (op_len_str _ _ _ Tryd.underlying9 rfl),
     st_plain rfl (op_bin _ _ _ _ _ rfl rfl rfl),
     st_plain rfl (op_move _ _ _ _ (congrArg (fun b => AV.v (Value.bool b)) hg1_3) rfl),
     st_skip 3 9 _ false rfl rfl rfl rfl (List.Mem.head _),
     st_skip 3 9 _ false rfl rfl rfl rfl (List.Mem.head _),
     st_skip 3 9 _ false rfl rfl rfl rfl (List.Mem.head _),
     st_plain rfl (op_pick _ _ true _ rfl rfl),
     st_plain rfl (op_move _ _ _ _ rfl rfl),
     st_skip 8 14 _ false rfl rfl rfl rfl (List.Mem.head _),
     st_skip 8 14 _ false rfl rfl rfl rfl (List.Mem.head _),
     st_skip 8 14 _ false rfl rfl rfl rfl (List.Mem.head _),
     st_plain rfl (op_pick _ _ true _ rfl rfl),
     trivial⟩ ?_
    exact hl14 _ (Option.some.inj h).symm
   ·obtain ⟨v1, hv1, h⟩ := bind_some h
    refine cond_some h (fun hg1_8 h => ?_) (fun hg1_8 h => ?_)
    ·refine ht_seqR hn (El := (_ :: _ :: _ :: (6, .v (.string line)) :: (7, .v (.int .i64 (line.size : Int))) :: (8, .v (.bool ((decide (510 < (line.size : Int)))))) :: (9, .v (.bool false)) :: (10, .v (.string line)) :: (11, .v (.bool v1)) :: (12, .v (.bool (!v1))) :: (13, .v (.bool (!v1))) :: (14, .v (.bool true)) :: (15, .v undef) :: (16, .v undef) :: (17, .v undef) :: (18, .v (.bool true)) :: [])) (init := [0, 1, 2]) (fin := [0, 1, 2, 15]) (sps := [⟨[0], [], [3], [(.slot 6)]⟩, ⟨[3], [], [4], [(.slot 7)]⟩, ⟨[4], [], [5], [(.slot 8)]⟩, ⟨[5], [], [6], [(.slot 9)]⟩, ⟨[6, 0], [], [7], [(.slot 10)]⟩, ⟨[6, 7], [], [8], [(.slot 11)]⟩, ⟨[6, 8], [], [9], [(.slot 12)]⟩, ⟨[6, 9], [], [10], [(.slot 13)]⟩, ⟨[10], [], [11], [(.slot 14)]⟩, ⟨[11], [], [12], [(.slot 15)]⟩, ⟨[11], [], [13], [(.slot 16)]⟩, ⟨[11], [], [14], [(.slot 17)]⟩, ⟨[11], [], [15], [(.slot 18)]⟩]) (es' := [(_, _), (_, _), (_, _), (18, .v (.bool true))]) (by kernel_rfl) rfl rfl
      ⟨st_plain rfl (op_move _ _ _ _ rfl rfl),
      st_plain rfl (op_len_str _ _ _ Tryd.underlying9 rfl),
      st_plain rfl (op_bin _ _ _ _ _ rfl rfl rfl),
      st_plain rfl (op_move _ _ _ _ (congrArg (fun b => AV.v (Value.bool b)) hg1_3) rfl),
      st_run 3 9 false rfl rfl rfl (List.Mem.head _) (op_move _ _ _ _ rfl rfl),
      st_run 3 9 false rfl rfl rfl (List.Mem.head _) (op_call _ _ 16 _ _ rfl Tryd.call16 rfl (ok_verb_printable line _ hv1) rfl rfl),
      st_run 3 9 false rfl rfl rfl (List.Mem.head _) (op_un _ _ _ _ rfl rfl),
      st_plain rfl (op_pick _ _ false _ rfl rfl),
      st_plain rfl (op_move _ _ _ _ (congrArg (fun b => AV.v (Value.bool b)) hg1_8) rfl),
      st_skip 8 14 _ false rfl rfl rfl rfl (List.Mem.head _),
      st_skip 8 14 _ false rfl rfl rfl rfl (List.Mem.head _),
      st_skip 8 14 _ false rfl rfl rfl rfl (List.Mem.head _),
      st_plain rfl (op_pick _ _ true _ rfl rfl),
      trivial⟩ ?_
     exact hl14 _ (Option.some.inj h).symm
    ·obtain ⟨v2, hv2, h⟩ := bind_some h
     refine ht_seqR hn (El := (_ :: _ :: _ :: (6, .v (.string line)) :: (7, .v (.int .i64 (line.size : Int))) :: (8, .v (.bool ((decide (510 < (line.size : Int)))))) :: (9, .v (.bool false)) :: (10, .v (.string line)) :: (11, .v (.bool v1)) :: (12, .v (.bool (!v1))) :: (13, .v (.bool (!v1))) :: (14, .v (.bool false)) :: (15, .v (.string line)) :: (16, .v (.int .i64 v2)) :: (17, .v (.bool (v2 == 0))) :: (18, .v (.bool (v2 == 0))) :: [])) (init := [0, 1, 2]) (fin := [0, 1, 2, 15]) (sps := [⟨[0], [], [3], [(.slot 6)]⟩, ⟨[3], [], [4], [(.slot 7)]⟩, ⟨[4], [], [5], [(.slot 8)]⟩, ⟨[5], [], [6], [(.slot 9)]⟩, ⟨[6, 0], [], [7], [(.slot 10)]⟩, ⟨[6, 7], [], [8], [(.slot 11)]⟩, ⟨[6, 8], [], [9], [(.slot 12)]⟩, ⟨[6, 9], [], [10], [(.slot 13)]⟩, ⟨[10], [], [11], [(.slot 14)]⟩, ⟨[11, 0], [], [12], [(.slot 15)]⟩, ⟨[11, 12], [], [13], [(.slot 16)]⟩, ⟨[11, 13], [], [14], [(.slot 17)]⟩, ⟨[11, 14], [], [15], [(.slot 18)]⟩]) (es' := [(_, _), (_, _), (_, _), (18, .v (.bool (v2 == 0)))]) (by kernel_rfl) rfl rfl
      ⟨st_plain rfl (op_move _ _ _ _ rfl rfl),
      st_plain rfl (op_len_str _ _ _ Tryd.underlying9 rfl),
      st_plain rfl (op_bin _ _ _ _ _ rfl rfl rfl),
      st_plain rfl (op_move _ _ _ _ (congrArg (fun b => AV.v (Value.bool b)) hg1_3) rfl),
      st_run 3 9 false rfl rfl rfl (List.Mem.head _) (op_move _ _ _ _ rfl rfl),
      st_run 3 9 false rfl rfl rfl (List.Mem.head _) (op_call _ _ 16 _ _ rfl Tryd.call16 rfl (ok_verb_printable line _ hv1) rfl rfl),
      st_run 3 9 false rfl rfl rfl (List.Mem.head _) (op_un _ _ _ _ rfl rfl),
      st_plain rfl (op_pick _ _ false _ rfl rfl),
      st_plain rfl (op_move _ _ _ _ (congrArg (fun b => AV.v (Value.bool b)) hg1_8) rfl),
      st_run 8 14 false rfl rfl rfl (List.Mem.head _) (op_move _ _ _ _ rfl rfl),
      st_run 8 14 false rfl rfl rfl (List.Mem.head _) (op_call _ _ 17 _ _ rfl Tryd.call17 rfl (ok_verb_kindOf line _ hv2) rfl rfl),
      st_run 8 14 false rfl rfl rfl (List.Mem.head _) (op_bin _ _ _ _ _ rfl rfl rfl),
      st_plain rfl (op_pick _ _ false _ rfl rfl),
      trivial⟩ ?_
     exact hl14 _ (Option.some.inj h).symm

set_option maxHeartbeats 1000000 in
theorem ok_slices_Equal_api_Param_api_Param (p_s1 : (List T_Param)) (p_s2 : (List T_Param)) (r : Bool) (h : Sh.slices_Equal_api_Param_api_Param p_s1 p_s2 = some r) : FnOK Tryd.prog 29 [.fl .shr 2 (List.flatten (List.map T_Param.enc p_s1)), .fl .shr 2 (List.flatten (List.map T_Param.enc p_s2))] (.v (.bool r)) := by
  unfold Sh.slices_Equal_api_Param_api_Param at h
  refine fn_ok Tryd.func29 rfl (Nat.le_of_ble_eq_true rfl) rfl rfl fun g0 hn hio => ?_
  refine ht_seq ?_
  refine ht_seqR hn (El := [_, _, (4, .v (.bool false))]) (init := [0, 1]) (fin := [0, 1]) (sps := [⟨[], [], [2], [(.slot 4)]⟩]) (es' := [(_, _), (_, _)]) (by kernel_rfl) rfl rfl
   ⟨st_plain rfl (op_assign _ _ _ _ rfl rfl),
   trivial⟩ ?_
  refine pt_then ?_
  refine ht_seq ?_
  refine ht_seq ?_
  refine ht_seqR hn (El := [_, _, (6, .fl .shr 2 (List.flatten (List.map T_Param.enc p_s1))), (7, .v (.int .i64 (p_s1.length : Int))), (8, .fl .shr 2 (List.flatten (List.map T_Param.enc p_s2))), (9, .v (.int .i64 (p_s2.length : Int))), (10, .v (.bool (((p_s1.length : Int) != (p_s2.length : Int)))))]) (init := [0, 1]) (fin := [0, 1, 6]) (sps := [⟨[0], [], [2], [(.slot 6)]⟩, ⟨[2], [], [3], [(.slot 7)]⟩, ⟨[1], [], [4], [(.slot 8)]⟩, ⟨[4], [], [5], [(.slot 9)]⟩, ⟨[3, 5], [], [6], [(.slot 10)]⟩]) (es' := [(_, _), (_, _), (10, .v (.bool (((p_s1.length : Int) != (p_s2.length : Int)))))]) (by kernel_rfl) rfl rfl
   ⟨st_plain rfl (op_move _ _ _ _ rfl rfl),
   st_plain rfl (op_len_fl _ _ _ Tryd.underlying24 rfl (by decide) (flat_len T_Param.len _)),
   st_plain rfl (op_move _ _ _ _ rfl rfl),
   st_plain rfl (op_len_fl _ _ _ Tryd.underlying24 rfl (by decide) (flat_len T_Param.len _)),
   st_plain rfl (op_bin _ _ _ _ _ rfl rfl rfl),
   trivial⟩ ?_
  refine pt_then ?_
  refine ht_cond _ rfl (fun hb1 => ?_) (fun hb1 => ?_)
  ·have h := cond_t hb1 h
   refine ht_seq ?_
   refine ht_seqR hn (El := [_, _, _, (4, .v (.bool false))]) (init := [0, 1, 2]) (fin := [3]) (sps := [⟨[], [], [3], [(.slot 4)]⟩]) (es' := [(4, .v (.bool false))]) (by kernel_rfl) rfl rfl
    ⟨st_plain rfl (op_assign _ _ _ _ rfl rfl),
    trivial⟩ ?_
   refine pt_then ?_
   refine ht_ret ?_
   refine pt_r_then ?_
   obtain rfl := Option.some.inj h
   exact pt_ret hio rfl (.tmp _ _ .nil) rfl rfl
  ·have h := cond_f hb1 h
   refine ht_skip ?_
   refine pt_then ?_
   refine ht_seq ?_
   refine ht_seq ?_
   refine ht_seqR hn (El := [_, _, _, (11, .fl .shr 2 (List.flatten (List.map T_Param.enc p_s1))), (12, .v (.int .i64 (p_s1.length : Int))), (13, .v (.int .i64 0))]) (init := [0, 1, 2]) (fin := [0, 1, 4, 5]) (sps := [⟨[0], [], [3], [(.slot 11)]⟩, ⟨[3], [], [4], [(.slot 12)]⟩, ⟨[], [], [5], [(.slot 13)]⟩]) (es' := [(_, _), (_, _), (12, .v (.int .i64 (p_s1.length : Int))), (13, .v (.int .i64 0))]) (by kernel_rfl) rfl rfl
    ⟨st_plain rfl (op_move _ _ _ _ rfl rfl),
    st_plain rfl (op_len_fl _ _ _ Tryd.underlying24 rfl (by decide) (flat_len T_Param.len _)),
    st_plain rfl (op_move _ _ _ _ rfl rfl),
    trivial⟩ ?_
   refine pt_then ?_
   refine ht_loopS h (fun (s12 : Int) => [(0, .fl .shr 2 (List.flatten (List.map T_Param.enc p_s1))), (1, .fl .shr 2 (List.flatten (List.map T_Param.enc p_s2))), (12, .v (.int .i64 (p_s1.length : Int))), (13, .v (.int .i64 s12))]) (fun (() : Unit) => []) ?_ ?_
   ·rintro ⟨⟩ h
    refine pt_then ?_
    refine ht_seq ?_
    refine ht_seqR hn (El := [(4, .v (.bool true))]) (init := []) (fin := [0]) (sps := [⟨[], [], [0], [(.slot 4)]⟩]) (es' := [(4, .v (.bool true))]) (by kernel_rfl) rfl rfl
     ⟨st_plain rfl (op_assign _ _ _ _ rfl rfl),
     trivial⟩ ?_
    refine pt_then ?_
    refine ht_ret ?_
    obtain rfl := Option.some.inj h
    exact pt_ret hio rfl (.tmp _ _ .nil) rfl rfl
   ·rintro u15 hl16 hr17 s12 rr20 h ho18
    refine ht_seq ?_
    refine ht_seqR hn (El := [_, _, _, _, (14, .v (.bool ((decide (s12 < (p_s1.length : Int))))))]) (init := [0, 1, 2, 3]) (fin := [0, 1, 2, 3, 4]) (sps := [⟨[3, 2], [], [4], [(.slot 14)]⟩]) (es' := [(_, _), (_, _), (_, _), (_, _), (14, .v (.bool ((decide (s12 < (p_s1.length : Int))))))]) (by kernel_rfl) rfl rfl
     ⟨st_plain rfl (op_bin _ _ _ _ _ rfl rfl rfl),
     trivial⟩ ?_
    refine pt_then ?_
    refine ht_seq ?_
    refine ht_cond _ rfl (fun hb21 => ?_) (fun hb21 => ?_)
    ·have h := cond_t hb21 h
     refine ht_skip ?_
     refine pt_then ?_
     refine ht_seq ?_
     refine ht_block ?_
     refine ht_seq ?_
     refine ht_seqR hn (El := [_, _, _, _, _, (15, .v (.int .i64 s12)), (5, .v (.int .i64 s12))]) (init := [0, 1, 2, 3, 4]) (fin := [0, 1, 2, 3, 6]) (sps := [⟨[3], [], [5], [(.slot 15)]⟩, ⟨[5], [], [6], [(.slot 5)]⟩]) (es' := [(_, _), (_, _), (_, _), (_, _), (5, .v (.int .i64 s12))]) (by kernel_rfl) rfl rfl
      ⟨st_plain rfl (op_move _ _ _ _ rfl rfl),
      st_plain rfl (op_assign _ _ _ _ rfl rfl),
      trivial⟩ ?_
     refine pt_then ?_
     refine ht_seq ?_
     obtain ⟨v3, hv3, h⟩ := bind_some h
     obtain ⟨v4, hv4, h⟩ := bind_some h
     obtain ⟨v5, hv5, h⟩ := bind_some h
     obtain ⟨v6, hv6, h⟩ := bind_some h
     refine ht_anyR (by kernel_rfl) hn (El := [_, _, _, _, _, (16, .fl .shr 2 (List.flatten (List.map T_Param.enc p_s1))), (17, .v (.int .i64 s12)), (18, .eref (.slot 16) (v3 * 2)), (19, .agg [.v (.string v4.Key), .v (.string v4.Val)]), (20, .fl .shr 2 (List.flatten (List.map T_Param.enc p_s2))), (21, .v (.int .i64 s12)), (22, .eref (.slot 20) (v5 * 2)), (23, .agg [.v (.string v6.Key), .v (.string v6.Val)]), (24, .v (.bool ((!((v4.Key.toList == v6.Key.toList) && ((v4.Val.toList == v6.Val.toList) && true))))))]) (init := [0, 1, 2, 3, 4]) (fin := [0, 1, 2, 3, 13]) (sps := [⟨[0], [], [5], [(.slot 16)]⟩, ⟨[4], [], [6], [(.slot 17)]⟩, ⟨[5, 6], [], [7], [(.slot 18)]⟩, ⟨[7, 5], [], [8], [(.slot 19)]⟩, ⟨[1], [], [9], [(.slot 20)]⟩, ⟨[4], [], [10], [(.slot 21)]⟩, ⟨[9, 10], [], [11], [(.slot 22)]⟩, ⟨[11, 9], [], [12], [(.slot 23)]⟩, ⟨[8, 12], [], [13], [(.slot 24)]⟩]) (es' := [(_, _), (_, _), (_, _), (_, _), (24, .v (.bool ((!((v4.Key.toList == v6.Key.toList) && ((v4.Val.toList == v6.Val.toList) && true))))))]) (by kernel_rfl) rfl rfl
      ⟨st_plain rfl (op_move _ _ _ _ rfl rfl),
      st_plain rfl (op_move _ _ _ _ rfl rfl),
      st_plain rfl (op_ix _ _ _ _ _ _ _ _ Tryd.underlying24 sz46 (by decide) rfl rfl rfl (ix_ok hv3).1 (flat_lt T_Param.len (ix_ok hv3).2) rfl),
      st_plain rfl (op_load_eA _ _ _ _ _ _ _ Tryd.underlying46 rfl sz46 rfl rfl (flat_get T_Param.len hv4) rfl (by decide)),
      st_plain rfl (op_move _ _ _ _ rfl rfl),
      st_plain rfl (op_move _ _ _ _ rfl rfl),
      st_plain rfl (op_ix _ _ _ _ _ _ _ _ Tryd.underlying24 sz46 (by decide) rfl rfl rfl (ix_ok hv5).1 (flat_lt T_Param.len (ix_ok hv5).2) rfl),
      st_plain rfl (op_load_eA _ _ _ _ _ _ _ Tryd.underlying46 rfl sz46 rfl rfl (flat_get T_Param.len hv6) rfl (by decide)),
      st_plain rfl (op_eq_st _ _ [.string v4.Key, .string v4.Val] [.string v6.Key, .string v6.Val] (((v4.Key.toList == v6.Key.toList) && ((v4.Val.toList == v6.Val.toList) && true))) _ true (by kernel_rfl) (by kernel_rfl) (by kernel_rfl) (by kernel_rfl) (by kernel_rfl) rfl rfl rfl rfl (by kernel_rfl) rfl),
      trivial⟩ ?_
     refine pt_then ?_
     refine ht_cond _ rfl (fun hb22 => ?_) (fun hb22 => ?_)
     ·have h := cond_t hb22 h
      refine ht_seq ?_
      refine ht_seqR hn (El := [_, _, _, _, _, (4, .v (.bool false))]) (init := [0, 1, 2, 3, 4]) (fin := [5]) (sps := [⟨[], [], [5], [(.slot 4)]⟩]) (es' := [(4, .v (.bool false))]) (by kernel_rfl) rfl rfl
       ⟨st_plain rfl (op_assign _ _ _ _ rfl rfl),
       trivial⟩ ?_
      refine pt_then ?_
      refine ht_ret ?_
      refine pt_r_in ?_
      refine pt_r_then ?_
      refine pt_r_then ?_
      refine pt_r_in ?_
      refine pt_r_then ?_
      have h := hr17 _ (ho18 _ (Option.some.inj h).symm).symm
      obtain rfl := Option.some.inj h
      exact pt_ret hio rfl (.tmp _ _ .nil) rfl rfl
     ·have h := cond_f hb22 h
      refine ht_skip ?_
      refine pt_inb ?_
      refine pt_then ?_
      obtain ⟨v8, hv8, h⟩ := bind_some h
      refine ht_seqR hn (El := [_, _, _, _, _, (25, .v (.int .i64 v8)), (13, .v (.int .i64 v8))]) (init := [0, 1, 2, 3, 4]) (fin := [0, 1, 2, 6]) (sps := [⟨[3], [], [5], [(.slot 25)]⟩, ⟨[5], [3], [6], [(.slot 13)]⟩]) (es' := [(_, _), (_, _), (_, _), (13, .v (.int .i64 v8))]) (by kernel_rfl) rfl rfl
       ⟨st_plain rfl (op_bin _ _ _ _ _ rfl rfl (ibind (f := Value.int .i64) (Option.some.inj hv8))),
       st_plain rfl (LOp.drop [_] (op_move _ _ _ _ rfl rfl)),
       trivial⟩ ?_
      exact pt_next _ (Option.some.inj h).symm rfl
    ·have h := cond_f hb21 h
     refine ht_exit ?_
     refine pt_x_then ?_
     refine pt_x_then ?_
     refine pt_x_in ?_
     refine pt_pick [] (by kernel_rfl) (es' := []) rfl ?_
     exact hl16 _ (ho18 _ (Option.some.inj h).symm).symm

set_option maxHeartbeats 1000000 in
theorem ok_verb_same (a : T_Cmd) (b : T_Cmd) (r : Bool) (h : Sh.verb_same a b = some r) : FnOK Tryd.prog 15 [.agg [.v (.int .i64 a.Kind), .v (.string a.Text), .v (.bool a.Path.Null), .v (.string a.Path.Local), .v (.string a.Path.Domain), .fl .shr 2 (List.flatten (List.map T_Param.enc a.Params))], .agg [.v (.int .i64 b.Kind), .v (.string b.Text), .v (.bool b.Path.Null), .v (.string b.Path.Local), .v (.string b.Path.Domain), .fl .shr 2 (List.flatten (List.map T_Param.enc b.Params))]] (.v (.bool r)) := by
  unfold Sh.verb_same at h
  refine fn_ok Tryd.func15 rfl (Nat.le_of_ble_eq_true rfl) rfl rfl fun g0 hn hio => ?_
  refine ht_seq ?_
  refine ht_seqR hn (El := [_, _, (2, .box 26 [.v (.int .i64 a.Kind), .v (.string a.Text), .v (.bool a.Path.Null), .v (.string a.Path.Local), .v (.string a.Path.Domain), .fl .shr 2 (List.flatten (List.map T_Param.enc a.Params))]), (3, .box 26 [.v (.int .i64 b.Kind), .v (.string b.Text), .v (.bool b.Path.Null), .v (.string b.Path.Local), .v (.string b.Path.Domain), .fl .shr 2 (List.flatten (List.map T_Param.enc b.Params))]), (4, .v (.bool false))]) (init := [0, 1]) (fin := [2, 3]) (sps := [⟨[0], [], [2], [(.slot 2)]⟩, ⟨[1], [], [3], [(.slot 3)]⟩, ⟨[], [], [4], [(.slot 4)]⟩]) (es' := [(2, .box 26 [.v (.int .i64 a.Kind), .v (.string a.Text), .v (.bool a.Path.Null), .v (.string a.Path.Local), .v (.string a.Path.Domain), .fl .shr 2 (List.flatten (List.map T_Param.enc a.Params))]), (3, .box 26 [.v (.int .i64 b.Kind), .v (.string b.Text), .v (.bool b.Path.Null), .v (.string b.Path.Local), .v (.string b.Path.Domain), .fl .shr 2 (List.flatten (List.map T_Param.enc b.Params))])]) (by kernel_rfl) rfl rfl
   ⟨st_plain rfl (op_box _ _ _ _ rfl rfl rfl),
   st_plain rfl (op_box _ _ _ _ rfl rfl rfl),
   st_plain rfl (op_assign _ _ _ _ rfl rfl),
   trivial⟩ ?_
  refine pt_then ?_
  refine ht_seq ?_
  refine ht_joinS h (fun (s2 : Bool) => [(4, .v (.bool s2))]) ?_ ?_
  ·rintro s2 h
   refine pt_then ?_
   refine ht_ret ?_
   obtain rfl := Option.some.inj h
   exact pt_ret hio rfl (.tmp _ _ .nil) rfl rfl
  ·intro u3 h hl4 hr5
   refine cond_some h (fun hg1_5 h => ?_) (fun hg1_5 h => ?_)
   ·refine cond_some h (fun hg1_12 h => ?_) (fun hg1_12 h => ?_)
    ·refine cond_some h (fun hg1_19 h => ?_) (fun hg1_19 h => ?_)
     ·obtain ⟨v1, hv1, h⟩ := bind_some h
      refine ht_seqR hn (El := (_ :: _ :: (5, .ptr 2 0) :: (6, .v (.int .i64 a.Kind)) :: (7, .ptr 3 0) :: (8, .v (.int .i64 b.Kind)) :: (9, .v (.bool (a.Kind == b.Kind))) :: (10, .v (.bool true)) :: (11, .ptr 2 1) :: (12, .v (.string a.Text)) :: (13, .ptr 3 1) :: (14, .v (.string b.Text)) :: (15, .v (.bool (a.Text.toList == b.Text.toList))) :: (16, .v (.bool (a.Text.toList == b.Text.toList))) :: (17, .v (.bool true)) :: (18, .ptr 2 2) :: (19, .agg [.v (.bool a.Path.Null), .v (.string a.Path.Local), .v (.string a.Path.Domain)]) :: (20, .ptr 3 2) :: (21, .agg [.v (.bool b.Path.Null), .v (.string b.Path.Local), .v (.string b.Path.Domain)]) :: (22, .v (.bool (((a.Path.Null == b.Path.Null) && ((a.Path.Local.toList == b.Path.Local.toList) && ((a.Path.Domain.toList == b.Path.Domain.toList) && true)))))) :: (23, .v (.bool (((a.Path.Null == b.Path.Null) && ((a.Path.Local.toList == b.Path.Local.toList) && ((a.Path.Domain.toList == b.Path.Domain.toList) && true)))))) :: (24, .v (.bool true)) :: (25, .ptr 2 5) :: (26, .fl .shr 2 (List.flatten (List.map T_Param.enc a.Params))) :: (27, .ptr 3 5) :: (28, .fl .shr 2 (List.flatten (List.map T_Param.enc b.Params))) :: (29, .v (.bool v1)) :: (30, .v (.bool v1)) :: (4, .v (.bool v1)) :: [])) (init := [0, 1]) (fin := [28]) (sps := (⟨[0], [], [2], [(.slot 5)]⟩ :: ⟨[2, 0], [], [3], [(.slot 6)]⟩ :: ⟨[1], [], [4], [(.slot 7)]⟩ :: ⟨[4, 1], [], [5], [(.slot 8)]⟩ :: ⟨[3, 5], [], [6], [(.slot 9)]⟩ :: ⟨[6], [], [7], [(.slot 10)]⟩ :: ⟨[7, 0], [], [8], [(.slot 11)]⟩ :: ⟨[7, 8, 0], [], [9], [(.slot 12)]⟩ :: ⟨[7, 1], [], [10], [(.slot 13)]⟩ :: ⟨[7, 10, 1], [], [11], [(.slot 14)]⟩ :: ⟨[7, 9, 11], [], [12], [(.slot 15)]⟩ :: ⟨[7, 12], [], [13], [(.slot 16)]⟩ :: ⟨[13], [], [14], [(.slot 17)]⟩ :: ⟨[14, 0], [], [15], [(.slot 18)]⟩ :: ⟨[14, 15, 0], [], [16], [(.slot 19)]⟩ :: ⟨[14, 1], [], [17], [(.slot 20)]⟩ :: ⟨[14, 17, 1], [], [18], [(.slot 21)]⟩ :: ⟨[14, 16, 18], [], [19], [(.slot 22)]⟩ :: ⟨[14, 19], [], [20], [(.slot 23)]⟩ :: ⟨[20], [], [21], [(.slot 24)]⟩ :: ⟨[21, 0], [], [22], [(.slot 25)]⟩ :: ⟨[21, 22, 0], [], [23], [(.slot 26)]⟩ :: ⟨[21, 1], [], [24], [(.slot 27)]⟩ :: ⟨[21, 24, 1], [], [25], [(.slot 28)]⟩ :: ⟨[21, 23, 25], [], [26], [(.slot 29)]⟩ :: ⟨[21, 26], [], [27], [(.slot 30)]⟩ :: ⟨[27], [], [28], [(.slot 4)]⟩ :: [])) (es' := [(4, .v (.bool v1))]) (by kernel_rfl) rfl rfl
       ⟨st_plain rfl (op_fieldAddr _ _ _ _ 2 0 _ Tryd.underlying26 rfl sz3 rfl rfl (by decide)),
       st_plain rfl (op_load _ _ _ _ _ _ Tryd.underlying3 rfl rfl rfl (Nat.le_of_ble_eq_true rfl) rfl rfl rfl),
       st_plain rfl (op_fieldAddr _ _ _ _ 3 0 _ Tryd.underlying26 rfl sz3 rfl rfl (by decide)),
       st_plain rfl (op_load _ _ _ _ _ _ Tryd.underlying3 rfl rfl rfl (Nat.le_of_ble_eq_true rfl) rfl rfl rfl),
       st_plain rfl (op_bin _ _ _ _ _ rfl rfl rfl),
       st_plain rfl (op_move _ _ _ _ (congrArg (fun b => AV.v (Value.bool b)) hg1_5) rfl),
       st_run 5 10 true rfl rfl rfl (List.Mem.head _) (op_fieldAddr _ _ _ _ 2 0 _ Tryd.underlying26 rfl sz9 rfl rfl (by decide)),
       st_run 5 10 true rfl rfl rfl (List.Mem.head _) (op_load _ _ _ _ _ _ Tryd.underlying9 rfl rfl rfl (Nat.le_of_ble_eq_true rfl) rfl rfl rfl),
       st_run 5 10 true rfl rfl rfl (List.Mem.head _) (op_fieldAddr _ _ _ _ 3 0 _ Tryd.underlying26 rfl sz9 rfl rfl (by decide)),
       st_run 5 10 true rfl rfl rfl (List.Mem.head _) (op_load _ _ _ _ _ _ Tryd.underlying9 rfl rfl rfl (Nat.le_of_ble_eq_true rfl) rfl rfl rfl),
       st_run 5 10 true rfl rfl rfl (List.Mem.head _) (op_bin _ _ _ _ _ rfl rfl rfl),
       st_plain rfl (op_pick _ _ true _ rfl rfl),
       st_plain rfl (op_move _ _ _ _ (congrArg (fun b => AV.v (Value.bool b)) hg1_12) rfl),
       st_run 12 17 true rfl rfl rfl (List.Mem.head _) (op_fieldAddr _ _ _ _ 2 0 _ Tryd.underlying26 rfl sz23 rfl rfl (by decide)),
       st_run 12 17 true rfl rfl rfl (List.Mem.head _) (op_loadA _ _ _ _ _ _ _ Tryd.underlying23 rfl sz23 rfl rfl (Nat.le_of_ble_eq_true rfl) rfl rfl),
       st_run 12 17 true rfl rfl rfl (List.Mem.head _) (op_fieldAddr _ _ _ _ 3 0 _ Tryd.underlying26 rfl sz23 rfl rfl (by decide)),
       st_run 12 17 true rfl rfl rfl (List.Mem.head _) (op_loadA _ _ _ _ _ _ _ Tryd.underlying23 rfl sz23 rfl rfl (Nat.le_of_ble_eq_true rfl) rfl rfl),
       st_run 12 17 true rfl rfl rfl (List.Mem.head _) (op_eq_st _ _ [.bool a.Path.Null, .string a.Path.Local, .string a.Path.Domain] [.bool b.Path.Null, .string b.Path.Local, .string b.Path.Domain] (((a.Path.Null == b.Path.Null) && ((a.Path.Local.toList == b.Path.Local.toList) && ((a.Path.Domain.toList == b.Path.Domain.toList) && true)))) _ false (by kernel_rfl) (by kernel_rfl) (by kernel_rfl) (by kernel_rfl) (by kernel_rfl) rfl rfl rfl rfl (by kernel_rfl) rfl),
       st_plain rfl (op_pick _ _ true _ rfl rfl),
       st_plain rfl (op_move _ _ _ _ (congrArg (fun b => AV.v (Value.bool b)) hg1_19) rfl),
       st_run 19 24 true rfl rfl rfl (List.Mem.head _) (op_fieldAddr _ _ _ _ 2 0 _ Tryd.underlying26 rfl sz24 rfl rfl (by decide)),
       st_run 19 24 true rfl rfl rfl (List.Mem.head _) (op_load _ _ _ _ _ _ Tryd.underlying24 rfl rfl rfl (Nat.le_of_ble_eq_true rfl) rfl rfl rfl),
       st_run 19 24 true rfl rfl rfl (List.Mem.head _) (op_fieldAddr _ _ _ _ 3 0 _ Tryd.underlying26 rfl sz24 rfl rfl (by decide)),
       st_run 19 24 true rfl rfl rfl (List.Mem.head _) (op_load _ _ _ _ _ _ Tryd.underlying24 rfl rfl rfl (Nat.le_of_ble_eq_true rfl) rfl rfl rfl),
       st_run 19 24 true rfl rfl rfl (List.Mem.head _) (op_call _ _ 29 _ _ rfl Tryd.call29 rfl (ok_slices_Equal_api_Param_api_Param a.Params b.Params _ hv1) rfl rfl),
       st_plain rfl (op_pick _ _ true _ rfl rfl),
       st_plain rfl (op_assign _ _ _ _ rfl rfl),
       trivial⟩ ?_
      exact hl4 _ (Option.some.inj h).symm
     ·refine ht_seqR hn (El := (_ :: _ :: (5, .ptr 2 0) :: (6, .v (.int .i64 a.Kind)) :: (7, .ptr 3 0) :: (8, .v (.int .i64 b.Kind)) :: (9, .v (.bool (a.Kind == b.Kind))) :: (10, .v (.bool true)) :: (11, .ptr 2 1) :: (12, .v (.string a.Text)) :: (13, .ptr 3 1) :: (14, .v (.string b.Text)) :: (15, .v (.bool (a.Text.toList == b.Text.toList))) :: (16, .v (.bool (a.Text.toList == b.Text.toList))) :: (17, .v (.bool true)) :: (18, .ptr 2 2) :: (19, .agg [.v (.bool a.Path.Null), .v (.string a.Path.Local), .v (.string a.Path.Domain)]) :: (20, .ptr 3 2) :: (21, .agg [.v (.bool b.Path.Null), .v (.string b.Path.Local), .v (.string b.Path.Domain)]) :: (22, .v (.bool (((a.Path.Null == b.Path.Null) && ((a.Path.Local.toList == b.Path.Local.toList) && ((a.Path.Domain.toList == b.Path.Domain.toList) && true)))))) :: (23, .v (.bool (((a.Path.Null == b.Path.Null) && ((a.Path.Local.toList == b.Path.Local.toList) && ((a.Path.Domain.toList == b.Path.Domain.toList) && true)))))) :: (24, .v (.bool false)) :: (25, .v undef) :: (26, .v undef) :: (27, .v undef) :: (28, .v undef) :: (29, .v undef) :: (30, .v (.bool false)) :: (4, .v (.bool false)) :: [])) (init := [0, 1]) (fin := [28]) (sps := (⟨[0], [], [2], [(.slot 5)]⟩ :: ⟨[2, 0], [], [3], [(.slot 6)]⟩ :: ⟨[1], [], [4], [(.slot 7)]⟩ :: ⟨[4, 1], [], [5], [(.slot 8)]⟩ :: ⟨[3, 5], [], [6], [(.slot 9)]⟩ :: ⟨[6], [], [7], [(.slot 10)]⟩ :: ⟨[7, 0], [], [8], [(.slot 11)]⟩ :: ⟨[7, 8, 0], [], [9], [(.slot 12)]⟩ :: ⟨[7, 1], [], [10], [(.slot 13)]⟩ :: ⟨[7, 10, 1], [], [11], [(.slot 14)]⟩ :: ⟨[7, 9, 11], [], [12], [(.slot 15)]⟩ :: ⟨[7, 12], [], [13], [(.slot 16)]⟩ :: ⟨[13], [], [14], [(.slot 17)]⟩ :: ⟨[14, 0], [], [15], [(.slot 18)]⟩ :: ⟨[14, 15, 0], [], [16], [(.slot 19)]⟩ :: ⟨[14, 1], [], [17], [(.slot 20)]⟩ :: ⟨[14, 17, 1], [], [18], [(.slot 21)]⟩ :: ⟨[14, 16, 18], [], [19], [(.slot 22)]⟩ :: ⟨[14, 19], [], [20], [(.slot 23)]⟩ :: ⟨[20], [], [21], [(.slot 24)]⟩ :: ⟨[21], [], [22], [(.slot 25)]⟩ :: ⟨[21], [], [23], [(.slot 26)]⟩ :: ⟨[21], [], [24], [(.slot 27)]⟩ :: ⟨[21], [], [25], [(.slot 28)]⟩ :: ⟨[21], [], [26], [(.slot 29)]⟩ :: ⟨[21], [], [27], [(.slot 30)]⟩ :: ⟨[27], [], [28], [(.slot 4)]⟩ :: [])) (es' := [(4, .v (.bool false))]) (by kernel_rfl) rfl rfl
       ⟨st_plain rfl (op_fieldAddr _ _ _ _ 2 0 _ Tryd.underlying26 rfl sz3 rfl rfl (by decide)),
       st_plain rfl (op_load _ _ _ _ _ _ Tryd.underlying3 rfl rfl rfl (Nat.le_of_ble_eq_true rfl) rfl rfl rfl),
       st_plain rfl (op_fieldAddr _ _ _ _ 3 0 _ Tryd.underlying26 rfl sz3 rfl rfl (by decide)),
       st_plain rfl (op_load _ _ _ _ _ _ Tryd.underlying3 rfl rfl rfl (Nat.le_of_ble_eq_true rfl) rfl rfl rfl),
       st_plain rfl (op_bin _ _ _ _ _ rfl rfl rfl),
       st_plain rfl (op_move _ _ _ _ (congrArg (fun b => AV.v (Value.bool b)) hg1_5) rfl),
       st_run 5 10 true rfl rfl rfl (List.Mem.head _) (op_fieldAddr _ _ _ _ 2 0 _ Tryd.underlying26 rfl sz9 rfl rfl (by decide)),
       st_run 5 10 true rfl rfl rfl (List.Mem.head _) (op_load _ _ _ _ _ _ Tryd.underlying9 rfl rfl rfl (Nat.le_of_ble_eq_true rfl) rfl rfl rfl),
       st_run 5 10 true rfl rfl rfl (List.Mem.head _) (op_fieldAddr _ _ _ _ 3 0 _ Tryd.underlying26 rfl sz9 rfl rfl (by decide)),
       st_run 5 10 true rfl rfl rfl (List.Mem.head _) (op_load _ _ _ _ _ _ Tryd.underlying9 rfl rfl rfl (Nat.le_of_ble_eq_true rfl) rfl rfl rfl),
       st_run 5 10 true rfl rfl rfl (List.Mem.head _) (op_bin _ _ _ _ _ rfl rfl rfl),
       st_plain rfl (op_pick _ _ true _ rfl rfl),
       st_plain rfl (op_move _ _ _ _ (congrArg (fun b => AV.v (Value.bool b)) hg1_12) rfl),
       st_run 12 17 true rfl rfl rfl (List.Mem.head _) (op_fieldAddr _ _ _ _ 2 0 _ Tryd.underlying26 rfl sz23 rfl rfl (by decide)),
       st_run 12 17 true rfl rfl rfl (List.Mem.head _) (op_loadA _ _ _ _ _ _ _ Tryd.underlying23 rfl sz23 rfl rfl (Nat.le_of_ble_eq_true rfl) rfl rfl),
       st_run 12 17 true rfl rfl rfl (List.Mem.head _) (op_fieldAddr _ _ _ _ 3 0 _ Tryd.underlying26 rfl sz23 rfl rfl (by decide)),
       st_run 12 17 true rfl rfl rfl (List.Mem.head _) (op_loadA _ _ _ _ _ _ _ Tryd.underlying23 rfl sz23 rfl rfl (Nat.le_of_ble_eq_true rfl) rfl rfl),
       st_run 12 17 true rfl rfl rfl (List.Mem.head _) (op_eq_st _ _ [.bool a.Path.Null, .string a.Path.Local, .string a.Path.Domain] [.bool b.Path.Null, .string b.Path.Local, .string b.Path.Domain] (((a.Path.Null == b.Path.Null) && ((a.Path.Local.toList == b.Path.Local.toList) && ((a.Path.Domain.toList == b.Path.Domain.toList) && true)))) _ false (by kernel_rfl) (by kernel_rfl) (by kernel_rfl) (by kernel_rfl) (by kernel_rfl) rfl rfl rfl rfl (by kernel_rfl) rfl),
       st_plain rfl (op_pick _ _ true _ rfl rfl),
       st_plain rfl (op_move _ _ _ _ (congrArg (fun b => AV.v (Value.bool b)) hg1_19) rfl),
       st_skip 19 24 _ true rfl rfl rfl rfl (List.Mem.head _),
       st_skip 19 24 _ true rfl rfl rfl rfl (List.Mem.head _),
       st_skip 19 24 _ true rfl rfl rfl rfl (List.Mem.head _),
       st_skip 19 24 _ true rfl rfl rfl rfl (List.Mem.head _),
       st_skip 19 24 _ true rfl rfl rfl rfl (List.Mem.head _),
       st_plain rfl (op_pick _ _ false _ rfl rfl),
       st_plain rfl (op_assign _ _ _ _ rfl rfl),
       trivial⟩ ?_
      exact hl4 _ (Option.some.inj h).symm
    ·refine ht_seqR hn (El := (_ :: _ :: (5, .ptr 2 0) :: (6, .v (.int .i64 a.Kind)) :: (7, .ptr 3 0) :: (8, .v (.int .i64 b.Kind)) :: (9, .v (.bool (a.Kind == b.Kind))) :: (10, .v (.bool true)) :: (11, .ptr 2 1) :: (12, .v (.string a.Text)) :: (13, .ptr 3 1) :: (14, .v (.string b.Text)) :: (15, .v (.bool (a.Text.toList == b.Text.toList))) :: (16, .v (.bool (a.Text.toList == b.Text.toList))) :: (17, .v (.bool false)) :: (18, .v undef) :: (19, .v undef) :: (20, .v undef) :: (21, .v undef) :: (22, .v undef) :: (23, .v (.bool false)) :: (24, .v (.bool false)) :: (25, .v undef) :: (26, .v undef) :: (27, .v undef) :: (28, .v undef) :: (29, .v undef) :: (30, .v (.bool false)) :: (4, .v (.bool false)) :: [])) (init := [0, 1]) (fin := [28]) (sps := (⟨[0], [], [2], [(.slot 5)]⟩ :: ⟨[2, 0], [], [3], [(.slot 6)]⟩ :: ⟨[1], [], [4], [(.slot 7)]⟩ :: ⟨[4, 1], [], [5], [(.slot 8)]⟩ :: ⟨[3, 5], [], [6], [(.slot 9)]⟩ :: ⟨[6], [], [7], [(.slot 10)]⟩ :: ⟨[7, 0], [], [8], [(.slot 11)]⟩ :: ⟨[7, 8, 0], [], [9], [(.slot 12)]⟩ :: ⟨[7, 1], [], [10], [(.slot 13)]⟩ :: ⟨[7, 10, 1], [], [11], [(.slot 14)]⟩ :: ⟨[7, 9, 11], [], [12], [(.slot 15)]⟩ :: ⟨[7, 12], [], [13], [(.slot 16)]⟩ :: ⟨[13], [], [14], [(.slot 17)]⟩ :: ⟨[14], [], [15], [(.slot 18)]⟩ :: ⟨[14], [], [16], [(.slot 19)]⟩ :: ⟨[14], [], [17], [(.slot 20)]⟩ :: ⟨[14], [], [18], [(.slot 21)]⟩ :: ⟨[14], [], [19], [(.slot 22)]⟩ :: ⟨[14], [], [20], [(.slot 23)]⟩ :: ⟨[20], [], [21], [(.slot 24)]⟩ :: ⟨[21], [], [22], [(.slot 25)]⟩ :: ⟨[21], [], [23], [(.slot 26)]⟩ :: ⟨[21], [], [24], [(.slot 27)]⟩ :: ⟨[21], [], [25], [(.slot 28)]⟩ :: ⟨[21], [], [26], [(.slot 29)]⟩ :: ⟨[21], [], [27], [(.slot 30)]⟩ :: ⟨[27], [], [28], [(.slot 4)]⟩ :: [])) (es' := [(4, .v (.bool false))]) (by kernel_rfl) rfl rfl
      ⟨st_plain rfl (op_fieldAddr _ _ _ _ 2 0 _ Tryd.underlying26 rfl sz3 rfl rfl (by decide)),
      st_plain rfl (op_load _ _ _ _ _ _ Tryd.underlying3 rfl rfl rfl (Nat.le_of_ble_eq_true rfl) rfl rfl rfl),
      st_plain rfl (op_fieldAddr _ _ _ _ 3 0 _ Tryd.underlying26 rfl sz3 rfl rfl (by decide)),
      st_plain rfl (op_load _ _ _ _ _ _ Tryd.underlying3 rfl rfl rfl (Nat.le_of_ble_eq_true rfl) rfl rfl rfl),
      st_plain rfl (op_bin _ _ _ _ _ rfl rfl rfl),
      st_plain rfl (op_move _ _ _ _ (congrArg (fun b => AV.v (Value.bool b)) hg1_5) rfl),
      st_run 5 10 true rfl rfl rfl (List.Mem.head _) (op_fieldAddr _ _ _ _ 2 0 _ Tryd.underlying26 rfl sz9 rfl rfl (by decide)),
      st_run 5 10 true rfl rfl rfl (List.Mem.head _) (op_load _ _ _ _ _ _ Tryd.underlying9 rfl rfl rfl (Nat.le_of_ble_eq_true rfl) rfl rfl rfl),
      st_run 5 10 true rfl rfl rfl (List.Mem.head _) (op_fieldAddr _ _ _ _ 3 0 _ Tryd.underlying26 rfl sz9 rfl rfl (by decide)),
      st_run 5 10 true rfl rfl rfl (List.Mem.head _) (op_load _ _ _ _ _ _ Tryd.underlying9 rfl rfl rfl (Nat.le_of_ble_eq_true rfl) rfl rfl rfl),
      st_run 5 10 true rfl rfl rfl (List.Mem.head _) (op_bin _ _ _ _ _ rfl rfl rfl),
      st_plain rfl (op_pick _ _ true _ rfl rfl),
      st_plain rfl (op_move _ _ _ _ (congrArg (fun b => AV.v (Value.bool b)) hg1_12) rfl),
      st_skip 12 17 _ true rfl rfl rfl rfl (List.Mem.head _),
      st_skip 12 17 _ true rfl rfl rfl rfl (List.Mem.head _),
      st_skip 12 17 _ true rfl rfl rfl rfl (List.Mem.head _),
      st_skip 12 17 _ true rfl rfl rfl rfl (List.Mem.head _),
      st_skip 12 17 _ true rfl rfl rfl rfl (List.Mem.head _),
      st_plain rfl (op_pick _ _ false _ rfl rfl),
      st_plain rfl (op_move _ _ _ _ rfl rfl),
      st_skip 19 24 _ true rfl rfl rfl rfl (List.Mem.head _),
      st_skip 19 24 _ true rfl rfl rfl rfl (List.Mem.head _),
      st_skip 19 24 _ true rfl rfl rfl rfl (List.Mem.head _),
      st_skip 19 24 _ true rfl rfl rfl rfl (List.Mem.head _),
      st_skip 19 24 _ true rfl rfl rfl rfl (List.Mem.head _),
      st_plain rfl (op_pick _ _ false _ rfl rfl),
      st_plain rfl (op_assign _ _ _ _ rfl rfl),
      trivial⟩ ?_
     exact hl4 _ (Option.some.inj h).symm
   ·refine ht_seqR hn (El := (_ :: _ :: (5, .ptr 2 0) :: (6, .v (.int .i64 a.Kind)) :: (7, .ptr 3 0) :: (8, .v (.int .i64 b.Kind)) :: (9, .v (.bool (a.Kind == b.Kind))) :: (10, .v (.bool false)) :: (11, .v undef) :: (12, .v undef) :: (13, .v undef) :: (14, .v undef) :: (15, .v undef) :: (16, .v (.bool false)) :: (17, .v (.bool false)) :: (18, .v undef) :: (19, .v undef) :: (20, .v undef) :: (21, .v undef) :: (22, .v undef) :: (23, .v (.bool false)) :: (24, .v (.bool false)) :: (25, .v undef) :: (26, .v undef) :: (27, .v undef) :: (28, .v undef) :: (29, .v undef) :: (30, .v (.bool false)) :: (4, .v (.bool false)) :: [])) (init := [0, 1]) (fin := [28]) (sps := (⟨[0], [], [2], [(.slot 5)]⟩ :: ⟨[2, 0], [], [3], [(.slot 6)]⟩ :: ⟨[1], [], [4], [(.slot 7)]⟩ :: ⟨[4, 1], [], [5], [(.slot 8)]⟩ :: ⟨[3, 5], [], [6], [(.slot 9)]⟩ :: ⟨[6], [], [7], [(.slot 10)]⟩ :: ⟨[7], [], [8], [(.slot 11)]⟩ :: ⟨[7], [], [9], [(.slot 12)]⟩ :: ⟨[7], [], [10], [(.slot 13)]⟩ :: ⟨[7], [], [11], [(.slot 14)]⟩ :: ⟨[7], [], [12], [(.slot 15)]⟩ :: ⟨[7], [], [13], [(.slot 16)]⟩ :: ⟨[13], [], [14], [(.slot 17)]⟩ :: ⟨[14], [], [15], [(.slot 18)]⟩ :: ⟨[14], [], [16], [(.slot 19)]⟩ :: ⟨[14], [], [17], [(.slot 20)]⟩ :: ⟨[14], [], [18], [(.slot 21)]⟩ :: ⟨[14], [], [19], [(.slot 22)]⟩ :: ⟨[14], [], [20], [(.slot 23)]⟩ :: ⟨[20], [], [21], [(.slot 24)]⟩ :: ⟨[21], [], [22], [(.slot 25)]⟩ :: ⟨[21], [], [23], [(.slot 26)]⟩ :: ⟨[21], [], [24], [(.slot 27)]⟩ :: ⟨[21], [], [25], [(.slot 28)]⟩ :: ⟨[21], [], [26], [(.slot 29)]⟩ :: ⟨[21], [], [27], [(.slot 30)]⟩ :: ⟨[27], [], [28], [(.slot 4)]⟩ :: [])) (es' := [(4, .v (.bool false))]) (by kernel_rfl) rfl rfl
     ⟨st_plain rfl (op_fieldAddr _ _ _ _ 2 0 _ Tryd.underlying26 rfl sz3 rfl rfl (by decide)),
     st_plain rfl (op_load _ _ _ _ _ _ Tryd.underlying3 rfl rfl rfl (Nat.le_of_ble_eq_true rfl) rfl rfl rfl),
     st_plain rfl (op_fieldAddr _ _ _ _ 3 0 _ Tryd.underlying26 rfl sz3 rfl rfl (by decide)),
     st_plain rfl (op_load _ _ _ _ _ _ Tryd.underlying3 rfl rfl rfl (Nat.le_of_ble_eq_true rfl) rfl rfl rfl),
     st_plain rfl (op_bin _ _ _ _ _ rfl rfl rfl),
     st_plain rfl (op_move _ _ _ _ (congrArg (fun b => AV.v (Value.bool b)) hg1_5) rfl),
     st_skip 5 10 _ true rfl rfl rfl rfl (List.Mem.head _),
     st_skip 5 10 _ true rfl rfl rfl rfl (List.Mem.head _),
     st_skip 5 10 _ true rfl rfl rfl rfl (List.Mem.head _),
     st_skip 5 10 _ true rfl rfl rfl rfl (List.Mem.head _),
     st_skip 5 10 _ true rfl rfl rfl rfl (List.Mem.head _),
     st_plain rfl (op_pick _ _ false _ rfl rfl),
     st_plain rfl (op_move _ _ _ _ rfl rfl),
     st_skip 12 17 _ true rfl rfl rfl rfl (List.Mem.head _),
     st_skip 12 17 _ true rfl rfl rfl rfl (List.Mem.head _),
     st_skip 12 17 _ true rfl rfl rfl rfl (List.Mem.head _),
     st_skip 12 17 _ true rfl rfl rfl rfl (List.Mem.head _),
     st_skip 12 17 _ true rfl rfl rfl rfl (List.Mem.head _),
     st_plain rfl (op_pick _ _ false _ rfl rfl),
     st_plain rfl (op_move _ _ _ _ rfl rfl),
     st_skip 19 24 _ true rfl rfl rfl rfl (List.Mem.head _),
     st_skip 19 24 _ true rfl rfl rfl rfl (List.Mem.head _),
     st_skip 19 24 _ true rfl rfl rfl rfl (List.Mem.head _),
     st_skip 19 24 _ true rfl rfl rfl rfl (List.Mem.head _),
     st_skip 19 24 _ true rfl rfl rfl rfl (List.Mem.head _),
     st_plain rfl (op_pick _ _ false _ rfl rfl),
     st_plain rfl (op_assign _ _ _ _ rfl rfl),
     trivial⟩ ?_
    exact hl4 _ (Option.some.inj h).symm

set_option maxHeartbeats 1000000 in
theorem ok_verb_Text (mx : Int) (c : T_Cmd) (r : (ByteArray × Int)) (h : Sh.verb_Text c = some r) : FnG Tryd.prog (GL mx) 9 [.agg [.v (.int .i64 c.Kind), .v (.string c.Text), .v (.bool c.Path.Null), .v (.string c.Path.Local), .v (.string c.Path.Domain), .fl .shr 2 (List.flatten (List.map T_Param.enc c.Params))]] (.tup [.v (.string r.1), .v (.int .i64 r.2)]) := by
  unfold Sh.verb_Text at h
  refine fn_okG Tryd.func9 rfl (Nat.le_of_ble_eq_true rfl) rfl rfl fun g0 hn hio => ?_
  refine ht_seq ?_
  refine ht_seqR hn (El := [_, _, (1, .box 26 [.v (.int .i64 c.Kind), .v (.string c.Text), .v (.bool c.Path.Null), .v (.string c.Path.Local), .v (.string c.Path.Domain), .fl .shr 2 (List.flatten (List.map T_Param.enc c.Params))]), (2, .v (.string (⟨#[]⟩ : ByteArray))), (3, .v (.int .i64 0))]) (init := [0, 1]) (fin := [1, 2]) (sps := [⟨[0], [], [2], [(.slot 1)]⟩, ⟨[], [], [3], [(.slot 2)]⟩, ⟨[], [], [4], [(.slot 3)]⟩]) (es' := [(_, _), (1, .box 26 [.v (.int .i64 c.Kind), .v (.string c.Text), .v (.bool c.Path.Null), .v (.string c.Path.Local), .v (.string c.Path.Domain), .fl .shr 2 (List.flatten (List.map T_Param.enc c.Params))])]) (by kernel_rfl) rfl rfl
   ⟨st_plain rfl (op_box _ _ _ _ rfl rfl rfl),
   st_plain rfl (op_assign _ _ _ _ rfl rfl),
   st_plain rfl (op_assign _ _ _ _ rfl rfl),
   trivial⟩ ?_
  refine pt_then ?_
  refine ht_seq ?_
  obtain ⟨v1, hv1, h⟩ := bind_some h
  refine ht_seqR hn (El := [_, _, (7, .agg [.v (.int .i64 c.Kind), .v (.string c.Text), .v (.bool c.Path.Null), .v (.string c.Path.Local), .v (.string c.Path.Domain), .fl .shr 2 (List.flatten (List.map T_Param.enc c.Params))]), (8, .v (.string v1)), (4, .v (.string v1))]) (init := [0, 1]) (fin := [0, 1, 4]) (sps := [⟨[1], [], [2], [(.slot 7)]⟩, ⟨[2, 0], [], [3], [(.slot 8)]⟩, ⟨[3], [], [4], [(.slot 4)]⟩]) (es' := [(_, _), (_, _), (4, .v (.string v1))]) (by kernel_rfl) rfl rfl
   ⟨st_plain rfl (op_loadA _ _ _ _ _ _ _ Tryd.underlying26 rfl sz26 rfl rfl (Nat.le_of_ble_eq_true rfl) rfl rfl),
   st_plain rfl (op_callG _ _ 23 14 _ _ rfl Tryd.call14 rfl rfl (fun _ h => h) (ok_verb_format mx ((T_Cmd.mk c.Kind c.Text (T_Path.mk c.Path.Null c.Path.Local c.Path.Domain) c.Params)) _ hv1) rfl rfl),
   st_plain rfl (op_assign _ _ _ _ rfl rfl),
   trivial⟩ ?_
  refine pt_then ?_
  refine ht_seq ?_
  obtain ⟨v2, hv2, h⟩ := bind_some h
  refine ht_seqR hn (El := [_, _, _, (10, .v (.string v1)), (11, .tup [.agg [.v (.int .i64 v2.1.Kind), .v (.string v2.1.Text), .v (.bool v2.1.Path.Null), .v (.string v2.1.Path.Local), .v (.string v2.1.Path.Domain), .fl .ro 2 (List.flatten (List.map T_Param.enc v2.1.Params))], .v (.int .i64 v2.2)]), (9, .tup [.agg [.v (.int .i64 v2.1.Kind), .v (.string v2.1.Text), .v (.bool v2.1.Path.Null), .v (.string v2.1.Path.Local), .v (.string v2.1.Path.Domain), .fl .ro 2 (List.flatten (List.map T_Param.enc v2.1.Params))], .v (.int .i64 v2.2)]), (12, .agg [.v (.int .i64 v2.1.Kind), .v (.string v2.1.Text), .v (.bool v2.1.Path.Null), .v (.string v2.1.Path.Local), .v (.string v2.1.Path.Domain), .fl .ro 2 (List.flatten (List.map T_Param.enc v2.1.Params))]), (13, .v (.int .i64 v2.2)), (5, .box 26 [.v (.int .i64 0), .v (.string (⟨#[]⟩ : ByteArray)), .v (.bool false), .v (.string (⟨#[]⟩ : ByteArray)), .v (.string (⟨#[]⟩ : ByteArray)), .v (.slice none 0 0)]), (5, .box 26 [.v (.int .i64 v2.1.Kind), .v (.string v2.1.Text), .v (.bool v2.1.Path.Null), .v (.string v2.1.Path.Local), .v (.string v2.1.Path.Domain), .fl .ro 2 (List.flatten (List.map T_Param.enc v2.1.Params))]), (6, .v (.int .i64 v2.2))]) (init := [0, 1, 2]) (fin := [0, 1, 2, 9, 10]) (sps := [⟨[2], [], [3], [(.slot 10)]⟩, ⟨[3, 0], [], [4], [(.slot 11)]⟩, ⟨[], [4], [5], [(.slot 9)]⟩, ⟨[5], [], [6], [(.slot 12)]⟩, ⟨[5], [], [7], [(.slot 13)]⟩, ⟨[], [], [8], [(.slot 5)]⟩, ⟨[6], [8], [9], [.cell 5 0, .cell 5 1, .cell 5 2, .cell 5 3, .cell 5 4, .cell 5 5]⟩, ⟨[7], [], [10], [(.slot 6)]⟩]) (es' := [(_, _), (_, _), (_, _), (5, .box 26 [.v (.int .i64 v2.1.Kind), .v (.string v2.1.Text), .v (.bool v2.1.Path.Null), .v (.string v2.1.Path.Local), .v (.string v2.1.Path.Domain), .fl .ro 2 (List.flatten (List.map T_Param.enc v2.1.Params))]), (6, .v (.int .i64 v2.2))]) (by kernel_rfl) rfl rfl
   ⟨st_plain rfl (op_move _ _ _ _ rfl rfl),
   st_plain rfl (op_callG _ _ 23 10 _ _ rfl Tryd.call10 rfl rfl (fun _ h => h) (ok_verb_Parse mx v1 _ hv2) rfl rfl),
   st_plain rfl (op_move_take _ _ _ _ rfl),
   st_plain rfl (op_extract_no _ _ _ _ _ _ rfl rfl (Nat.le_of_ble_eq_true rfl) rfl rfl),
   st_plain rfl (op_extract _ _ _ _ _ rfl rfl (Nat.le_of_ble_eq_true rfl) rfl rfl),
   st_plain rfl (op_alloc _ _ zr26),
   st_plain rfl (op_store _ _ _ _ _ _ _ _ sz26 rfl rfl rfl rfl (Nat.le_of_ble_eq_true rfl) rfl rfl),
   st_plain rfl (op_assign _ _ _ _ rfl rfl),
   trivial⟩ ?_
  refine pt_then ?_
  refine ht_seq ?_
  refine ht_seq ?_
  refine ht_joinS h (fun (s4 : Bool) => [(23, .glob (GL mx)), (4, .v (.string v1)), (21, .v (.bool s4))]) ?_ ?_
  ·rintro s4 h
   refine pt_then ?_
   refine ht_cond _ rfl (fun hb8 => ?_) (fun hb8 => ?_)
   ·have h := cond_t hb8 h
    refine ht_seq ?_
    refine ht_seqR hn (El := [_, _, _, (2, .v (.string (⟨#[]⟩ : ByteArray))), (3, .v (.int .i64 5))]) (init := [0, 1, 2]) (fin := [0, 3, 4]) (sps := [⟨[], [], [3], [(.slot 2)]⟩, ⟨[], [], [4], [(.slot 3)]⟩]) (es' := [(_, _), (2, .v (.string (⟨#[]⟩ : ByteArray))), (3, .v (.int .i64 5))]) (by kernel_rfl) rfl rfl
     ⟨st_plain rfl (op_assign _ _ _ _ rfl rfl),
     st_plain rfl (op_assign _ _ _ _ rfl rfl),
     trivial⟩ ?_
    refine pt_then ?_
    refine ht_ret ?_
    refine pt_pick [1, 2] (by kernel_rfl) (es' := [(_, _), (_, _)]) rfl ?_
    refine pt_r_then ?_
    obtain rfl := Option.some.inj h
    exact pt_ret hio rfl (.tmp _ _ (.tmp _ _ .nil)) rfl rfl
   ·have h := cond_f hb8 h
    refine ht_skip ?_
    refine pt_then ?_
    refine ht_seq ?_
    refine ht_seqR hn (El := [_, _, _, (22, .v (.string v1)), (2, .v (.string v1)), (3, .v (.int .i64 0))]) (init := [0, 1, 2]) (fin := [0, 4, 5]) (sps := [⟨[1], [], [3], [(.slot 22)]⟩, ⟨[3], [], [4], [(.slot 2)]⟩, ⟨[], [], [5], [(.slot 3)]⟩]) (es' := [(_, _), (2, .v (.string v1)), (3, .v (.int .i64 0))]) (by kernel_rfl) rfl rfl
     ⟨st_plain rfl (op_move _ _ _ _ rfl rfl),
     st_plain rfl (op_assign _ _ _ _ rfl rfl),
     st_plain rfl (op_assign _ _ _ _ rfl rfl),
     trivial⟩ ?_
    refine pt_then ?_
    refine ht_ret ?_
    refine pt_pick [1, 2] (by kernel_rfl) (es' := [(_, _), (_, _)]) rfl ?_
    obtain rfl := Option.some.inj h
    exact pt_ret hio rfl (.tmp _ _ (.tmp _ _ .nil)) rfl rfl
  ·intro u5 h hl6 hr7
   refine cond_some h (fun hg3_2 h => ?_) (fun hg3_2 h => ?_)
   ·refine ht_seqR hn (El := [_, _, _, _, _, (14, .v (.int .i64 v2.2)), (15, .v (.bool (v2.2 != 0))), (16, .v (.bool true)), (17, .v undef), (18, .v undef), (19, .v undef), (20, .v undef), (21, .v (.bool true))]) (init := [0, 1, 2, 3, 4]) (fin := [0, 2, 12]) (sps := [⟨[4], [], [5], [(.slot 14)]⟩, ⟨[5], [], [6], [(.slot 15)]⟩, ⟨[6], [], [7], [(.slot 16)]⟩, ⟨[7], [], [8], [(.slot 17)]⟩, ⟨[7], [], [9], [(.slot 18)]⟩, ⟨[7], [], [10], [(.slot 19)]⟩, ⟨[7], [], [11], [(.slot 20)]⟩, ⟨[7], [], [12], [(.slot 21)]⟩]) (es' := [(_, _), (_, _), (21, .v (.bool true))]) (by kernel_rfl) rfl rfl
     ⟨st_plain rfl (op_move _ _ _ _ rfl rfl),
     st_plain rfl (op_bin _ _ _ _ _ rfl rfl rfl),
     st_plain rfl (op_move _ _ _ _ (congrArg (fun b => AV.v (Value.bool b)) hg3_2) rfl),
     st_skip 2 16 _ false rfl rfl rfl rfl (List.Mem.head _),
     st_skip 2 16 _ false rfl rfl rfl rfl (List.Mem.head _),
     st_skip 2 16 _ false rfl rfl rfl rfl (List.Mem.head _),
     st_skip 2 16 _ false rfl rfl rfl rfl (List.Mem.head _),
     st_plain rfl (op_pick _ _ true _ rfl rfl),
     trivial⟩ ?_
    exact hl6 _ (Option.some.inj h).symm
   ·obtain ⟨v3, hv3, h⟩ := bind_some h
    refine ht_seqR hn (El := [_, _, _, _, _, (14, .v (.int .i64 v2.2)), (15, .v (.bool (v2.2 != 0))), (16, .v (.bool false)), (17, .agg [.v (.int .i64 c.Kind), .v (.string c.Text), .v (.bool c.Path.Null), .v (.string c.Path.Local), .v (.string c.Path.Domain), .fl .shr 2 (List.flatten (List.map T_Param.enc c.Params))]), (18, .agg [.v (.int .i64 v2.1.Kind), .v (.string v2.1.Text), .v (.bool v2.1.Path.Null), .v (.string v2.1.Path.Local), .v (.string v2.1.Path.Domain), .fl .ro 2 (List.flatten (List.map T_Param.enc v2.1.Params))]), (19, .v (.bool v3)), (20, .v (.bool (!v3))), (21, .v (.bool (!v3)))]) (init := [0, 1, 2, 3, 4]) (fin := [0, 2, 12]) (sps := [⟨[4], [], [5], [(.slot 14)]⟩, ⟨[5], [], [6], [(.slot 15)]⟩, ⟨[6], [], [7], [(.slot 16)]⟩, ⟨[7, 1], [], [8], [(.slot 17)]⟩, ⟨[7, 3], [], [9], [(.slot 18)]⟩, ⟨[7, 8, 9], [], [10], [(.slot 19)]⟩, ⟨[7, 10], [], [11], [(.slot 20)]⟩, ⟨[7, 11], [], [12], [(.slot 21)]⟩]) (es' := [(_, _), (_, _), (21, .v (.bool (!v3)))]) (by kernel_rfl) rfl rfl
     ⟨st_plain rfl (op_move _ _ _ _ rfl rfl),
     st_plain rfl (op_bin _ _ _ _ _ rfl rfl rfl),
     st_plain rfl (op_move _ _ _ _ (congrArg (fun b => AV.v (Value.bool b)) hg3_2) rfl),
     st_run 2 16 false rfl rfl rfl (List.Mem.head _) (op_loadA _ _ _ _ _ _ _ Tryd.underlying26 rfl sz26 rfl rfl (Nat.le_of_ble_eq_true rfl) rfl rfl),
     st_run 2 16 false rfl rfl rfl (List.Mem.head _) (op_loadA _ _ _ _ _ _ _ Tryd.underlying26 rfl sz26 rfl rfl (Nat.le_of_ble_eq_true rfl) rfl rfl),
     st_run 2 16 false rfl rfl rfl (List.Mem.head _) (op_call _ _ 15 _ _ rfl Tryd.call15 rfl (ok_verb_same ((T_Cmd.mk c.Kind c.Text (T_Path.mk c.Path.Null c.Path.Local c.Path.Domain) c.Params)) ((T_Cmd.mk v2.1.Kind v2.1.Text (T_Path.mk v2.1.Path.Null v2.1.Path.Local v2.1.Path.Domain) v2.1.Params)) _ hv3) rfl rfl),
     st_run 2 16 false rfl rfl rfl (List.Mem.head _) (op_un _ _ _ _ rfl rfl),
     st_plain rfl (op_pick _ _ false _ rfl rfl),
     trivial⟩ ?_
    exact hl6 _ (Option.some.inj h).symm

set_option maxHeartbeats 1000000 in
theorem ok_wherrykeep_Path (a : T_Path) (b : T_Path) (r : Bool) (h : Sh.wherrykeep_Path a b = some r) : FnOK Tryd.prog 20 [.agg [.v (.bool a.Null), .v (.string a.Local), .v (.string a.Domain)], .agg [.v (.bool b.Null), .v (.string b.Local), .v (.string b.Domain)]] (.v (.bool r)) := by
  unfold Sh.wherrykeep_Path at h
  refine fn_ok Tryd.func20 rfl (Nat.le_of_ble_eq_true rfl) rfl rfl fun g0 hn hio => ?_
  refine ht_seq ?_
  refine ht_seqR hn (El := [_, _, (2, .box 23 [.v (.bool a.Null), .v (.string a.Local), .v (.string a.Domain)]), (3, .box 23 [.v (.bool b.Null), .v (.string b.Local), .v (.string b.Domain)]), (4, .v (.bool false))]) (init := [0, 1]) (fin := [2, 3]) (sps := [⟨[0], [], [2], [(.slot 2)]⟩, ⟨[1], [], [3], [(.slot 3)]⟩, ⟨[], [], [4], [(.slot 4)]⟩]) (es' := [(2, .box 23 [.v (.bool a.Null), .v (.string a.Local), .v (.string a.Domain)]), (3, .box 23 [.v (.bool b.Null), .v (.string b.Local), .v (.string b.Domain)])]) (by kernel_rfl) rfl rfl
   ⟨st_plain rfl (op_box _ _ _ _ rfl rfl rfl),
   st_plain rfl (op_box _ _ _ _ rfl rfl rfl),
   st_plain rfl (op_assign _ _ _ _ rfl rfl),
   trivial⟩ ?_
  refine pt_then ?_
  refine ht_seq ?_
  refine ht_joinS h (fun (s2 : Bool) => [(4, .v (.bool s2))]) ?_ ?_
  ·rintro s2 h
   refine pt_then ?_
   refine ht_ret ?_
   obtain rfl := Option.some.inj h
   exact pt_ret hio rfl (.tmp _ _ .nil) rfl rfl
  ·intro u3 h hl4 hr5
   obtain ⟨v1, hv1, h⟩ := bind_some h
   refine cond_some h (fun hg1_5 h => ?_) (fun hg1_5 h => ?_)
   ·refine cond_some h (fun hg1_12 h => ?_) (fun hg1_12 h => ?_)
    ·refine ht_seqR hn (El := (_ :: _ :: (5, .ptr 2 0) :: (6, .v (.bool a.Null)) :: (7, .ptr 3 0) :: (8, .v (.bool b.Null)) :: (9, .v (.bool (a.Null == b.Null))) :: (10, .v (.bool true)) :: (11, .ptr 2 1) :: (12, .v (.string a.Local)) :: (13, .ptr 3 1) :: (14, .v (.string b.Local)) :: (15, .v (.bool (a.Local.toList == b.Local.toList))) :: (16, .v (.bool (a.Local.toList == b.Local.toList))) :: (17, .v (.bool true)) :: (18, .ptr 2 2) :: (19, .v (.string a.Domain)) :: (20, .ptr 3 2) :: (21, .v (.string b.Domain)) :: (22, .v (.bool (a.Domain.toList == b.Domain.toList))) :: (23, .v (.bool (a.Domain.toList == b.Domain.toList))) :: (4, .v (.bool (a.Domain.toList == b.Domain.toList))) :: [])) (init := [0, 1]) (fin := [21]) (sps := (⟨[0], [], [2], [(.slot 5)]⟩ :: ⟨[2, 0], [], [3], [(.slot 6)]⟩ :: ⟨[1], [], [4], [(.slot 7)]⟩ :: ⟨[4, 1], [], [5], [(.slot 8)]⟩ :: ⟨[3, 5], [], [6], [(.slot 9)]⟩ :: ⟨[6], [], [7], [(.slot 10)]⟩ :: ⟨[7, 0], [], [8], [(.slot 11)]⟩ :: ⟨[7, 8, 0], [], [9], [(.slot 12)]⟩ :: ⟨[7, 1], [], [10], [(.slot 13)]⟩ :: ⟨[7, 10, 1], [], [11], [(.slot 14)]⟩ :: ⟨[7, 9, 11], [], [12], [(.slot 15)]⟩ :: ⟨[7, 12], [], [13], [(.slot 16)]⟩ :: ⟨[13], [], [14], [(.slot 17)]⟩ :: ⟨[14, 0], [], [15], [(.slot 18)]⟩ :: ⟨[14, 15, 0], [], [16], [(.slot 19)]⟩ :: ⟨[14, 1], [], [17], [(.slot 20)]⟩ :: ⟨[14, 17, 1], [], [18], [(.slot 21)]⟩ :: ⟨[14, 16, 18], [], [19], [(.slot 22)]⟩ :: ⟨[14, 19], [], [20], [(.slot 23)]⟩ :: ⟨[20], [], [21], [(.slot 4)]⟩ :: [])) (es' := [(4, .v (.bool (a.Domain.toList == b.Domain.toList)))]) (by kernel_rfl) rfl rfl
      ⟨st_plain rfl (op_fieldAddr _ _ _ _ 2 0 _ Tryd.underlying23 rfl sz4 rfl rfl (by decide)),
      st_plain rfl (op_load _ _ _ _ _ _ Tryd.underlying4 rfl rfl rfl (Nat.le_of_ble_eq_true rfl) rfl rfl rfl),
      st_plain rfl (op_fieldAddr _ _ _ _ 3 0 _ Tryd.underlying23 rfl sz4 rfl rfl (by decide)),
      st_plain rfl (op_load _ _ _ _ _ _ Tryd.underlying4 rfl rfl rfl (Nat.le_of_ble_eq_true rfl) rfl rfl rfl),
      st_plain rfl (op_beq _ _ _ _ Tryd.underlying4 rfl rfl),
      st_plain rfl (op_move _ _ _ _ (congrArg (fun b => AV.v (Value.bool b)) hg1_5) rfl),
      st_run 5 10 true rfl rfl rfl (List.Mem.head _) (op_fieldAddr _ _ _ _ 2 0 _ Tryd.underlying23 rfl sz9 rfl rfl (by decide)),
      st_run 5 10 true rfl rfl rfl (List.Mem.head _) (op_load _ _ _ _ _ _ Tryd.underlying9 rfl rfl rfl (Nat.le_of_ble_eq_true rfl) rfl rfl rfl),
      st_run 5 10 true rfl rfl rfl (List.Mem.head _) (op_fieldAddr _ _ _ _ 3 0 _ Tryd.underlying23 rfl sz9 rfl rfl (by decide)),
      st_run 5 10 true rfl rfl rfl (List.Mem.head _) (op_load _ _ _ _ _ _ Tryd.underlying9 rfl rfl rfl (Nat.le_of_ble_eq_true rfl) rfl rfl rfl),
      st_run 5 10 true rfl rfl rfl (List.Mem.head _) (op_bin _ _ _ _ _ rfl rfl rfl),
      st_plain rfl (op_pick _ _ true _ rfl rfl),
      st_plain rfl (op_move _ _ _ _ (congrArg (fun b => AV.v (Value.bool b)) hg1_12) rfl),
      st_run 12 17 true rfl rfl rfl (List.Mem.head _) (op_fieldAddr _ _ _ _ 2 0 _ Tryd.underlying23 rfl sz9 rfl rfl (by decide)),
      st_run 12 17 true rfl rfl rfl (List.Mem.head _) (op_load _ _ _ _ _ _ Tryd.underlying9 rfl rfl rfl (Nat.le_of_ble_eq_true rfl) rfl rfl rfl),
      st_run 12 17 true rfl rfl rfl (List.Mem.head _) (op_fieldAddr _ _ _ _ 3 0 _ Tryd.underlying23 rfl sz9 rfl rfl (by decide)),
      st_run 12 17 true rfl rfl rfl (List.Mem.head _) (op_load _ _ _ _ _ _ Tryd.underlying9 rfl rfl rfl (Nat.le_of_ble_eq_true rfl) rfl rfl rfl),
      st_run 12 17 true rfl rfl rfl (List.Mem.head _) (op_bin _ _ _ _ _ rfl rfl rfl),
      st_plain rfl (op_pick _ _ true _ rfl rfl),
      st_plain rfl (op_assign _ _ _ _ rfl rfl),
      trivial⟩ ?_
     exact hl4 _ (Option.some.inj h).symm
    ·refine ht_seqR hn (El := (_ :: _ :: (5, .ptr 2 0) :: (6, .v (.bool a.Null)) :: (7, .ptr 3 0) :: (8, .v (.bool b.Null)) :: (9, .v (.bool (a.Null == b.Null))) :: (10, .v (.bool true)) :: (11, .ptr 2 1) :: (12, .v (.string a.Local)) :: (13, .ptr 3 1) :: (14, .v (.string b.Local)) :: (15, .v (.bool (a.Local.toList == b.Local.toList))) :: (16, .v (.bool (a.Local.toList == b.Local.toList))) :: (17, .v (.bool false)) :: (18, .v undef) :: (19, .v undef) :: (20, .v undef) :: (21, .v undef) :: (22, .v undef) :: (23, .v (.bool false)) :: (4, .v (.bool false)) :: [])) (init := [0, 1]) (fin := [21]) (sps := (⟨[0], [], [2], [(.slot 5)]⟩ :: ⟨[2, 0], [], [3], [(.slot 6)]⟩ :: ⟨[1], [], [4], [(.slot 7)]⟩ :: ⟨[4, 1], [], [5], [(.slot 8)]⟩ :: ⟨[3, 5], [], [6], [(.slot 9)]⟩ :: ⟨[6], [], [7], [(.slot 10)]⟩ :: ⟨[7, 0], [], [8], [(.slot 11)]⟩ :: ⟨[7, 8, 0], [], [9], [(.slot 12)]⟩ :: ⟨[7, 1], [], [10], [(.slot 13)]⟩ :: ⟨[7, 10, 1], [], [11], [(.slot 14)]⟩ :: ⟨[7, 9, 11], [], [12], [(.slot 15)]⟩ :: ⟨[7, 12], [], [13], [(.slot 16)]⟩ :: ⟨[13], [], [14], [(.slot 17)]⟩ :: ⟨[14], [], [15], [(.slot 18)]⟩ :: ⟨[14], [], [16], [(.slot 19)]⟩ :: ⟨[14], [], [17], [(.slot 20)]⟩ :: ⟨[14], [], [18], [(.slot 21)]⟩ :: ⟨[14], [], [19], [(.slot 22)]⟩ :: ⟨[14], [], [20], [(.slot 23)]⟩ :: ⟨[20], [], [21], [(.slot 4)]⟩ :: [])) (es' := [(4, .v (.bool false))]) (by kernel_rfl) rfl rfl
      ⟨st_plain rfl (op_fieldAddr _ _ _ _ 2 0 _ Tryd.underlying23 rfl sz4 rfl rfl (by decide)),
      st_plain rfl (op_load _ _ _ _ _ _ Tryd.underlying4 rfl rfl rfl (Nat.le_of_ble_eq_true rfl) rfl rfl rfl),
      st_plain rfl (op_fieldAddr _ _ _ _ 3 0 _ Tryd.underlying23 rfl sz4 rfl rfl (by decide)),
      st_plain rfl (op_load _ _ _ _ _ _ Tryd.underlying4 rfl rfl rfl (Nat.le_of_ble_eq_true rfl) rfl rfl rfl),
      st_plain rfl (op_beq _ _ _ _ Tryd.underlying4 rfl rfl),
      st_plain rfl (op_move _ _ _ _ (congrArg (fun b => AV.v (Value.bool b)) hg1_5) rfl),
      st_run 5 10 true rfl rfl rfl (List.Mem.head _) (op_fieldAddr _ _ _ _ 2 0 _ Tryd.underlying23 rfl sz9 rfl rfl (by decide)),
      st_run 5 10 true rfl rfl rfl (List.Mem.head _) (op_load _ _ _ _ _ _ Tryd.underlying9 rfl rfl rfl (Nat.le_of_ble_eq_true rfl) rfl rfl rfl),
      st_run 5 10 true rfl rfl rfl (List.Mem.head _) (op_fieldAddr _ _ _ _ 3 0 _ Tryd.underlying23 rfl sz9 rfl rfl (by decide)),
      st_run 5 10 true rfl rfl rfl (List.Mem.head _) (op_load _ _ _ _ _ _ Tryd.underlying9 rfl rfl rfl (Nat.le_of_ble_eq_true rfl) rfl rfl rfl),
      st_run 5 10 true rfl rfl rfl (List.Mem.head _) (op_bin _ _ _ _ _ rfl rfl rfl),
      st_plain rfl (op_pick _ _ true _ rfl rfl),
      st_plain rfl (op_move _ _ _ _ (congrArg (fun b => AV.v (Value.bool b)) hg1_12) rfl),
      st_skip 12 17 _ true rfl rfl rfl rfl (List.Mem.head _),
      st_skip 12 17 _ true rfl rfl rfl rfl (List.Mem.head _),
      st_skip 12 17 _ true rfl rfl rfl rfl (List.Mem.head _),
      st_skip 12 17 _ true rfl rfl rfl rfl (List.Mem.head _),
      st_skip 12 17 _ true rfl rfl rfl rfl (List.Mem.head _),
      st_plain rfl (op_pick _ _ false _ rfl rfl),
      st_plain rfl (op_assign _ _ _ _ rfl rfl),
      trivial⟩ ?_
     exact hl4 _ (Option.some.inj h).symm
   ·refine ht_seqR hn (El := (_ :: _ :: (5, .ptr 2 0) :: (6, .v (.bool a.Null)) :: (7, .ptr 3 0) :: (8, .v (.bool b.Null)) :: (9, .v (.bool (a.Null == b.Null))) :: (10, .v (.bool false)) :: (11, .v undef) :: (12, .v undef) :: (13, .v undef) :: (14, .v undef) :: (15, .v undef) :: (16, .v (.bool false)) :: (17, .v (.bool false)) :: (18, .v undef) :: (19, .v undef) :: (20, .v undef) :: (21, .v undef) :: (22, .v undef) :: (23, .v (.bool false)) :: (4, .v (.bool false)) :: [])) (init := [0, 1]) (fin := [21]) (sps := (⟨[0], [], [2], [(.slot 5)]⟩ :: ⟨[2, 0], [], [3], [(.slot 6)]⟩ :: ⟨[1], [], [4], [(.slot 7)]⟩ :: ⟨[4, 1], [], [5], [(.slot 8)]⟩ :: ⟨[3, 5], [], [6], [(.slot 9)]⟩ :: ⟨[6], [], [7], [(.slot 10)]⟩ :: ⟨[7], [], [8], [(.slot 11)]⟩ :: ⟨[7], [], [9], [(.slot 12)]⟩ :: ⟨[7], [], [10], [(.slot 13)]⟩ :: ⟨[7], [], [11], [(.slot 14)]⟩ :: ⟨[7], [], [12], [(.slot 15)]⟩ :: ⟨[7], [], [13], [(.slot 16)]⟩ :: ⟨[13], [], [14], [(.slot 17)]⟩ :: ⟨[14], [], [15], [(.slot 18)]⟩ :: ⟨[14], [], [16], [(.slot 19)]⟩ :: ⟨[14], [], [17], [(.slot 20)]⟩ :: ⟨[14], [], [18], [(.slot 21)]⟩ :: ⟨[14], [], [19], [(.slot 22)]⟩ :: ⟨[14], [], [20], [(.slot 23)]⟩ :: ⟨[20], [], [21], [(.slot 4)]⟩ :: [])) (es' := [(4, .v (.bool false))]) (by kernel_rfl) rfl rfl
     ⟨st_plain rfl (op_fieldAddr _ _ _ _ 2 0 _ Tryd.underlying23 rfl sz4 rfl rfl (by decide)),
     st_plain rfl (op_load _ _ _ _ _ _ Tryd.underlying4 rfl rfl rfl (Nat.le_of_ble_eq_true rfl) rfl rfl rfl),
     st_plain rfl (op_fieldAddr _ _ _ _ 3 0 _ Tryd.underlying23 rfl sz4 rfl rfl (by decide)),
     st_plain rfl (op_load _ _ _ _ _ _ Tryd.underlying4 rfl rfl rfl (Nat.le_of_ble_eq_true rfl) rfl rfl rfl),
     st_plain rfl (op_beq _ _ _ _ Tryd.underlying4 rfl rfl),
     st_plain rfl (op_move _ _ _ _ (congrArg (fun b => AV.v (Value.bool b)) hg1_5) rfl),
     st_skip 5 10 _ true rfl rfl rfl rfl (List.Mem.head _),
     st_skip 5 10 _ true rfl rfl rfl rfl (List.Mem.head _),
     st_skip 5 10 _ true rfl rfl rfl rfl (List.Mem.head _),
     st_skip 5 10 _ true rfl rfl rfl rfl (List.Mem.head _),
     st_skip 5 10 _ true rfl rfl rfl rfl (List.Mem.head _),
     st_plain rfl (op_pick _ _ false _ rfl rfl),
     st_plain rfl (op_move _ _ _ _ rfl rfl),
     st_skip 12 17 _ true rfl rfl rfl rfl (List.Mem.head _),
     st_skip 12 17 _ true rfl rfl rfl rfl (List.Mem.head _),
     st_skip 12 17 _ true rfl rfl rfl rfl (List.Mem.head _),
     st_skip 12 17 _ true rfl rfl rfl rfl (List.Mem.head _),
     st_skip 12 17 _ true rfl rfl rfl rfl (List.Mem.head _),
     st_plain rfl (op_pick _ _ false _ rfl rfl),
     st_plain rfl (op_assign _ _ _ _ rfl rfl),
     trivial⟩ ?_
    exact hl4 _ (Option.some.inj h).symm

set_option maxHeartbeats 1000000 in
theorem ok_wherrykeep_Cmd (a : T_Cmd) (b : T_Cmd) (r : Bool) (h : Sh.wherrykeep_Cmd a b = some r) : FnOK Tryd.prog 11 [.agg [.v (.int .i64 a.Kind), .v (.string a.Text), .v (.bool a.Path.Null), .v (.string a.Path.Local), .v (.string a.Path.Domain), .fl .shr 2 (List.flatten (List.map T_Param.enc a.Params))], .agg [.v (.int .i64 b.Kind), .v (.string b.Text), .v (.bool b.Path.Null), .v (.string b.Path.Local), .v (.string b.Path.Domain), .fl .shr 2 (List.flatten (List.map T_Param.enc b.Params))]] (.v (.bool r)) := by
  unfold Sh.wherrykeep_Cmd at h
  refine fn_ok Tryd.func11 rfl (Nat.le_of_ble_eq_true rfl) rfl rfl fun g0 hn hio => ?_
  refine ht_seq ?_
  refine ht_seqR hn (El := [_, _, (2, .box 26 [.v (.int .i64 a.Kind), .v (.string a.Text), .v (.bool a.Path.Null), .v (.string a.Path.Local), .v (.string a.Path.Domain), .fl .shr 2 (List.flatten (List.map T_Param.enc a.Params))]), (3, .box 26 [.v (.int .i64 b.Kind), .v (.string b.Text), .v (.bool b.Path.Null), .v (.string b.Path.Local), .v (.string b.Path.Domain), .fl .shr 2 (List.flatten (List.map T_Param.enc b.Params))]), (4, .v (.bool false))]) (init := [0, 1]) (fin := [2, 3]) (sps := [⟨[0], [], [2], [(.slot 2)]⟩, ⟨[1], [], [3], [(.slot 3)]⟩, ⟨[], [], [4], [(.slot 4)]⟩]) (es' := [(2, .box 26 [.v (.int .i64 a.Kind), .v (.string a.Text), .v (.bool a.Path.Null), .v (.string a.Path.Local), .v (.string a.Path.Domain), .fl .shr 2 (List.flatten (List.map T_Param.enc a.Params))]), (3, .box 26 [.v (.int .i64 b.Kind), .v (.string b.Text), .v (.bool b.Path.Null), .v (.string b.Path.Local), .v (.string b.Path.Domain), .fl .shr 2 (List.flatten (List.map T_Param.enc b.Params))])]) (by kernel_rfl) rfl rfl
   ⟨st_plain rfl (op_box _ _ _ _ rfl rfl rfl),
   st_plain rfl (op_box _ _ _ _ rfl rfl rfl),
   st_plain rfl (op_assign _ _ _ _ rfl rfl),
   trivial⟩ ?_
  refine pt_then ?_
  refine ht_seq ?_
  refine ht_seq ?_
  refine ht_joinS h (fun (s2 : Bool) => [(2, .box 26 [.v (.int .i64 a.Kind), .v (.string a.Text), .v (.bool a.Path.Null), .v (.string a.Path.Local), .v (.string a.Path.Domain), .fl .shr 2 (List.flatten (List.map T_Param.enc a.Params))]), (3, .box 26 [.v (.int .i64 b.Kind), .v (.string b.Text), .v (.bool b.Path.Null), .v (.string b.Path.Local), .v (.string b.Path.Domain), .fl .shr 2 (List.flatten (List.map T_Param.enc b.Params))]), (34, .v (.bool s2))]) ?_ ?_
  ·rintro s2 h
   refine pt_then ?_
   refine ht_cond _ rfl (fun hb6 => ?_) (fun hb6 => ?_)
   ·have h := cond_t hb6 h
    refine ht_seq ?_
    refine ht_seqR hn (El := [_, _, _, (4, .v (.bool false))]) (init := [0, 1, 2]) (fin := [3]) (sps := [⟨[], [], [3], [(.slot 4)]⟩]) (es' := [(4, .v (.bool false))]) (by kernel_rfl) rfl rfl
     ⟨st_plain rfl (op_assign _ _ _ _ rfl rfl),
     trivial⟩ ?_
    refine pt_then ?_
    refine ht_ret ?_
    refine pt_r_then ?_
    obtain rfl := Option.some.inj h
    exact pt_ret hio rfl (.tmp _ _ .nil) rfl rfl
   ·have h := cond_f hb6 h
    refine ht_skip ?_
    refine pt_then ?_
    refine ht_seq ?_
    refine ht_seq ?_
    refine ht_seqR hn (El := [_, _, _, (5, .v (.int .i64 0))]) (init := [0, 1, 2]) (fin := [0, 1, 3]) (sps := [⟨[], [], [3], [(.slot 5)]⟩]) (es' := [(_, _), (_, _), (5, .v (.int .i64 0))]) (by kernel_rfl) rfl rfl
     ⟨st_plain rfl (op_assign _ _ _ _ rfl rfl),
     trivial⟩ ?_
    refine pt_then ?_
    refine ht_loopS h (fun (s29 : Int) => [(2, .box 26 [.v (.int .i64 a.Kind), .v (.string a.Text), .v (.bool a.Path.Null), .v (.string a.Path.Local), .v (.string a.Path.Domain), .fl .shr 2 (List.flatten (List.map T_Param.enc a.Params))]), (3, .box 26 [.v (.int .i64 b.Kind), .v (.string b.Text), .v (.bool b.Path.Null), .v (.string b.Path.Local), .v (.string b.Path.Domain), .fl .shr 2 (List.flatten (List.map T_Param.enc b.Params))]), (5, .v (.int .i64 s29))]) (fun (() : Unit) => []) ?_ ?_
    ·rintro ⟨⟩ h
     refine pt_then ?_
     refine ht_seq ?_
     refine ht_seqR hn (El := [(4, .v (.bool true))]) (init := []) (fin := [0]) (sps := [⟨[], [], [0], [(.slot 4)]⟩]) (es' := [(4, .v (.bool true))]) (by kernel_rfl) rfl rfl
      ⟨st_plain rfl (op_assign _ _ _ _ rfl rfl),
      trivial⟩ ?_
     refine pt_then ?_
     refine ht_ret ?_
     obtain rfl := Option.some.inj h
     exact pt_ret hio rfl (.tmp _ _ .nil) rfl rfl
    ·rintro u36 hl37 hr38 s29 rr41 h ho39
     refine ht_seq ?_
     refine ht_seq ?_
     refine ht_seqR hn (El := [_, _, _, (35, .v (.int .i64 s29)), (36, .ptr 2 5), (37, .fl .shr 2 (List.flatten (List.map T_Param.enc a.Params))), (38, .v (.int .i64 (a.Params.length : Int))), (39, .v (.bool ((decide (s29 < (a.Params.length : Int))))))]) (init := [0, 1, 2]) (fin := [0, 1, 2, 7]) (sps := [⟨[2], [], [3], [(.slot 35)]⟩, ⟨[0], [], [4], [(.slot 36)]⟩, ⟨[4, 0], [], [5], [(.slot 37)]⟩, ⟨[5], [], [6], [(.slot 38)]⟩, ⟨[3, 6], [], [7], [(.slot 39)]⟩]) (es' := [(_, _), (_, _), (_, _), (39, .v (.bool ((decide (s29 < (a.Params.length : Int))))))]) (by kernel_rfl) rfl rfl
      ⟨st_plain rfl (op_move _ _ _ _ rfl rfl),
      st_plain rfl (op_fieldAddr _ _ _ _ 2 0 _ Tryd.underlying26 rfl sz24 rfl rfl (by decide)),
      st_plain rfl (op_load _ _ _ _ _ _ Tryd.underlying24 rfl rfl rfl (Nat.le_of_ble_eq_true rfl) rfl rfl rfl),
      st_plain rfl (op_len_fl _ _ _ Tryd.underlying24 rfl (by decide) (flat_len T_Param.len _)),
      st_plain rfl (op_bin _ _ _ _ _ rfl rfl rfl),
      trivial⟩ ?_
     refine pt_then ?_
     refine ht_cond _ rfl (fun hb42 => ?_) (fun hb42 => ?_)
     ·have h := cond_t hb42 h
      refine ht_skip ?_
      refine pt_then ?_
      refine ht_seq ?_
      refine ht_block ?_
      refine ht_seq ?_
      refine ht_joinS h (fun (s43 : Bool) => [(2, .box 26 [.v (.int .i64 a.Kind), .v (.string a.Text), .v (.bool a.Path.Null), .v (.string a.Path.Local), .v (.string a.Path.Domain), .fl .shr 2 (List.flatten (List.map T_Param.enc a.Params))]), (3, .box 26 [.v (.int .i64 b.Kind), .v (.string b.Text), .v (.bool b.Path.Null), .v (.string b.Path.Local), .v (.string b.Path.Domain), .fl .shr 2 (List.flatten (List.map T_Param.enc b.Params))]), (5, .v (.int .i64 s29)), (69, .v (.bool s43))]) ?_ ?_
      ·rintro s43 h
       refine pt_then ?_
       refine ht_cond _ rfl (fun hb47 => ?_) (fun hb47 => ?_)
       ·have h := cond_t hb47 h
        refine ht_seq ?_
        refine ht_seqR hn (El := [_, _, _, _, (4, .v (.bool false))]) (init := [0, 1, 2, 3]) (fin := [4]) (sps := [⟨[], [], [4], [(.slot 4)]⟩]) (es' := [(4, .v (.bool false))]) (by kernel_rfl) rfl rfl
         ⟨st_plain rfl (op_assign _ _ _ _ rfl rfl),
         trivial⟩ ?_
        refine pt_then ?_
        refine ht_ret ?_
        refine pt_r_in ?_
        refine pt_r_then ?_
        refine pt_r_then ?_
        refine pt_r_in ?_
        refine pt_r_then ?_
        have h := hr38 _ (ho39 _ (Option.some.inj h).symm).symm
        obtain rfl := Option.some.inj h
        exact pt_ret hio rfl (.tmp _ _ .nil) rfl rfl
       ·have h := cond_f hb47 h
        refine ht_skip ?_
        refine pt_inb ?_
        refine pt_then ?_
        obtain ⟨v21, hv21, h⟩ := bind_some h
        refine ht_seqR hn (El := [_, _, _, _, (40, .v (.int .i64 s29)), (41, .v (.int .i64 v21)), (5, .v (.int .i64 v21))]) (init := [0, 1, 2, 3]) (fin := [0, 1, 6]) (sps := [⟨[2], [], [4], [(.slot 40)]⟩, ⟨[4], [], [5], [(.slot 41)]⟩, ⟨[5], [2], [6], [(.slot 5)]⟩]) (es' := [(_, _), (_, _), (5, .v (.int .i64 v21))]) (by kernel_rfl) rfl rfl
         ⟨st_plain rfl (op_move _ _ _ _ rfl rfl),
         st_plain rfl (op_bin _ _ _ _ _ rfl rfl (ibind (f := Value.int .i64) (Option.some.inj hv21))),
         st_plain rfl (LOp.drop [_] (op_assign _ _ _ _ rfl rfl)),
         trivial⟩ ?_
        exact pt_next _ (Option.some.inj h).symm rfl
      ·intro u44 h hl45 hr46
       obtain ⟨v8, hv8, h⟩ := bind_some h
       obtain ⟨v9, hv9, h⟩ := bind_some h
       obtain ⟨v10, hv10, h⟩ := bind_some h
       obtain ⟨v11, hv11, h⟩ := bind_some h
       refine cond_some h (fun hg6_13 h => ?_) (fun hg6_13 h => ?_)
       ·refine ht_anyR (by kernel_rfl) hn (El := (_ :: _ :: _ :: _ :: (42, .ptr 2 5) :: (43, .fl .shr 2 (List.flatten (List.map T_Param.enc a.Params))) :: (44, .v (.int .i64 s29)) :: (45, .eref (.slot 43) (v8 * 2)) :: (46, .eref (.slot 43) (v8 * 2 + 0)) :: (47, .v (.string v9.Key)) :: (48, .ptr 3 5) :: (49, .fl .shr 2 (List.flatten (List.map T_Param.enc b.Params))) :: (50, .v (.int .i64 s29)) :: (51, .eref (.slot 49) (v10 * 2)) :: (52, .eref (.slot 49) (v10 * 2 + 0)) :: (53, .v (.string v11.Key)) :: (54, .v (.bool ((!(v9.Key.toList == v11.Key.toList))))) :: (55, .v (.bool true)) :: (56, .v undef) :: (57, .v undef) :: (58, .v undef) :: (59, .v undef) :: (60, .v undef) :: (61, .v undef) :: (62, .v undef) :: (63, .v undef) :: (64, .v undef) :: (65, .v undef) :: (66, .v undef) :: (67, .v undef) :: (68, .v undef) :: (69, .v (.bool true)) :: [])) (init := [0, 1, 2, 3]) (fin := [0, 1, 2, 31]) (sps := (⟨[0], [], [4], [(.slot 42)]⟩ :: ⟨[4, 0], [], [5], [(.slot 43)]⟩ :: ⟨[2], [], [6], [(.slot 44)]⟩ :: ⟨[5, 6], [], [7], [(.slot 45)]⟩ :: ⟨[7, 5], [], [8], [(.slot 46)]⟩ :: ⟨[8, 5], [], [9], [(.slot 47)]⟩ :: ⟨[1], [], [10], [(.slot 48)]⟩ :: ⟨[10, 1], [], [11], [(.slot 49)]⟩ :: ⟨[2], [], [12], [(.slot 50)]⟩ :: ⟨[11, 12], [], [13], [(.slot 51)]⟩ :: ⟨[13, 11], [], [14], [(.slot 52)]⟩ :: ⟨[14, 11], [], [15], [(.slot 53)]⟩ :: ⟨[9, 15], [], [16], [(.slot 54)]⟩ :: ⟨[16], [], [17], [(.slot 55)]⟩ :: ⟨[17], [], [18], [(.slot 56)]⟩ :: ⟨[17], [], [19], [(.slot 57)]⟩ :: ⟨[17], [], [20], [(.slot 58)]⟩ :: ⟨[17], [], [21], [(.slot 59)]⟩ :: ⟨[17], [], [22], [(.slot 60)]⟩ :: ⟨[17], [], [23], [(.slot 61)]⟩ :: ⟨[17], [], [24], [(.slot 62)]⟩ :: ⟨[17], [], [25], [(.slot 63)]⟩ :: ⟨[17], [], [26], [(.slot 64)]⟩ :: ⟨[17], [], [27], [(.slot 65)]⟩ :: ⟨[17], [], [28], [(.slot 66)]⟩ :: ⟨[17], [], [29], [(.slot 67)]⟩ :: ⟨[17], [], [30], [(.slot 68)]⟩ :: ⟨[17], [], [31], [(.slot 69)]⟩ :: [])) (es' := [(_, _), (_, _), (_, _), (69, .v (.bool true))]) (by kernel_rfl) rfl rfl
         ⟨st_plain rfl (op_fieldAddr _ _ _ _ 2 0 _ Tryd.underlying26 rfl sz24 rfl rfl (by decide)),
         st_plain rfl (op_load _ _ _ _ _ _ Tryd.underlying24 rfl rfl rfl (Nat.le_of_ble_eq_true rfl) rfl rfl rfl),
         st_plain rfl (op_move _ _ _ _ rfl rfl),
         st_plain rfl (op_ix _ _ _ _ _ _ _ _ Tryd.underlying24 sz46 (by decide) rfl rfl rfl (ix_ok hv8).1 (flat_lt T_Param.len (ix_ok hv8).2) rfl),
         st_plain rfl (op_fieldAddr_e _ _ _ _ _ _ _ Tryd.underlying46 rfl sz9 rfl rfl rfl),
         st_plain rfl (op_load_e _ _ _ _ _ _ Tryd.underlying9 rfl rfl rfl (flat_cell T_Param.len hv9 rfl)),
         st_plain rfl (op_fieldAddr _ _ _ _ 3 0 _ Tryd.underlying26 rfl sz24 rfl rfl (by decide)),
         st_plain rfl (op_load _ _ _ _ _ _ Tryd.underlying24 rfl rfl rfl (Nat.le_of_ble_eq_true rfl) rfl rfl rfl),
         st_plain rfl (op_move _ _ _ _ rfl rfl),
         st_plain rfl (op_ix _ _ _ _ _ _ _ _ Tryd.underlying24 sz46 (by decide) rfl rfl rfl (ix_ok hv10).1 (flat_lt T_Param.len (ix_ok hv10).2) rfl),
         st_plain rfl (op_fieldAddr_e _ _ _ _ _ _ _ Tryd.underlying46 rfl sz9 rfl rfl rfl),
         st_plain rfl (op_load_e _ _ _ _ _ _ Tryd.underlying9 rfl rfl rfl (flat_cell T_Param.len hv11 rfl)),
         st_plain rfl (op_bin _ _ _ _ _ rfl rfl rfl),
         st_plain rfl (op_move _ _ _ _ (congrArg (fun b => AV.v (Value.bool b)) hg6_13) rfl),
         st_skip 13 55 _ false rfl rfl rfl rfl (List.Mem.head _),
         st_skip 13 55 _ false rfl rfl rfl rfl (List.Mem.head _),
         st_skip 13 55 _ false rfl rfl rfl rfl (List.Mem.head _),
         st_skip 13 55 _ false rfl rfl rfl rfl (List.Mem.head _),
         st_skip 13 55 _ false rfl rfl rfl rfl (List.Mem.head _),
         st_skip 13 55 _ false rfl rfl rfl rfl (List.Mem.head _),
         st_skip 13 55 _ false rfl rfl rfl rfl (List.Mem.head _),
         st_skip 13 55 _ false rfl rfl rfl rfl (List.Mem.head _),
         st_skip 13 55 _ false rfl rfl rfl rfl (List.Mem.head _),
         st_skip 13 55 _ false rfl rfl rfl rfl (List.Mem.head _),
         st_skip 13 55 _ false rfl rfl rfl rfl (List.Mem.head _),
         st_skip 13 55 _ false rfl rfl rfl rfl (List.Mem.head _),
         st_skip 13 55 _ false rfl rfl rfl rfl (List.Mem.head _),
         st_plain rfl (op_pick _ _ true _ rfl rfl),
         trivial⟩ ?_
        exact hl45 _ (Option.some.inj h).symm
       ·obtain ⟨v12, hv12, h⟩ := bind_some h
        obtain ⟨v13, hv13, h⟩ := bind_some h
        obtain ⟨v14, hv14, h⟩ := bind_some h
        obtain ⟨v15, hv15, h⟩ := bind_some h
        refine ht_anyR (by kernel_rfl) hn (El := (_ :: _ :: _ :: _ :: (42, .ptr 2 5) :: (43, .fl .shr 2 (List.flatten (List.map T_Param.enc a.Params))) :: (44, .v (.int .i64 s29)) :: (45, .eref (.slot 43) (v8 * 2)) :: (46, .eref (.slot 43) (v8 * 2 + 0)) :: (47, .v (.string v9.Key)) :: (48, .ptr 3 5) :: (49, .fl .shr 2 (List.flatten (List.map T_Param.enc b.Params))) :: (50, .v (.int .i64 s29)) :: (51, .eref (.slot 49) (v10 * 2)) :: (52, .eref (.slot 49) (v10 * 2 + 0)) :: (53, .v (.string v11.Key)) :: (54, .v (.bool ((!(v9.Key.toList == v11.Key.toList))))) :: (55, .v (.bool false)) :: (56, .ptr 2 5) :: (57, .fl .shr 2 (List.flatten (List.map T_Param.enc a.Params))) :: (58, .v (.int .i64 s29)) :: (59, .eref (.slot 57) (v12 * 2)) :: (60, .eref (.slot 57) (v12 * 2 + 1)) :: (61, .v (.string v13.Val)) :: (62, .ptr 3 5) :: (63, .fl .shr 2 (List.flatten (List.map T_Param.enc b.Params))) :: (64, .v (.int .i64 s29)) :: (65, .eref (.slot 63) (v14 * 2)) :: (66, .eref (.slot 63) (v14 * 2 + 1)) :: (67, .v (.string v15.Val)) :: (68, .v (.bool ((!(v13.Val.toList == v15.Val.toList))))) :: (69, .v (.bool ((!(v13.Val.toList == v15.Val.toList))))) :: [])) (init := [0, 1, 2, 3]) (fin := [0, 1, 2, 31]) (sps := (⟨[0], [], [4], [(.slot 42)]⟩ :: ⟨[4, 0], [], [5], [(.slot 43)]⟩ :: ⟨[2], [], [6], [(.slot 44)]⟩ :: ⟨[5, 6], [], [7], [(.slot 45)]⟩ :: ⟨[7, 5], [], [8], [(.slot 46)]⟩ :: ⟨[8, 5], [], [9], [(.slot 47)]⟩ :: ⟨[1], [], [10], [(.slot 48)]⟩ :: ⟨[10, 1], [], [11], [(.slot 49)]⟩ :: ⟨[2], [], [12], [(.slot 50)]⟩ :: ⟨[11, 12], [], [13], [(.slot 51)]⟩ :: ⟨[13, 11], [], [14], [(.slot 52)]⟩ :: ⟨[14, 11], [], [15], [(.slot 53)]⟩ :: ⟨[9, 15], [], [16], [(.slot 54)]⟩ :: ⟨[16], [], [17], [(.slot 55)]⟩ :: ⟨[17, 0], [], [18], [(.slot 56)]⟩ :: ⟨[17, 18, 0], [], [19], [(.slot 57)]⟩ :: ⟨[17, 2], [], [20], [(.slot 58)]⟩ :: ⟨[17, 19, 20], [], [21], [(.slot 59)]⟩ :: ⟨[17, 21, 19], [], [22], [(.slot 60)]⟩ :: ⟨[17, 22, 19], [], [23], [(.slot 61)]⟩ :: ⟨[17, 1], [], [24], [(.slot 62)]⟩ :: ⟨[17, 24, 1], [], [25], [(.slot 63)]⟩ :: ⟨[17, 2], [], [26], [(.slot 64)]⟩ :: ⟨[17, 25, 26], [], [27], [(.slot 65)]⟩ :: ⟨[17, 27, 25], [], [28], [(.slot 66)]⟩ :: ⟨[17, 28, 25], [], [29], [(.slot 67)]⟩ :: ⟨[17, 23, 29], [], [30], [(.slot 68)]⟩ :: ⟨[17, 30], [], [31], [(.slot 69)]⟩ :: [])) (es' := [(_, _), (_, _), (_, _), (69, .v (.bool ((!(v13.Val.toList == v15.Val.toList)))))]) (by kernel_rfl) rfl rfl
         ⟨st_plain rfl (op_fieldAddr _ _ _ _ 2 0 _ Tryd.underlying26 rfl sz24 rfl rfl (by decide)),
         st_plain rfl (op_load _ _ _ _ _ _ Tryd.underlying24 rfl rfl rfl (Nat.le_of_ble_eq_true rfl) rfl rfl rfl),
         st_plain rfl (op_move _ _ _ _ rfl rfl),
         st_plain rfl (op_ix _ _ _ _ _ _ _ _ Tryd.underlying24 sz46 (by decide) rfl rfl rfl (ix_ok hv8).1 (flat_lt T_Param.len (ix_ok hv8).2) rfl),
         st_plain rfl (op_fieldAddr_e _ _ _ _ _ _ _ Tryd.underlying46 rfl sz9 rfl rfl rfl),
         st_plain rfl (op_load_e _ _ _ _ _ _ Tryd.underlying9 rfl rfl rfl (flat_cell T_Param.len hv9 rfl)),
         st_plain rfl (op_fieldAddr _ _ _ _ 3 0 _ Tryd.underlying26 rfl sz24 rfl rfl (by decide)),
         st_plain rfl (op_load _ _ _ _ _ _ Tryd.underlying24 rfl rfl rfl (Nat.le_of_ble_eq_true rfl) rfl rfl rfl),
         st_plain rfl (op_move _ _ _ _ rfl rfl),
         st_plain rfl (op_ix _ _ _ _ _ _ _ _ Tryd.underlying24 sz46 (by decide) rfl rfl rfl (ix_ok hv10).1 (flat_lt T_Param.len (ix_ok hv10).2) rfl),
         st_plain rfl (op_fieldAddr_e _ _ _ _ _ _ _ Tryd.underlying46 rfl sz9 rfl rfl rfl),
         st_plain rfl (op_load_e _ _ _ _ _ _ Tryd.underlying9 rfl rfl rfl (flat_cell T_Param.len hv11 rfl)),
         st_plain rfl (op_bin _ _ _ _ _ rfl rfl rfl),
         st_plain rfl (op_move _ _ _ _ (congrArg (fun b => AV.v (Value.bool b)) hg6_13) rfl),
         st_run 13 55 false rfl rfl rfl (List.Mem.head _) (op_fieldAddr _ _ _ _ 2 0 _ Tryd.underlying26 rfl sz24 rfl rfl (by decide)),
         st_run 13 55 false rfl rfl rfl (List.Mem.head _) (op_load _ _ _ _ _ _ Tryd.underlying24 rfl rfl rfl (Nat.le_of_ble_eq_true rfl) rfl rfl rfl),
         st_run 13 55 false rfl rfl rfl (List.Mem.head _) (op_move _ _ _ _ rfl rfl),
         st_run 13 55 false rfl rfl rfl (List.Mem.head _) (op_ix _ _ _ _ _ _ _ _ Tryd.underlying24 sz46 (by decide) rfl rfl rfl (ix_ok hv12).1 (flat_lt T_Param.len (ix_ok hv12).2) rfl),
         st_run 13 55 false rfl rfl rfl (List.Mem.head _) (op_fieldAddr_e _ _ _ _ _ _ _ Tryd.underlying46 rfl sz9 rfl rfl rfl),
         st_run 13 55 false rfl rfl rfl (List.Mem.head _) (op_load_e _ _ _ _ _ _ Tryd.underlying9 rfl rfl rfl (flat_cell T_Param.len hv13 rfl)),
         st_run 13 55 false rfl rfl rfl (List.Mem.head _) (op_fieldAddr _ _ _ _ 3 0 _ Tryd.underlying26 rfl sz24 rfl rfl (by decide)),
         st_run 13 55 false rfl rfl rfl (List.Mem.head _) (op_load _ _ _ _ _ _ Tryd.underlying24 rfl rfl rfl (Nat.le_of_ble_eq_true rfl) rfl rfl rfl),
         st_run 13 55 false rfl rfl rfl (List.Mem.head _) (op_move _ _ _ _ rfl rfl),
         st_run 13 55 false rfl rfl rfl (List.Mem.head _) (op_ix _ _ _ _ _ _ _ _ Tryd.underlying24 sz46 (by decide) rfl rfl rfl (ix_ok hv14).1 (flat_lt T_Param.len (ix_ok hv14).2) rfl),
         st_run 13 55 false rfl rfl rfl (List.Mem.head _) (op_fieldAddr_e _ _ _ _ _ _ _ Tryd.underlying46 rfl sz9 rfl rfl rfl),
         st_run 13 55 false rfl rfl rfl (List.Mem.head _) (op_load_e _ _ _ _ _ _ Tryd.underlying9 rfl rfl rfl (flat_cell T_Param.len hv15 rfl)),
         st_run 13 55 false rfl rfl rfl (List.Mem.head _) (op_bin _ _ _ _ _ rfl rfl rfl),
         st_plain rfl (op_pick _ _ false _ rfl rfl),
         trivial⟩ ?_
        exact hl45 _ (Option.some.inj h).symm
     ·have h := cond_f hb42 h
      refine ht_exit ?_
      refine pt_x_then ?_
      refine pt_x_then ?_
      refine pt_x_in ?_
      refine pt_pick [] (by kernel_rfl) (es' := []) rfl ?_
      exact hl37 _ (ho39 _ (Option.some.inj h).symm).symm
  ·intro u3 h hl4 hr5
   refine cond_some h (fun hg1_5 h => ?_) (fun hg1_5 h => ?_)
   ·refine ht_seqR hn (El := (_ :: _ :: (6, .ptr 2 0) :: (7, .v (.int .i64 a.Kind)) :: (8, .ptr 3 0) :: (9, .v (.int .i64 b.Kind)) :: (10, .v (.bool (a.Kind != b.Kind))) :: (11, .v (.bool true)) :: (12, .v undef) :: (13, .v undef) :: (14, .v undef) :: (15, .v undef) :: (16, .v undef) :: (17, .v (.bool true)) :: (18, .v (.bool true)) :: (19, .v undef) :: (20, .v undef) :: (21, .v undef) :: (22, .v undef) :: (23, .v undef) :: (24, .v undef) :: (25, .v (.bool true)) :: (26, .v (.bool true)) :: (27, .v undef) :: (28, .v undef) :: (29, .v undef) :: (30, .v undef) :: (31, .v undef) :: (32, .v undef) :: (33, .v undef) :: (34, .v (.bool true)) :: [])) (init := [0, 1]) (fin := [0, 1, 30]) (sps := (⟨[0], [], [2], [(.slot 6)]⟩ :: ⟨[2, 0], [], [3], [(.slot 7)]⟩ :: ⟨[1], [], [4], [(.slot 8)]⟩ :: ⟨[4, 1], [], [5], [(.slot 9)]⟩ :: ⟨[3, 5], [], [6], [(.slot 10)]⟩ :: ⟨[6], [], [7], [(.slot 11)]⟩ :: ⟨[7], [], [8], [(.slot 12)]⟩ :: ⟨[7], [], [9], [(.slot 13)]⟩ :: ⟨[7], [], [10], [(.slot 14)]⟩ :: ⟨[7], [], [11], [(.slot 15)]⟩ :: ⟨[7], [], [12], [(.slot 16)]⟩ :: ⟨[7], [], [13], [(.slot 17)]⟩ :: ⟨[13], [], [14], [(.slot 18)]⟩ :: ⟨[14], [], [15], [(.slot 19)]⟩ :: ⟨[14], [], [16], [(.slot 20)]⟩ :: ⟨[14], [], [17], [(.slot 21)]⟩ :: ⟨[14], [], [18], [(.slot 22)]⟩ :: ⟨[14], [], [19], [(.slot 23)]⟩ :: ⟨[14], [], [20], [(.slot 24)]⟩ :: ⟨[14], [], [21], [(.slot 25)]⟩ :: ⟨[21], [], [22], [(.slot 26)]⟩ :: ⟨[22], [], [23], [(.slot 27)]⟩ :: ⟨[22], [], [24], [(.slot 28)]⟩ :: ⟨[22], [], [25], [(.slot 29)]⟩ :: ⟨[22], [], [26], [(.slot 30)]⟩ :: ⟨[22], [], [27], [(.slot 31)]⟩ :: ⟨[22], [], [28], [(.slot 32)]⟩ :: ⟨[22], [], [29], [(.slot 33)]⟩ :: ⟨[22], [], [30], [(.slot 34)]⟩ :: [])) (es' := [(_, _), (_, _), (34, .v (.bool true))]) (by kernel_rfl) rfl rfl
     ⟨st_plain rfl (op_fieldAddr _ _ _ _ 2 0 _ Tryd.underlying26 rfl sz3 rfl rfl (by decide)),
     st_plain rfl (op_load _ _ _ _ _ _ Tryd.underlying3 rfl rfl rfl (Nat.le_of_ble_eq_true rfl) rfl rfl rfl),
     st_plain rfl (op_fieldAddr _ _ _ _ 3 0 _ Tryd.underlying26 rfl sz3 rfl rfl (by decide)),
     st_plain rfl (op_load _ _ _ _ _ _ Tryd.underlying3 rfl rfl rfl (Nat.le_of_ble_eq_true rfl) rfl rfl rfl),
     st_plain rfl (op_bin _ _ _ _ _ rfl rfl rfl),
     st_plain rfl (op_move _ _ _ _ (congrArg (fun b => AV.v (Value.bool b)) hg1_5) rfl),
     st_skip 5 11 _ false rfl rfl rfl rfl (List.Mem.head _),
     st_skip 5 11 _ false rfl rfl rfl rfl (List.Mem.head _),
     st_skip 5 11 _ false rfl rfl rfl rfl (List.Mem.head _),
     st_skip 5 11 _ false rfl rfl rfl rfl (List.Mem.head _),
     st_skip 5 11 _ false rfl rfl rfl rfl (List.Mem.head _),
     st_plain rfl (op_pick _ _ true _ rfl rfl),
     st_plain rfl (op_move _ _ _ _ rfl rfl),
     st_skip 12 18 _ false rfl rfl rfl rfl (List.Mem.head _),
     st_skip 12 18 _ false rfl rfl rfl rfl (List.Mem.head _),
     st_skip 12 18 _ false rfl rfl rfl rfl (List.Mem.head _),
     st_skip 12 18 _ false rfl rfl rfl rfl (List.Mem.head _),
     st_skip 12 18 _ false rfl rfl rfl rfl (List.Mem.head _),
     st_skip 12 18 _ false rfl rfl rfl rfl (List.Mem.head _),
     st_plain rfl (op_pick _ _ true _ rfl rfl),
     st_plain rfl (op_move _ _ _ _ rfl rfl),
     st_skip 20 26 _ false rfl rfl rfl rfl (List.Mem.head _),
     st_skip 20 26 _ false rfl rfl rfl rfl (List.Mem.head _),
     st_skip 20 26 _ false rfl rfl rfl rfl (List.Mem.head _),
     st_skip 20 26 _ false rfl rfl rfl rfl (List.Mem.head _),
     st_skip 20 26 _ false rfl rfl rfl rfl (List.Mem.head _),
     st_skip 20 26 _ false rfl rfl rfl rfl (List.Mem.head _),
     st_skip 20 26 _ false rfl rfl rfl rfl (List.Mem.head _),
     st_plain rfl (op_pick _ _ true _ rfl rfl),
     trivial⟩ ?_
    exact hl4 _ (Option.some.inj h).symm
   ·refine cond_some h (fun hg1_12 h => ?_) (fun hg1_12 h => ?_)
    ·refine ht_seqR hn (El := (_ :: _ :: (6, .ptr 2 0) :: (7, .v (.int .i64 a.Kind)) :: (8, .ptr 3 0) :: (9, .v (.int .i64 b.Kind)) :: (10, .v (.bool (a.Kind != b.Kind))) :: (11, .v (.bool false)) :: (12, .ptr 2 1) :: (13, .v (.string a.Text)) :: (14, .ptr 3 1) :: (15, .v (.string b.Text)) :: (16, .v (.bool ((!(a.Text.toList == b.Text.toList))))) :: (17, .v (.bool ((!(a.Text.toList == b.Text.toList))))) :: (18, .v (.bool true)) :: (19, .v undef) :: (20, .v undef) :: (21, .v undef) :: (22, .v undef) :: (23, .v undef) :: (24, .v undef) :: (25, .v (.bool true)) :: (26, .v (.bool true)) :: (27, .v undef) :: (28, .v undef) :: (29, .v undef) :: (30, .v undef) :: (31, .v undef) :: (32, .v undef) :: (33, .v undef) :: (34, .v (.bool true)) :: [])) (init := [0, 1]) (fin := [0, 1, 30]) (sps := (⟨[0], [], [2], [(.slot 6)]⟩ :: ⟨[2, 0], [], [3], [(.slot 7)]⟩ :: ⟨[1], [], [4], [(.slot 8)]⟩ :: ⟨[4, 1], [], [5], [(.slot 9)]⟩ :: ⟨[3, 5], [], [6], [(.slot 10)]⟩ :: ⟨[6], [], [7], [(.slot 11)]⟩ :: ⟨[7, 0], [], [8], [(.slot 12)]⟩ :: ⟨[7, 8, 0], [], [9], [(.slot 13)]⟩ :: ⟨[7, 1], [], [10], [(.slot 14)]⟩ :: ⟨[7, 10, 1], [], [11], [(.slot 15)]⟩ :: ⟨[7, 9, 11], [], [12], [(.slot 16)]⟩ :: ⟨[7, 12], [], [13], [(.slot 17)]⟩ :: ⟨[13], [], [14], [(.slot 18)]⟩ :: ⟨[14], [], [15], [(.slot 19)]⟩ :: ⟨[14], [], [16], [(.slot 20)]⟩ :: ⟨[14], [], [17], [(.slot 21)]⟩ :: ⟨[14], [], [18], [(.slot 22)]⟩ :: ⟨[14], [], [19], [(.slot 23)]⟩ :: ⟨[14], [], [20], [(.slot 24)]⟩ :: ⟨[14], [], [21], [(.slot 25)]⟩ :: ⟨[21], [], [22], [(.slot 26)]⟩ :: ⟨[22], [], [23], [(.slot 27)]⟩ :: ⟨[22], [], [24], [(.slot 28)]⟩ :: ⟨[22], [], [25], [(.slot 29)]⟩ :: ⟨[22], [], [26], [(.slot 30)]⟩ :: ⟨[22], [], [27], [(.slot 31)]⟩ :: ⟨[22], [], [28], [(.slot 32)]⟩ :: ⟨[22], [], [29], [(.slot 33)]⟩ :: ⟨[22], [], [30], [(.slot 34)]⟩ :: [])) (es' := [(_, _), (_, _), (34, .v (.bool true))]) (by kernel_rfl) rfl rfl
      ⟨st_plain rfl (op_fieldAddr _ _ _ _ 2 0 _ Tryd.underlying26 rfl sz3 rfl rfl (by decide)),
      st_plain rfl (op_load _ _ _ _ _ _ Tryd.underlying3 rfl rfl rfl (Nat.le_of_ble_eq_true rfl) rfl rfl rfl),
      st_plain rfl (op_fieldAddr _ _ _ _ 3 0 _ Tryd.underlying26 rfl sz3 rfl rfl (by decide)),
      st_plain rfl (op_load _ _ _ _ _ _ Tryd.underlying3 rfl rfl rfl (Nat.le_of_ble_eq_true rfl) rfl rfl rfl),
      st_plain rfl (op_bin _ _ _ _ _ rfl rfl rfl),
      st_plain rfl (op_move _ _ _ _ (congrArg (fun b => AV.v (Value.bool b)) hg1_5) rfl),
      st_run 5 11 false rfl rfl rfl (List.Mem.head _) (op_fieldAddr _ _ _ _ 2 0 _ Tryd.underlying26 rfl sz9 rfl rfl (by decide)),
      st_run 5 11 false rfl rfl rfl (List.Mem.head _) (op_load _ _ _ _ _ _ Tryd.underlying9 rfl rfl rfl (Nat.le_of_ble_eq_true rfl) rfl rfl rfl),
      st_run 5 11 false rfl rfl rfl (List.Mem.head _) (op_fieldAddr _ _ _ _ 3 0 _ Tryd.underlying26 rfl sz9 rfl rfl (by decide)),
      st_run 5 11 false rfl rfl rfl (List.Mem.head _) (op_load _ _ _ _ _ _ Tryd.underlying9 rfl rfl rfl (Nat.le_of_ble_eq_true rfl) rfl rfl rfl),
      st_run 5 11 false rfl rfl rfl (List.Mem.head _) (op_bin _ _ _ _ _ rfl rfl rfl),
      st_plain rfl (op_pick _ _ false _ rfl rfl),
      st_plain rfl (op_move _ _ _ _ (congrArg (fun b => AV.v (Value.bool b)) hg1_12) rfl),
      st_skip 12 18 _ false rfl rfl rfl rfl (List.Mem.head _),
      st_skip 12 18 _ false rfl rfl rfl rfl (List.Mem.head _),
      st_skip 12 18 _ false rfl rfl rfl rfl (List.Mem.head _),
      st_skip 12 18 _ false rfl rfl rfl rfl (List.Mem.head _),
      st_skip 12 18 _ false rfl rfl rfl rfl (List.Mem.head _),
      st_skip 12 18 _ false rfl rfl rfl rfl (List.Mem.head _),
      st_plain rfl (op_pick _ _ true _ rfl rfl),
      st_plain rfl (op_move _ _ _ _ rfl rfl),
      st_skip 20 26 _ false rfl rfl rfl rfl (List.Mem.head _),
      st_skip 20 26 _ false rfl rfl rfl rfl (List.Mem.head _),
      st_skip 20 26 _ false rfl rfl rfl rfl (List.Mem.head _),
      st_skip 20 26 _ false rfl rfl rfl rfl (List.Mem.head _),
      st_skip 20 26 _ false rfl rfl rfl rfl (List.Mem.head _),
      st_skip 20 26 _ false rfl rfl rfl rfl (List.Mem.head _),
      st_skip 20 26 _ false rfl rfl rfl rfl (List.Mem.head _),
      st_plain rfl (op_pick _ _ true _ rfl rfl),
      trivial⟩ ?_
     exact hl4 _ (Option.some.inj h).symm
    ·obtain ⟨v1, hv1, h⟩ := bind_some h
     refine cond_some h (fun hg1_20 h => ?_) (fun hg1_20 h => ?_)
     ·refine ht_seqR hn (El := (_ :: _ :: (6, .ptr 2 0) :: (7, .v (.int .i64 a.Kind)) :: (8, .ptr 3 0) :: (9, .v (.int .i64 b.Kind)) :: (10, .v (.bool (a.Kind != b.Kind))) :: (11, .v (.bool false)) :: (12, .ptr 2 1) :: (13, .v (.string a.Text)) :: (14, .ptr 3 1) :: (15, .v (.string b.Text)) :: (16, .v (.bool ((!(a.Text.toList == b.Text.toList))))) :: (17, .v (.bool ((!(a.Text.toList == b.Text.toList))))) :: (18, .v (.bool false)) :: (19, .ptr 2 2) :: (20, .agg [.v (.bool a.Path.Null), .v (.string a.Path.Local), .v (.string a.Path.Domain)]) :: (21, .ptr 3 2) :: (22, .agg [.v (.bool b.Path.Null), .v (.string b.Path.Local), .v (.string b.Path.Domain)]) :: (23, .v (.bool v1)) :: (24, .v (.bool (!v1))) :: (25, .v (.bool (!v1))) :: (26, .v (.bool true)) :: (27, .v undef) :: (28, .v undef) :: (29, .v undef) :: (30, .v undef) :: (31, .v undef) :: (32, .v undef) :: (33, .v undef) :: (34, .v (.bool true)) :: [])) (init := [0, 1]) (fin := [0, 1, 30]) (sps := (⟨[0], [], [2], [(.slot 6)]⟩ :: ⟨[2, 0], [], [3], [(.slot 7)]⟩ :: ⟨[1], [], [4], [(.slot 8)]⟩ :: ⟨[4, 1], [], [5], [(.slot 9)]⟩ :: ⟨[3, 5], [], [6], [(.slot 10)]⟩ :: ⟨[6], [], [7], [(.slot 11)]⟩ :: ⟨[7, 0], [], [8], [(.slot 12)]⟩ :: ⟨[7, 8, 0], [], [9], [(.slot 13)]⟩ :: ⟨[7, 1], [], [10], [(.slot 14)]⟩ :: ⟨[7, 10, 1], [], [11], [(.slot 15)]⟩ :: ⟨[7, 9, 11], [], [12], [(.slot 16)]⟩ :: ⟨[7, 12], [], [13], [(.slot 17)]⟩ :: ⟨[13], [], [14], [(.slot 18)]⟩ :: ⟨[14, 0], [], [15], [(.slot 19)]⟩ :: ⟨[14, 15, 0], [], [16], [(.slot 20)]⟩ :: ⟨[14, 1], [], [17], [(.slot 21)]⟩ :: ⟨[14, 17, 1], [], [18], [(.slot 22)]⟩ :: ⟨[14, 16, 18], [], [19], [(.slot 23)]⟩ :: ⟨[14, 19], [], [20], [(.slot 24)]⟩ :: ⟨[14, 20], [], [21], [(.slot 25)]⟩ :: ⟨[21], [], [22], [(.slot 26)]⟩ :: ⟨[22], [], [23], [(.slot 27)]⟩ :: ⟨[22], [], [24], [(.slot 28)]⟩ :: ⟨[22], [], [25], [(.slot 29)]⟩ :: ⟨[22], [], [26], [(.slot 30)]⟩ :: ⟨[22], [], [27], [(.slot 31)]⟩ :: ⟨[22], [], [28], [(.slot 32)]⟩ :: ⟨[22], [], [29], [(.slot 33)]⟩ :: ⟨[22], [], [30], [(.slot 34)]⟩ :: [])) (es' := [(_, _), (_, _), (34, .v (.bool true))]) (by kernel_rfl) rfl rfl
       ⟨st_plain rfl (op_fieldAddr _ _ _ _ 2 0 _ Tryd.underlying26 rfl sz3 rfl rfl (by decide)),
       st_plain rfl (op_load _ _ _ _ _ _ Tryd.underlying3 rfl rfl rfl (Nat.le_of_ble_eq_true rfl) rfl rfl rfl),
       st_plain rfl (op_fieldAddr _ _ _ _ 3 0 _ Tryd.underlying26 rfl sz3 rfl rfl (by decide)),
       st_plain rfl (op_load _ _ _ _ _ _ Tryd.underlying3 rfl rfl rfl (Nat.le_of_ble_eq_true rfl) rfl rfl rfl),
       st_plain rfl (op_bin _ _ _ _ _ rfl rfl rfl),
       st_plain rfl (op_move _ _ _ _ (congrArg (fun b => AV.v (Value.bool b)) hg1_5) rfl),
       st_run 5 11 false rfl rfl rfl (List.Mem.head _) (op_fieldAddr _ _ _ _ 2 0 _ Tryd.underlying26 rfl sz9 rfl rfl (by decide)),
       st_run 5 11 false rfl rfl rfl (List.Mem.head _) (op_load _ _ _ _ _ _ Tryd.underlying9 rfl rfl rfl (Nat.le_of_ble_eq_true rfl) rfl rfl rfl),
       st_run 5 11 false rfl rfl rfl (List.Mem.head _) (op_fieldAddr _ _ _ _ 3 0 _ Tryd.underlying26 rfl sz9 rfl rfl (by decide)),
       st_run 5 11 false rfl rfl rfl (List.Mem.head _) (op_load _ _ _ _ _ _ Tryd.underlying9 rfl rfl rfl (Nat.le_of_ble_eq_true rfl) rfl rfl rfl),
       st_run 5 11 false rfl rfl rfl (List.Mem.head _) (op_bin _ _ _ _ _ rfl rfl rfl),
       st_plain rfl (op_pick _ _ false _ rfl rfl),
       st_plain rfl (op_move _ _ _ _ (congrArg (fun b => AV.v (Value.bool b)) hg1_12) rfl),
       st_run 12 18 false rfl rfl rfl (List.Mem.head _) (op_fieldAddr _ _ _ _ 2 0 _ Tryd.underlying26 rfl sz23 rfl rfl (by decide)),
       st_run 12 18 false rfl rfl rfl (List.Mem.head _) (op_loadA _ _ _ _ _ _ _ Tryd.underlying23 rfl sz23 rfl rfl (Nat.le_of_ble_eq_true rfl) rfl rfl),
       st_run 12 18 false rfl rfl rfl (List.Mem.head _) (op_fieldAddr _ _ _ _ 3 0 _ Tryd.underlying26 rfl sz23 rfl rfl (by decide)),
       st_run 12 18 false rfl rfl rfl (List.Mem.head _) (op_loadA _ _ _ _ _ _ _ Tryd.underlying23 rfl sz23 rfl rfl (Nat.le_of_ble_eq_true rfl) rfl rfl),
       st_run 12 18 false rfl rfl rfl (List.Mem.head _) (op_call _ _ 20 _ _ rfl Tryd.call20 rfl (ok_wherrykeep_Path (T_Path.mk a.Path.Null a.Path.Local a.Path.Domain) (T_Path.mk b.Path.Null b.Path.Local b.Path.Domain) _ hv1) rfl rfl),
       st_run 12 18 false rfl rfl rfl (List.Mem.head _) (op_un _ _ _ _ rfl rfl),
       st_plain rfl (op_pick _ _ false _ rfl rfl),
       st_plain rfl (op_move _ _ _ _ (congrArg (fun b => AV.v (Value.bool b)) hg1_20) rfl),
       st_skip 20 26 _ false rfl rfl rfl rfl (List.Mem.head _),
       st_skip 20 26 _ false rfl rfl rfl rfl (List.Mem.head _),
       st_skip 20 26 _ false rfl rfl rfl rfl (List.Mem.head _),
       st_skip 20 26 _ false rfl rfl rfl rfl (List.Mem.head _),
       st_skip 20 26 _ false rfl rfl rfl rfl (List.Mem.head _),
       st_skip 20 26 _ false rfl rfl rfl rfl (List.Mem.head _),
       st_skip 20 26 _ false rfl rfl rfl rfl (List.Mem.head _),
       st_plain rfl (op_pick _ _ true _ rfl rfl),
       trivial⟩ ?_
      exact hl4 _ (Option.some.inj h).symm
     ·refine ht_seqR hn (El := (_ :: _ :: (6, .ptr 2 0) :: (7, .v (.int .i64 a.Kind)) :: (8, .ptr 3 0) :: (9, .v (.int .i64 b.Kind)) :: (10, .v (.bool (a.Kind != b.Kind))) :: (11, .v (.bool false)) :: (12, .ptr 2 1) :: (13, .v (.string a.Text)) :: (14, .ptr 3 1) :: (15, .v (.string b.Text)) :: (16, .v (.bool ((!(a.Text.toList == b.Text.toList))))) :: (17, .v (.bool ((!(a.Text.toList == b.Text.toList))))) :: (18, .v (.bool false)) :: (19, .ptr 2 2) :: (20, .agg [.v (.bool a.Path.Null), .v (.string a.Path.Local), .v (.string a.Path.Domain)]) :: (21, .ptr 3 2) :: (22, .agg [.v (.bool b.Path.Null), .v (.string b.Path.Local), .v (.string b.Path.Domain)]) :: (23, .v (.bool v1)) :: (24, .v (.bool (!v1))) :: (25, .v (.bool (!v1))) :: (26, .v (.bool false)) :: (27, .ptr 2 5) :: (28, .fl .shr 2 (List.flatten (List.map T_Param.enc a.Params))) :: (29, .v (.int .i64 (a.Params.length : Int))) :: (30, .ptr 3 5) :: (31, .fl .shr 2 (List.flatten (List.map T_Param.enc b.Params))) :: (32, .v (.int .i64 (b.Params.length : Int))) :: (33, .v (.bool (((a.Params.length : Int) != (b.Params.length : Int))))) :: (34, .v (.bool (((a.Params.length : Int) != (b.Params.length : Int))))) :: [])) (init := [0, 1]) (fin := [0, 1, 30]) (sps := (⟨[0], [], [2], [(.slot 6)]⟩ :: ⟨[2, 0], [], [3], [(.slot 7)]⟩ :: ⟨[1], [], [4], [(.slot 8)]⟩ :: ⟨[4, 1], [], [5], [(.slot 9)]⟩ :: ⟨[3, 5], [], [6], [(.slot 10)]⟩ :: ⟨[6], [], [7], [(.slot 11)]⟩ :: ⟨[7, 0], [], [8], [(.slot 12)]⟩ :: ⟨[7, 8, 0], [], [9], [(.slot 13)]⟩ :: ⟨[7, 1], [], [10], [(.slot 14)]⟩ :: ⟨[7, 10, 1], [], [11], [(.slot 15)]⟩ :: ⟨[7, 9, 11], [], [12], [(.slot 16)]⟩ :: ⟨[7, 12], [], [13], [(.slot 17)]⟩ :: ⟨[13], [], [14], [(.slot 18)]⟩ :: ⟨[14, 0], [], [15], [(.slot 19)]⟩ :: ⟨[14, 15, 0], [], [16], [(.slot 20)]⟩ :: ⟨[14, 1], [], [17], [(.slot 21)]⟩ :: ⟨[14, 17, 1], [], [18], [(.slot 22)]⟩ :: ⟨[14, 16, 18], [], [19], [(.slot 23)]⟩ :: ⟨[14, 19], [], [20], [(.slot 24)]⟩ :: ⟨[14, 20], [], [21], [(.slot 25)]⟩ :: ⟨[21], [], [22], [(.slot 26)]⟩ :: ⟨[22, 0], [], [23], [(.slot 27)]⟩ :: ⟨[22, 23, 0], [], [24], [(.slot 28)]⟩ :: ⟨[22, 24], [], [25], [(.slot 29)]⟩ :: ⟨[22, 1], [], [26], [(.slot 30)]⟩ :: ⟨[22, 26, 1], [], [27], [(.slot 31)]⟩ :: ⟨[22, 27], [], [28], [(.slot 32)]⟩ :: ⟨[22, 25, 28], [], [29], [(.slot 33)]⟩ :: ⟨[22, 29], [], [30], [(.slot 34)]⟩ :: [])) (es' := [(_, _), (_, _), (34, .v (.bool (((a.Params.length : Int) != (b.Params.length : Int)))))]) (by kernel_rfl) rfl rfl
       ⟨st_plain rfl (op_fieldAddr _ _ _ _ 2 0 _ Tryd.underlying26 rfl sz3 rfl rfl (by decide)),
       st_plain rfl (op_load _ _ _ _ _ _ Tryd.underlying3 rfl rfl rfl (Nat.le_of_ble_eq_true rfl) rfl rfl rfl),
       st_plain rfl (op_fieldAddr _ _ _ _ 3 0 _ Tryd.underlying26 rfl sz3 rfl rfl (by decide)),
       st_plain rfl (op_load _ _ _ _ _ _ Tryd.underlying3 rfl rfl rfl (Nat.le_of_ble_eq_true rfl) rfl rfl rfl),
       st_plain rfl (op_bin _ _ _ _ _ rfl rfl rfl),
       st_plain rfl (op_move _ _ _ _ (congrArg (fun b => AV.v (Value.bool b)) hg1_5) rfl),
       st_run 5 11 false rfl rfl rfl (List.Mem.head _) (op_fieldAddr _ _ _ _ 2 0 _ Tryd.underlying26 rfl sz9 rfl rfl (by decide)),
       st_run 5 11 false rfl rfl rfl (List.Mem.head _) (op_load _ _ _ _ _ _ Tryd.underlying9 rfl rfl rfl (Nat.le_of_ble_eq_true rfl) rfl rfl rfl),
       st_run 5 11 false rfl rfl rfl (List.Mem.head _) (op_fieldAddr _ _ _ _ 3 0 _ Tryd.underlying26 rfl sz9 rfl rfl (by decide)),
       st_run 5 11 false rfl rfl rfl (List.Mem.head _) (op_load _ _ _ _ _ _ Tryd.underlying9 rfl rfl rfl (Nat.le_of_ble_eq_true rfl) rfl rfl rfl),
       st_run 5 11 false rfl rfl rfl (List.Mem.head _) (op_bin _ _ _ _ _ rfl rfl rfl),
       st_plain rfl (op_pick _ _ false _ rfl rfl),
       st_plain rfl (op_move _ _ _ _ (congrArg (fun b => AV.v (Value.bool b)) hg1_12) rfl),
       st_run 12 18 false rfl rfl rfl (List.Mem.head _) (op_fieldAddr _ _ _ _ 2 0 _ Tryd.underlying26 rfl sz23 rfl rfl (by decide)),
       st_run 12 18 false rfl rfl rfl (List.Mem.head _) (op_loadA _ _ _ _ _ _ _ Tryd.underlying23 rfl sz23 rfl rfl (Nat.le_of_ble_eq_true rfl) rfl rfl),
       st_run 12 18 false rfl rfl rfl (List.Mem.head _) (op_fieldAddr _ _ _ _ 3 0 _ Tryd.underlying26 rfl sz23 rfl rfl (by decide)),
       st_run 12 18 false rfl rfl rfl (List.Mem.head _) (op_loadA _ _ _ _ _ _ _ Tryd.underlying23 rfl sz23 rfl rfl (Nat.le_of_ble_eq_true rfl) rfl rfl),
       st_run 12 18 false rfl rfl rfl (List.Mem.head _) (op_call _ _ 20 _ _ rfl Tryd.call20 rfl (ok_wherrykeep_Path (T_Path.mk a.Path.Null a.Path.Local a.Path.Domain) (T_Path.mk b.Path.Null b.Path.Local b.Path.Domain) _ hv1) rfl rfl),
       st_run 12 18 false rfl rfl rfl (List.Mem.head _) (op_un _ _ _ _ rfl rfl),
       st_plain rfl (op_pick _ _ false _ rfl rfl),
       st_plain rfl (op_move _ _ _ _ (congrArg (fun b => AV.v (Value.bool b)) hg1_20) rfl),
       st_run 20 26 false rfl rfl rfl (List.Mem.head _) (op_fieldAddr _ _ _ _ 2 0 _ Tryd.underlying26 rfl sz24 rfl rfl (by decide)),
       st_run 20 26 false rfl rfl rfl (List.Mem.head _) (op_load _ _ _ _ _ _ Tryd.underlying24 rfl rfl rfl (Nat.le_of_ble_eq_true rfl) rfl rfl rfl),
       st_run 20 26 false rfl rfl rfl (List.Mem.head _) (op_len_fl _ _ _ Tryd.underlying24 rfl (by decide) (flat_len T_Param.len _)),
       st_run 20 26 false rfl rfl rfl (List.Mem.head _) (op_fieldAddr _ _ _ _ 3 0 _ Tryd.underlying26 rfl sz24 rfl rfl (by decide)),
       st_run 20 26 false rfl rfl rfl (List.Mem.head _) (op_load _ _ _ _ _ _ Tryd.underlying24 rfl rfl rfl (Nat.le_of_ble_eq_true rfl) rfl rfl rfl),
       st_run 20 26 false rfl rfl rfl (List.Mem.head _) (op_len_fl _ _ _ Tryd.underlying24 rfl (by decide) (flat_len T_Param.len _)),
       st_run 20 26 false rfl rfl rfl (List.Mem.head _) (op_bin _ _ _ _ _ rfl rfl rfl),
       st_plain rfl (op_pick _ _ false _ rfl rfl),
       trivial⟩ ?_
      exact hl4 _ (Option.some.inj h).symm

set_option maxHeartbeats 1000000 in
theorem ok_verb_Param (c : T_Cmd) (key : ByteArray) (r : (ByteArray × Bool)) (h : Sh.verb_Param c key = some r) : FnOK Tryd.prog 21 [.agg [.v (.int .i64 c.Kind), .v (.string c.Text), .v (.bool c.Path.Null), .v (.string c.Path.Local), .v (.string c.Path.Domain), .fl .shr 2 (List.flatten (List.map T_Param.enc c.Params))], .v (.string key)] (.tup [.v (.string r.1), .v (.bool r.2)]) := by
  unfold Sh.verb_Param at h
  refine fn_ok Tryd.func21 rfl (Nat.le_of_ble_eq_true rfl) rfl rfl fun g0 hn hio => ?_
  refine ht_seq ?_
  refine ht_seqR hn (El := [_, _, (2, .box 26 [.v (.int .i64 c.Kind), .v (.string c.Text), .v (.bool c.Path.Null), .v (.string c.Path.Local), .v (.string c.Path.Domain), .fl .shr 2 (List.flatten (List.map T_Param.enc c.Params))]), (4, .v (.string (⟨#[]⟩ : ByteArray))), (5, .v (.bool false))]) (init := [0, 1]) (fin := [1, 2]) (sps := [⟨[0], [], [2], [(.slot 2)]⟩, ⟨[], [], [3], [(.slot 4)]⟩, ⟨[], [], [4], [(.slot 5)]⟩]) (es' := [(_, _), (2, .box 26 [.v (.int .i64 c.Kind), .v (.string c.Text), .v (.bool c.Path.Null), .v (.string c.Path.Local), .v (.string c.Path.Domain), .fl .shr 2 (List.flatten (List.map T_Param.enc c.Params))])]) (by kernel_rfl) rfl rfl
   ⟨st_plain rfl (op_box _ _ _ _ rfl rfl rfl),
   st_plain rfl (op_assign _ _ _ _ rfl rfl),
   st_plain rfl (op_assign _ _ _ _ rfl rfl),
   trivial⟩ ?_
  refine pt_then ?_
  refine ht_seq ?_
  refine ht_seq ?_
  refine ht_seqR hn (El := [_, _, (8, .ptr 2 5), (9, .fl .shr 2 (List.flatten (List.map T_Param.enc c.Params))), (10, .v (.int .i64 (c.Params.length : Int))), (11, .v (.int .i64 0))]) (init := [0, 1]) (fin := [0, 3, 4, 5]) (sps := [⟨[1], [], [2], [(.slot 8)]⟩, ⟨[2, 1], [], [3], [(.slot 9)]⟩, ⟨[3], [], [4], [(.slot 10)]⟩, ⟨[], [], [5], [(.slot 11)]⟩]) (es' := [(_, _), (9, .fl .shr 2 (List.flatten (List.map T_Param.enc c.Params))), (10, .v (.int .i64 (c.Params.length : Int))), (11, .v (.int .i64 0))]) (by kernel_rfl) rfl rfl
   ⟨st_plain rfl (op_fieldAddr _ _ _ _ 2 0 _ Tryd.underlying26 rfl sz24 rfl rfl (by decide)),
   st_plain rfl (op_load _ _ _ _ _ _ Tryd.underlying24 rfl rfl rfl (Nat.le_of_ble_eq_true rfl) rfl rfl rfl),
   st_plain rfl (op_len_fl _ _ _ Tryd.underlying24 rfl (by decide) (flat_len T_Param.len _)),
   st_plain rfl (op_move _ _ _ _ rfl rfl),
   trivial⟩ ?_
  refine pt_then ?_
  refine ht_loopS h (fun (s9 : Int) => [(1, .v (.string key)), (9, .fl .shr 2 (List.flatten (List.map T_Param.enc c.Params))), (10, .v (.int .i64 (c.Params.length : Int))), (11, .v (.int .i64 s9))]) (fun (() : Unit) => []) ?_ ?_
  ·rintro ⟨⟩ h
   refine pt_then ?_
   refine ht_seq ?_
   refine ht_seqR hn (El := [(4, .v (.string (⟨#[]⟩ : ByteArray))), (5, .v (.bool false))]) (init := []) (fin := [0, 1]) (sps := [⟨[], [], [0], [(.slot 4)]⟩, ⟨[], [], [1], [(.slot 5)]⟩]) (es' := [(4, .v (.string (⟨#[]⟩ : ByteArray))), (5, .v (.bool false))]) (by kernel_rfl) rfl rfl
    ⟨st_plain rfl (op_assign _ _ _ _ rfl rfl),
    st_plain rfl (op_assign _ _ _ _ rfl rfl),
    trivial⟩ ?_
   refine pt_then ?_
   refine ht_ret ?_
   obtain rfl := Option.some.inj h
   exact pt_ret hio rfl (.tmp _ _ (.tmp _ _ .nil)) rfl rfl
  ·rintro u12 hl13 hr14 s9 rr17 h ho15
   refine ht_seq ?_
   refine ht_seqR hn (El := [_, _, _, _, (12, .v (.bool ((decide (s9 < (c.Params.length : Int))))))]) (init := [0, 1, 2, 3]) (fin := [0, 1, 2, 3, 4]) (sps := [⟨[3, 2], [], [4], [(.slot 12)]⟩]) (es' := [(_, _), (_, _), (_, _), (_, _), (12, .v (.bool ((decide (s9 < (c.Params.length : Int))))))]) (by kernel_rfl) rfl rfl
    ⟨st_plain rfl (op_bin _ _ _ _ _ rfl rfl rfl),
    trivial⟩ ?_
   refine pt_then ?_
   refine ht_seq ?_
   refine ht_cond _ rfl (fun hb18 => ?_) (fun hb18 => ?_)
   ·have h := cond_t hb18 h
    refine ht_skip ?_
    refine pt_then ?_
    refine ht_seq ?_
    refine ht_block ?_
    refine ht_seq ?_
    obtain ⟨v2, hv2, h⟩ := bind_some h
    obtain ⟨v3, hv3, h⟩ := bind_some h
    refine ht_seqR hn (El := [_, _, _, _, _, (13, .eref (.slot 9) (v2 * 2)), (14, .agg [.v (.string v3.Key), .v (.string v3.Val)]), (7, .box 46 [.v (.string (⟨#[]⟩ : ByteArray)), .v (.string (⟨#[]⟩ : ByteArray))]), (7, .box 46 [.v (.string v3.Key), .v (.string v3.Val)])]) (init := [0, 1, 2, 3, 4]) (fin := [0, 1, 2, 3, 8]) (sps := [⟨[1, 3], [], [5], [(.slot 13)]⟩, ⟨[5, 1], [], [6], [(.slot 14)]⟩, ⟨[], [], [7], [(.slot 7)]⟩, ⟨[6], [7], [8], [.cell 7 0, .cell 7 1]⟩]) (es' := [(_, _), (_, _), (_, _), (_, _), (7, .box 46 [.v (.string v3.Key), .v (.string v3.Val)])]) (by kernel_rfl) rfl rfl
     ⟨st_plain rfl (op_ix _ _ _ _ _ _ _ _ Tryd.underlying24 sz46 (by decide) rfl rfl rfl (ix_ok hv2).1 (flat_lt T_Param.len (ix_ok hv2).2) rfl),
     st_plain rfl (op_load_eA _ _ _ _ _ _ _ Tryd.underlying46 rfl sz46 rfl rfl (flat_get T_Param.len hv3) rfl (by decide)),
     st_plain rfl (op_alloc _ _ zr46),
     st_plain rfl (op_store _ _ _ _ _ _ _ _ sz46 rfl rfl rfl rfl (Nat.le_of_ble_eq_true rfl) rfl rfl),
     trivial⟩ ?_
    refine pt_then ?_
    refine ht_seq ?_
    refine ht_seqR hn (El := [_, _, _, _, _, (15, .ptr 7 0), (16, .v (.string v3.Key)), (17, .v (.string key)), (18, .v (.bool (v3.Key.toList == key.toList)))]) (init := [0, 1, 2, 3, 4]) (fin := [0, 1, 2, 3, 4, 8]) (sps := [⟨[4], [], [5], [(.slot 15)]⟩, ⟨[5, 4], [], [6], [(.slot 16)]⟩, ⟨[0], [], [7], [(.slot 17)]⟩, ⟨[6, 7], [], [8], [(.slot 18)]⟩]) (es' := [(_, _), (_, _), (_, _), (_, _), (_, _), (18, .v (.bool (v3.Key.toList == key.toList)))]) (by kernel_rfl) rfl rfl
     ⟨st_plain rfl (op_fieldAddr _ _ _ _ 7 0 _ Tryd.underlying46 rfl sz9 rfl rfl (by decide)),
     st_plain rfl (op_load _ _ _ _ _ _ Tryd.underlying9 rfl rfl rfl (Nat.le_of_ble_eq_true rfl) rfl rfl rfl),
     st_plain rfl (op_move _ _ _ _ rfl rfl),
     st_plain rfl (op_bin _ _ _ _ _ rfl rfl rfl),
     trivial⟩ ?_
    refine pt_then ?_
    refine ht_cond _ rfl (fun hb19 => ?_) (fun hb19 => ?_)
    ·have h := cond_t hb19 h
     refine ht_seq ?_
     refine ht_seqR hn (El := [_, _, _, _, _, _, (19, .ptr 7 1), (20, .v (.string v3.Val)), (4, .v (.string v3.Val)), (5, .v (.bool true))]) (init := [0, 1, 2, 3, 4, 5]) (fin := [8, 9]) (sps := [⟨[4], [], [6], [(.slot 19)]⟩, ⟨[6, 4], [], [7], [(.slot 20)]⟩, ⟨[7], [], [8], [(.slot 4)]⟩, ⟨[], [], [9], [(.slot 5)]⟩]) (es' := [(4, .v (.string v3.Val)), (5, .v (.bool true))]) (by kernel_rfl) rfl rfl
      ⟨st_plain rfl (op_fieldAddr _ _ _ _ 7 0 _ Tryd.underlying46 rfl sz9 rfl rfl (by decide)),
      st_plain rfl (op_load _ _ _ _ _ _ Tryd.underlying9 rfl rfl rfl (Nat.le_of_ble_eq_true rfl) rfl rfl rfl),
      st_plain rfl (op_assign _ _ _ _ rfl rfl),
      st_plain rfl (op_assign _ _ _ _ rfl rfl),
      trivial⟩ ?_
     refine pt_then ?_
     refine ht_ret ?_
     refine pt_r_in ?_
     refine pt_r_then ?_
     refine pt_r_then ?_
     refine pt_r_in ?_
     refine pt_r_then ?_
     have h := hr14 _ (ho15 _ (Option.some.inj h).symm).symm
     obtain rfl := Option.some.inj h
     exact pt_ret hio rfl (.tmp _ _ (.tmp _ _ .nil)) rfl rfl
    ·have h := cond_f hb19 h
     refine ht_skip ?_
     refine pt_inb ?_
     refine pt_then ?_
     obtain ⟨v5, hv5, h⟩ := bind_some h
     refine ht_seqR hn (El := [_, _, _, _, _, _, (21, .v (.int .i64 v5)), (11, .v (.int .i64 v5))]) (init := [0, 1, 2, 3, 4, 5]) (fin := [0, 1, 2, 7]) (sps := [⟨[3], [], [6], [(.slot 21)]⟩, ⟨[6], [3], [7], [(.slot 11)]⟩]) (es' := [(_, _), (_, _), (_, _), (11, .v (.int .i64 v5))]) (by kernel_rfl) rfl rfl
      ⟨st_plain rfl (op_bin _ _ _ _ _ rfl rfl (ibind (f := Value.int .i64) (Option.some.inj hv5))),
      st_plain rfl (LOp.drop [_] (op_move _ _ _ _ rfl rfl)),
      trivial⟩ ?_
     exact pt_next _ (Option.some.inj h).symm rfl
   ·have h := cond_f hb18 h
    refine ht_exit ?_
    refine pt_x_then ?_
    refine pt_x_then ?_
    refine pt_x_in ?_
    refine pt_pick [] (by kernel_rfl) (es' := []) rfl ?_
    exact hl13 _ (ho15 _ (Option.some.inj h).symm).symm

end Go.Proofs.YthfmdofkkkpbkaaDoor
