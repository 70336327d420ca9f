/-
  The model's runs are what is told in Lean.
-/
import Derived.Test.YthfmdofkkkpbkaaDoorProg
import Derived.KernelRfl
import Derived.Test.YthfmdofkkkpbkaaDoorShelf
import Derived.Test.YthfmdofkkkpbkaaDoorOkc2
set_option linter.unusedVariables false
set_option linter.unusedSimpArgs false
namespace Go.Proofs.YthfmdofkkkpbkaaDoor
open Go.Abs Go.Abs.Sh
set_option maxHeartbeats 1000000 in
theorem ok_verb_Parse (mx : Int) (line : ByteArray) (r : (T_Cmd × Int)) (h : Sh.verb_Parse line = some r) : FnG Tryd.prog (GL mx) 10 [.v (.string line)] (.tup [.agg [.v (.int .i64 r.1.Kind), .v (.string r.1.Text), .v (.bool r.1.Path.Null), .v (.string r.1.Path.Local), .v (.string r.1.Path.Domain), .fl .ro 2 (List.flatten (List.map T_Param.enc r.1.Params))], .v (.int .i64 r.2)]) := by
  unfold Sh.verb_Parse at h
  refine fn_okG Tryd.func10 rfl (Nat.le_of_ble_eq_true rfl) rfl rfl fun g0 hn hio => ?_
  refine ht_seq ?_
  refine ht_seqR hn (El := [_, _, (2, .box 26 [.v (.int .i64 0), .v (.string (⟨#[]⟩ : ByteArray)), .v (.bool false), .v (.string (⟨#[]⟩ : ByteArray)), .v (.string (⟨#[]⟩ : ByteArray)), .v (.slice none 0 0)]), (3, .v (.int .i64 0))]) (init := [0, 1]) (fin := [0, 1, 2]) (sps := [⟨[], [], [2], [(.slot 2)]⟩, ⟨[], [], [3], [(.slot 3)]⟩]) (es' := [(_, _), (_, _), (2, .box 26 [.v (.int .i64 0), .v (.string (⟨#[]⟩ : ByteArray)), .v (.bool false), .v (.string (⟨#[]⟩ : ByteArray)), .v (.string (⟨#[]⟩ : ByteArray)), .v (.slice none 0 0)])]) (by kernel_rfl) rfl rfl
   ⟨st_plain rfl (op_alloc _ _ zr26),
   st_plain rfl (op_assign _ _ _ _ rfl rfl),
   trivial⟩ ?_
  refine pt_then ?_
  refine ht_seq ?_
  refine ht_seq ?_
  refine ht_joinS h (fun (s12 : Bool) => [(0, .v (.string line)), (32, .glob (GL mx)), (2, .box 26 [.v (.int .i64 0), .v (.string (⟨#[]⟩ : ByteArray)), .v (.bool false), .v (.string (⟨#[]⟩ : ByteArray)), .v (.string (⟨#[]⟩ : ByteArray)), .v (.slice none 0 0)]), (18, .v (.bool s12))]) ?_ ?_
  ·rintro s12 h
   refine pt_then ?_
   refine ht_cond _ rfl (fun hb16 => ?_) (fun hb16 => ?_)
   ·have h := cond_t hb16 h
    refine ht_seq ?_
    refine ht_seqR hn (El := [_, _, _, _, (19, .agg [.v (.int .i64 0), .v (.string (⟨#[]⟩ : ByteArray)), .v (.bool false), .v (.string (⟨#[]⟩ : ByteArray)), .v (.string (⟨#[]⟩ : ByteArray)), .v (.slice none 0 0)]), (2, .box 26 [.v (.int .i64 0), .v (.string (⟨#[]⟩ : ByteArray)), .v (.bool false), .v (.string (⟨#[]⟩ : ByteArray)), .v (.string (⟨#[]⟩ : ByteArray)), .v (.slice none 0 0)]), (3, .v (.int .i64 500))]) (init := [0, 1, 2, 3]) (fin := [1, 5, 6]) (sps := [⟨[], [], [4], [(.slot 19)]⟩, ⟨[], [4, 2], [5], [.cell 2 0, .cell 2 1, .cell 2 2, .cell 2 3, .cell 2 4, .cell 2 5]⟩, ⟨[], [], [6], [(.slot 3)]⟩]) (es' := [(_, _), (2, .box 26 [.v (.int .i64 0), .v (.string (⟨#[]⟩ : ByteArray)), .v (.bool false), .v (.string (⟨#[]⟩ : ByteArray)), .v (.string (⟨#[]⟩ : ByteArray)), .v (.slice none 0 0)]), (3, .v (.int .i64 500))]) (by kernel_rfl) rfl rfl
     ⟨st_plain rfl (op_build _ _ _ _ [1, 1, 3, 1] _ _ Tryd.underlying26 zr26 (fs26 _ Tryd.underlying26) Src.nil rfl rfl rfl),
     st_plain rfl (op_store_self _ _ _ 19 2 6 sz26 rfl rfl rfl rfl rfl (.eq _ (.eq _ (.eq _ (.eq _ (.eq _ (.eq _ (.nil _))))))) rfl),
     st_plain rfl (op_assign _ _ _ _ rfl rfl),
     trivial⟩ ?_
    refine pt_then ?_
    refine ht_ret ?_
    refine pt_pick [1, 2] (by kernel_rfl) (es' := [(_, _), (_, _)]) rfl ?_
    refine pt_sub (fs := [(2, .box 26 [.v (.int .i64 0), .v (.string (⟨#[]⟩ : ByteArray)), .v (.bool false), .v (.string (⟨#[]⟩ : ByteArray)), .v (.string (⟨#[]⟩ : ByteArray)), .fl (.own 46) 2 (List.flatten (List.map T_Param.enc []))]), (3, .v (.int .i64 500))]) (.box _ _ (subs_cons (sub_refl _) (subs_cons (sub_refl _) (subs_cons (sub_refl _) (subs_cons (sub_refl _) (subs_cons (sub_refl _) (subs_cons (sub_nil 46 2) (subs_nil))))))) rfl (.same _ .nil)) ?_
    refine pt_frz 0 hio (es' := [(2, .box 26 [.v (.int .i64 0), .v (.string (⟨#[]⟩ : ByteArray)), .v (.bool false), .v (.string (⟨#[]⟩ : ByteArray)), .v (.string (⟨#[]⟩ : ByteArray)), .fl .ro 2 (List.flatten (List.map T_Param.enc []))]), (3, .v (.int .i64 500))]) rfl ?_
    refine pt_r_then ?_
    obtain rfl := Option.some.inj h
    exact pt_ret hio rfl (.cellA _ _ _ _ Tryd.underlying26 rfl sz26 (.tmp _ _ .nil)) rfl rfl
   ·have h := cond_f hb16 h
    refine ht_skip ?_
    refine pt_then ?_
    refine ht_seq ?_
    refine ht_seq ?_
    obtain ⟨v8, hv8, h⟩ := bind_some h
    refine ht_seqR hn (El := [_, _, _, _, (20, .v (.string line)), (21, .v (.bool v8))]) (init := [0, 1, 2, 3]) (fin := [0, 1, 2, 5]) (sps := [⟨[0], [], [4], [(.slot 20)]⟩, ⟨[4, 1], [], [5], [(.slot 21)]⟩]) (es' := [(_, _), (_, _), (_, _), (21, .v (.bool v8))]) (by kernel_rfl) rfl rfl
     ⟨st_plain rfl (op_move _ _ _ _ rfl rfl),
     st_plain rfl (op_callG _ _ 32 18 _ _ rfl Tryd.call18 rfl rfl (fun _ h => h) (ok_verb_otherMechanism mx line _ hv8) rfl rfl),
     trivial⟩ ?_
    refine pt_then ?_
    refine ht_cond _ rfl (fun hb17 => ?_) (fun hb17 => ?_)
    ·have h := cond_t hb17 h
     refine ht_seq ?_
     refine ht_seqR hn (El := [_, _, _, _, (22, .agg [.v (.int .i64 0), .v (.string (⟨#[]⟩ : ByteArray)), .v (.bool false), .v (.string (⟨#[]⟩ : ByteArray)), .v (.string (⟨#[]⟩ : ByteArray)), .v (.slice none 0 0)]), (2, .box 26 [.v (.int .i64 0), .v (.string (⟨#[]⟩ : ByteArray)), .v (.bool false), .v (.string (⟨#[]⟩ : ByteArray)), .v (.string (⟨#[]⟩ : ByteArray)), .v (.slice none 0 0)]), (3, .v (.int .i64 504))]) (init := [0, 1, 2, 3]) (fin := [1, 5, 6]) (sps := [⟨[], [], [4], [(.slot 22)]⟩, ⟨[], [4, 2], [5], [.cell 2 0, .cell 2 1, .cell 2 2, .cell 2 3, .cell 2 4, .cell 2 5]⟩, ⟨[], [], [6], [(.slot 3)]⟩]) (es' := [(_, _), (2, .box 26 [.v (.int .i64 0), .v (.string (⟨#[]⟩ : ByteArray)), .v (.bool false), .v (.string (⟨#[]⟩ : ByteArray)), .v (.string (⟨#[]⟩ : ByteArray)), .v (.slice none 0 0)]), (3, .v (.int .i64 504))]) (by kernel_rfl) rfl rfl
      ⟨st_plain rfl (op_build _ _ _ _ [1, 1, 3, 1] _ _ Tryd.underlying26 zr26 (fs26 _ Tryd.underlying26) Src.nil rfl rfl rfl),
      st_plain rfl (op_store_self _ _ _ 22 2 6 sz26 rfl rfl rfl rfl rfl (.eq _ (.eq _ (.eq _ (.eq _ (.eq _ (.eq _ (.nil _))))))) rfl),
      st_plain rfl (op_assign _ _ _ _ rfl rfl),
      trivial⟩ ?_
     refine pt_then ?_
     refine ht_ret ?_
     refine pt_pick [1, 2] (by kernel_rfl) (es' := [(_, _), (_, _)]) rfl ?_
     refine pt_sub (fs := [(2, .box 26 [.v (.int .i64 0), .v (.string (⟨#[]⟩ : ByteArray)), .v (.bool false), .v (.string (⟨#[]⟩ : ByteArray)), .v (.string (⟨#[]⟩ : ByteArray)), .fl (.own 46) 2 (List.flatten (List.map T_Param.enc []))]), (3, .v (.int .i64 504))]) (.box _ _ (subs_cons (sub_refl _) (subs_cons (sub_refl _) (subs_cons (sub_refl _) (subs_cons (sub_refl _) (subs_cons (sub_refl _) (subs_cons (sub_nil 46 2) (subs_nil))))))) rfl (.same _ .nil)) ?_
     refine pt_frz 0 hio (es' := [(2, .box 26 [.v (.int .i64 0), .v (.string (⟨#[]⟩ : ByteArray)), .v (.bool false), .v (.string (⟨#[]⟩ : ByteArray)), .v (.string (⟨#[]⟩ : ByteArray)), .fl .ro 2 (List.flatten (List.map T_Param.enc []))]), (3, .v (.int .i64 504))]) rfl ?_
     refine pt_r_then ?_
     obtain rfl := Option.some.inj h
     exact pt_ret hio rfl (.cellA _ _ _ _ Tryd.underlying26 rfl sz26 (.tmp _ _ .nil)) rfl rfl
    ·have h := cond_f hb17 h
     refine ht_skip ?_
     refine pt_then ?_
     refine ht_seq ?_
     obtain ⟨v10, hv10, h⟩ := bind_some h
     refine ht_seqR hn (El := [_, _, _, _, (24, .v (.string line)), (25, .tup [.agg [.v (.int .i64 v10.1.Kind), .v (.string v10.1.Text), .v (.bool v10.1.Path.Null), .v (.string v10.1.Path.Local), .v (.string v10.1.Path.Domain), .fl .ro 2 (List.flatten (List.map T_Param.enc v10.1.Params))], .v (.bool v10.2)]), (23, .tup [.agg [.v (.int .i64 v10.1.Kind), .v (.string v10.1.Text), .v (.bool v10.1.Path.Null), .v (.string v10.1.Path.Local), .v (.string v10.1.Path.Domain), .fl .ro 2 (List.flatten (List.map T_Param.enc v10.1.Params))], .v (.bool v10.2)]), (26, .agg [.v (.int .i64 v10.1.Kind), .v (.string v10.1.Text), .v (.bool v10.1.Path.Null), .v (.string v10.1.Path.Local), .v (.string v10.1.Path.Domain), .fl .ro 2 (List.flatten (List.map T_Param.enc v10.1.Params))]), (27, .v (.bool v10.2)), (4, .box 26 [.v (.int .i64 0), .v (.string (⟨#[]⟩ : ByteArray)), .v (.bool false), .v (.string (⟨#[]⟩ : ByteArray)), .v (.string (⟨#[]⟩ : ByteArray)), .v (.slice none 0 0)]), (4, .box 26 [.v (.int .i64 v10.1.Kind), .v (.string v10.1.Text), .v (.bool v10.1.Path.Null), .v (.string v10.1.Path.Local), .v (.string v10.1.Path.Domain), .fl .ro 2 (List.flatten (List.map T_Param.enc v10.1.Params))]), (5, .v (.bool v10.2))]) (init := [0, 1, 2, 3]) (fin := [1, 2, 10, 11]) (sps := [⟨[0], [], [4], [(.slot 24)]⟩, ⟨[4, 1], [], [5], [(.slot 25)]⟩, ⟨[], [5], [6], [(.slot 23)]⟩, ⟨[6], [], [7], [(.slot 26)]⟩, ⟨[6], [], [8], [(.slot 27)]⟩, ⟨[], [], [9], [(.slot 4)]⟩, ⟨[7], [9], [10], [.cell 4 0, .cell 4 1, .cell 4 2, .cell 4 3, .cell 4 4, .cell 4 5]⟩, ⟨[8], [], [11], [(.slot 5)]⟩]) (es' := [(_, _), (_, _), (4, .box 26 [.v (.int .i64 v10.1.Kind), .v (.string v10.1.Text), .v (.bool v10.1.Path.Null), .v (.string v10.1.Path.Local), .v (.string v10.1.Path.Domain), .fl .ro 2 (List.flatten (List.map T_Param.enc v10.1.Params))]), (5, .v (.bool v10.2))]) (by kernel_rfl) rfl rfl
      ⟨st_plain rfl (op_move _ _ _ _ rfl rfl),
      st_plain rfl (op_callG _ _ 32 19 _ _ rfl Tryd.call19 rfl rfl (fun _ h => h) (ok_verb_command mx line _ hv10) rfl rfl),
      st_plain rfl (op_move_take _ _ _ _ rfl),
      st_plain rfl (op_extract_no _ _ _ _ _ _ rfl rfl (Nat.le_of_ble_eq_true rfl) rfl rfl),
      st_plain rfl (op_extract _ _ _ _ _ rfl rfl (Nat.le_of_ble_eq_true rfl) rfl rfl),
      st_plain rfl (op_alloc _ _ zr26),
      st_plain rfl (op_store _ _ _ _ _ _ _ _ sz26 rfl rfl rfl rfl (Nat.le_of_ble_eq_true rfl) rfl rfl),
      st_plain rfl (op_assign _ _ _ _ rfl rfl),
      trivial⟩ ?_
     refine pt_then ?_
     refine ht_seq ?_
     refine ht_seq ?_
     refine ht_seqR hn (El := [_, _, _, _, (28, .v (.bool v10.2)), (29, .v (.bool (!v10.2)))]) (init := [0, 1, 2, 3]) (fin := [0, 1, 2, 5]) (sps := [⟨[3], [], [4], [(.slot 28)]⟩, ⟨[4], [], [5], [(.slot 29)]⟩]) (es' := [(_, _), (_, _), (_, _), (29, .v (.bool (!v10.2)))]) (by kernel_rfl) rfl rfl
      ⟨st_plain rfl (op_move _ _ _ _ rfl rfl),
      st_plain rfl (op_un _ _ _ _ rfl rfl),
      trivial⟩ ?_
     refine pt_then ?_
     refine ht_cond _ rfl (fun hb18 => ?_) (fun hb18 => ?_)
     ·have h := cond_t hb18 h
      refine ht_seq ?_
      refine ht_seqR hn (El := [_, _, _, _, (30, .agg [.v (.int .i64 0), .v (.string (⟨#[]⟩ : ByteArray)), .v (.bool false), .v (.string (⟨#[]⟩ : ByteArray)), .v (.string (⟨#[]⟩ : ByteArray)), .v (.slice none 0 0)]), (2, .box 26 [.v (.int .i64 0), .v (.string (⟨#[]⟩ : ByteArray)), .v (.bool false), .v (.string (⟨#[]⟩ : ByteArray)), .v (.string (⟨#[]⟩ : ByteArray)), .v (.slice none 0 0)]), (3, .v (.int .i64 501))]) (init := [0, 1, 2, 3]) (fin := [0, 5, 6]) (sps := [⟨[], [], [4], [(.slot 30)]⟩, ⟨[], [4, 1], [5], [.cell 2 0, .cell 2 1, .cell 2 2, .cell 2 3, .cell 2 4, .cell 2 5]⟩, ⟨[], [], [6], [(.slot 3)]⟩]) (es' := [(_, _), (2, .box 26 [.v (.int .i64 0), .v (.string (⟨#[]⟩ : ByteArray)), .v (.bool false), .v (.string (⟨#[]⟩ : ByteArray)), .v (.string (⟨#[]⟩ : ByteArray)), .v (.slice none 0 0)]), (3, .v (.int .i64 501))]) (by kernel_rfl) rfl rfl
       ⟨st_plain rfl (op_build _ _ _ _ [1, 1, 3, 1] _ _ Tryd.underlying26 zr26 (fs26 _ Tryd.underlying26) Src.nil rfl rfl rfl),
       st_plain rfl (op_store_self _ _ _ 30 2 6 sz26 rfl rfl rfl rfl rfl (.eq _ (.eq _ (.eq _ (.eq _ (.eq _ (.eq _ (.nil _))))))) rfl),
       st_plain rfl (op_assign _ _ _ _ rfl rfl),
       trivial⟩ ?_
      refine pt_then ?_
      refine ht_ret ?_
      refine pt_pick [1, 2] (by kernel_rfl) (es' := [(_, _), (_, _)]) rfl ?_
      refine pt_sub (fs := [(2, .box 26 [.v (.int .i64 0), .v (.string (⟨#[]⟩ : ByteArray)), .v (.bool false), .v (.string (⟨#[]⟩ : ByteArray)), .v (.string (⟨#[]⟩ : ByteArray)), .fl (.own 46) 2 (List.flatten (List.map T_Param.enc []))]), (3, .v (.int .i64 501))]) (.box _ _ (subs_cons (sub_refl _) (subs_cons (sub_refl _) (subs_cons (sub_refl _) (subs_cons (sub_refl _) (subs_cons (sub_refl _) (subs_cons (sub_nil 46 2) (subs_nil))))))) rfl (.same _ .nil)) ?_
      refine pt_frz 0 hio (es' := [(2, .box 26 [.v (.int .i64 0), .v (.string (⟨#[]⟩ : ByteArray)), .v (.bool false), .v (.string (⟨#[]⟩ : ByteArray)), .v (.string (⟨#[]⟩ : ByteArray)), .fl .ro 2 (List.flatten (List.map T_Param.enc []))]), (3, .v (.int .i64 501))]) rfl ?_
      refine pt_r_then ?_
      obtain rfl := Option.some.inj h
      exact pt_ret hio rfl (.cellA _ _ _ _ Tryd.underlying26 rfl sz26 (.tmp _ _ .nil)) rfl rfl
     ·have h := cond_f hb18 h
      refine ht_skip ?_
      refine pt_then ?_
      refine ht_seq ?_
      refine ht_seqR hn (El := [_, _, _, _, (31, .agg [.v (.int .i64 v10.1.Kind), .v (.string v10.1.Text), .v (.bool v10.1.Path.Null), .v (.string v10.1.Path.Local), .v (.string v10.1.Path.Domain), .fl .ro 2 (List.flatten (List.map T_Param.enc v10.1.Params))]), (2, .box 26 [.v (.int .i64 v10.1.Kind), .v (.string v10.1.Text), .v (.bool v10.1.Path.Null), .v (.string v10.1.Path.Local), .v (.string v10.1.Path.Domain), .fl .ro 2 (List.flatten (List.map T_Param.enc v10.1.Params))]), (3, .v (.int .i64 0))]) (init := [0, 1, 2, 3]) (fin := [0, 5, 6]) (sps := [⟨[2], [], [4], [(.slot 31)]⟩, ⟨[4], [1], [5], [.cell 2 0, .cell 2 1, .cell 2 2, .cell 2 3, .cell 2 4, .cell 2 5]⟩, ⟨[], [], [6], [(.slot 3)]⟩]) (es' := [(_, _), (2, .box 26 [.v (.int .i64 v10.1.Kind), .v (.string v10.1.Text), .v (.bool v10.1.Path.Null), .v (.string v10.1.Path.Local), .v (.string v10.1.Path.Domain), .fl .ro 2 (List.flatten (List.map T_Param.enc v10.1.Params))]), (3, .v (.int .i64 0))]) (by kernel_rfl) rfl rfl
       ⟨st_plain rfl (op_loadA _ _ _ _ _ _ _ Tryd.underlying26 rfl sz26 rfl rfl (Nat.le_of_ble_eq_true rfl) rfl rfl),
       st_plain rfl (op_store _ _ _ _ _ _ _ _ sz26 rfl rfl rfl rfl (Nat.le_of_ble_eq_true rfl) rfl rfl),
       st_plain rfl (op_assign _ _ _ _ rfl rfl),
       trivial⟩ ?_
      refine pt_then ?_
      refine ht_ret ?_
      refine pt_pick [1, 2] (by kernel_rfl) (es' := [(_, _), (_, _)]) rfl ?_
      obtain rfl := Option.some.inj h
      exact pt_ret hio rfl (.cellA _ _ _ _ Tryd.underlying26 rfl sz26 (.tmp _ _ .nil)) rfl rfl
  ·intro u13 h hl14 hr15
   refine cond_some h (fun hg1_3 h => ?_) (fun hg1_3 h => ?_)
   ·refine ht_seqR hn (El := (_ :: _ :: _ :: (6, .v (.string line)) :: (7, .v (.int .i64 (line.size : Int))) :: (8, .v (.bool ((decide (510 < (line.size : Int)))))) :: (9, .v (.bool true)) :: (10, .v undef) :: (11, .v undef) :: (12, .v undef) :: (13, .v (.bool true)) :: (14, .v (.bool true)) :: (15, .v undef) :: (16, .v undef) :: (17, .v undef) :: (18, .v (.bool true)) :: [])) (init := [0, 1, 2]) (fin := [0, 1, 2, 15]) (sps := [⟨[0], [], [3], [(.slot 6)]⟩, ⟨[3], [], [4], [(.slot 7)]⟩, ⟨[4], [], [5], [(.slot 8)]⟩, ⟨[5], [], [6], [(.slot 9)]⟩, ⟨[6], [], [7], [(.slot 10)]⟩, ⟨[6], [], [8], [(.slot 11)]⟩, ⟨[6], [], [9], [(.slot 12)]⟩, ⟨[6], [], [10], [(.slot 13)]⟩, ⟨[10], [], [11], [(.slot 14)]⟩, ⟨[11], [], [12], [(.slot 15)]⟩, ⟨[11], [], [13], [(.slot 16)]⟩, ⟨[11], [], [14], [(.slot 17)]⟩, ⟨[11], [], [15], [(.slot 18)]⟩]) (es' := [(_, _), (_, _), (_, _), (18, .v (.bool true))]) (by kernel_rfl) rfl rfl
     ⟨st_plain rfl (op_move _ _ _ _ rfl rfl),
     st_plain rfl (op_len_str _ _ _ Tryd.underlying9 rfl),
     st_plain rfl (op_bin _ _ _ _ _ rfl rfl rfl),
     st_plain rfl (op_move _ _ _ _ (congrArg (fun b => AV.v (Value.bool b)) hg1_3) rfl),
     st_skip 3 9 _ false rfl rfl rfl rfl (List.Mem.head _),
     st_skip 3 9 _ false rfl rfl rfl rfl (List.Mem.head _),
     st_skip 3 9 _ false rfl rfl rfl rfl (List.Mem.head _),
     st_plain rfl (op_pick _ _ true _ rfl rfl),
     st_plain rfl (op_move _ _ _ _ rfl rfl),
     st_skip 8 14 _ false rfl rfl rfl rfl (List.Mem.head _),
     st_skip 8 14 _ false rfl rfl rfl rfl (List.Mem.head _),
     st_skip 8 14 _ false rfl rfl rfl rfl (List.Mem.head _),
     st_plain rfl (op_pick _ _ true _ rfl rfl),
     trivial⟩ ?_
    exact hl14 _ (Option.some.inj h).symm
   ·obtain ⟨v1, hv1, h⟩ := bind_some h
    refine cond_some h (fun hg1_8 h => ?_) (fun hg1_8 h => ?_)
    ·refine ht_seqR hn (El := (_ :: _ :: _ :: (6, .v (.string line)) :: (7, .v (.int .i64 (line.size : Int))) :: (8, .v (.bool ((decide (510 < (line.size : Int)))))) :: (9, .v (.bool false)) :: (10, .v (.string line)) :: (11, .v (.bool v1)) :: (12, .v (.bool (!v1))) :: (13, .v (.bool (!v1))) :: (14, .v (.bool true)) :: (15, .v undef) :: (16, .v undef) :: (17, .v undef) :: (18, .v (.bool true)) :: [])) (init := [0, 1, 2]) (fin := [0, 1, 2, 15]) (sps := [⟨[0], [], [3], [(.slot 6)]⟩, ⟨[3], [], [4], [(.slot 7)]⟩, ⟨[4], [], [5], [(.slot 8)]⟩, ⟨[5], [], [6], [(.slot 9)]⟩, ⟨[6, 0], [], [7], [(.slot 10)]⟩, ⟨[6, 7], [], [8], [(.slot 11)]⟩, ⟨[6, 8], [], [9], [(.slot 12)]⟩, ⟨[6, 9], [], [10], [(.slot 13)]⟩, ⟨[10], [], [11], [(.slot 14)]⟩, ⟨[11], [], [12], [(.slot 15)]⟩, ⟨[11], [], [13], [(.slot 16)]⟩, ⟨[11], [], [14], [(.slot 17)]⟩, ⟨[11], [], [15], [(.slot 18)]⟩]) (es' := [(_, _), (_, _), (_, _), (18, .v (.bool true))]) (by kernel_rfl) rfl rfl
      ⟨st_plain rfl (op_move _ _ _ _ rfl rfl),
      st_plain rfl (op_len_str _ _ _ Tryd.underlying9 rfl),
      st_plain rfl (op_bin _ _ _ _ _ rfl rfl rfl),
      st_plain rfl (op_move _ _ _ _ (congrArg (fun b => AV.v (Value.bool b)) hg1_3) rfl),
      st_run 3 9 false rfl rfl rfl (List.Mem.head _) (op_move _ _ _ _ rfl rfl),
      st_run 3 9 false rfl rfl rfl (List.Mem.head _) (op_call _ _ 16 _ _ rfl Tryd.call16 rfl (ok_verb_printable line _ hv1) rfl rfl),
      st_run 3 9 false rfl rfl rfl (List.Mem.head _) (op_un _ _ _ _ rfl rfl),
      st_plain rfl (op_pick _ _ false _ rfl rfl),
      st_plain rfl (op_move _ _ _ _ (congrArg (fun b => AV.v (Value.bool b)) hg1_8) rfl),
      st_skip 8 14 _ false rfl rfl rfl rfl (List.Mem.head _),
      st_skip 8 14 _ false rfl rfl rfl rfl (List.Mem.head _),
      st_skip 8 14 _ false rfl rfl rfl rfl (List.Mem.head _),
      st_plain rfl (op_pick _ _ true _ rfl rfl),
      trivial⟩ ?_
     exact hl14 _ (Option.some.inj h).symm
    ·obtain ⟨v2, hv2, h⟩ := bind_some h
     refine ht_seqR hn (El := (_ :: _ :: _ :: (6, .v (.string line)) :: (7, .v (.int .i64 (line.size : Int))) :: (8, .v (.bool ((decide (510 < (line.size : Int)))))) :: (9, .v (.bool false)) :: (10, .v (.string line)) :: (11, .v (.bool v1)) :: (12, .v (.bool (!v1))) :: (13, .v (.bool (!v1))) :: (14, .v (.bool false)) :: (15, .v (.string line)) :: (16, .v (.int .i64 v2)) :: (17, .v (.bool (v2 == 0))) :: (18, .v (.bool (v2 == 0))) :: [])) (init := [0, 1, 2]) (fin := [0, 1, 2, 15]) (sps := [⟨[0], [], [3], [(.slot 6)]⟩, ⟨[3], [], [4], [(.slot 7)]⟩, ⟨[4], [], [5], [(.slot 8)]⟩, ⟨[5], [], [6], [(.slot 9)]⟩, ⟨[6, 0], [], [7], [(.slot 10)]⟩, ⟨[6, 7], [], [8], [(.slot 11)]⟩, ⟨[6, 8], [], [9], [(.slot 12)]⟩, ⟨[6, 9], [], [10], [(.slot 13)]⟩, ⟨[10], [], [11], [(.slot 14)]⟩, ⟨[11, 0], [], [12], [(.slot 15)]⟩, ⟨[11, 12], [], [13], [(.slot 16)]⟩, ⟨[11, 13], [], [14], [(.slot 17)]⟩, ⟨[11, 14], [], [15], [(.slot 18)]⟩]) (es' := [(_, _), (_, _), (_, _), (18, .v (.bool (v2 == 0)))]) (by kernel_rfl) rfl rfl
      ⟨st_plain rfl (op_move _ _ _ _ rfl rfl),
      st_plain rfl (op_len_str _ _ _ Tryd.underlying9 rfl),
      st_plain rfl (op_bin _ _ _ _ _ rfl rfl rfl),
      st_plain rfl (op_move _ _ _ _ (congrArg (fun b => AV.v (Value.bool b)) hg1_3) rfl),
      st_run 3 9 false rfl rfl rfl (List.Mem.head _) (op_move _ _ _ _ rfl rfl),
      st_run 3 9 false rfl rfl rfl (List.Mem.head _) (op_call _ _ 16 _ _ rfl Tryd.call16 rfl (ok_verb_printable line _ hv1) rfl rfl),
      st_run 3 9 false rfl rfl rfl (List.Mem.head _) (op_un _ _ _ _ rfl rfl),
      st_plain rfl (op_pick _ _ false _ rfl rfl),
      st_plain rfl (op_move _ _ _ _ (congrArg (fun b => AV.v (Value.bool b)) hg1_8) rfl),
      st_run 8 14 false rfl rfl rfl (List.Mem.head _) (op_move _ _ _ _ rfl rfl),
      st_run 8 14 false rfl rfl rfl (List.Mem.head _) (op_call _ _ 17 _ _ rfl Tryd.call17 rfl (ok_verb_kindOf line _ hv2) rfl rfl),
      st_run 8 14 false rfl rfl rfl (List.Mem.head _) (op_bin _ _ _ _ _ rfl rfl rfl),
      st_plain rfl (op_pick _ _ false _ rfl rfl),
      trivial⟩ ?_
     exact hl14 _ (Option.some.inj h).symm
set_option maxHeartbeats 1000000 in
theorem ok_wherrykeep_Path (a : T_Path) (b : T_Path) (r : Bool) (h : Sh.wherrykeep_Path a b = some r) : FnOK Tryd.prog 20 [.agg [.v (.bool a.Null), .v (.string a.Local), .v (.string a.Domain)], .agg [.v (.bool b.Null), .v (.string b.Local), .v (.string b.Domain)]] (.v (.bool r)) := by
  unfold Sh.wherrykeep_Path at h
  refine fn_ok Tryd.func20 rfl (Nat.le_of_ble_eq_true rfl) rfl rfl fun g0 hn hio => ?_
  refine ht_seq ?_
  refine ht_seqR hn (El := [_, _, (2, .box 23 [.v (.bool a.Null), .v (.string a.Local), .v (.string a.Domain)]), (3, .box 23 [.v (.bool b.Null), .v (.string b.Local), .v (.string b.Domain)]), (4, .v (.bool false))]) (init := [0, 1]) (fin := [2, 3]) (sps := [⟨[0], [], [2], [(.slot 2)]⟩, ⟨[1], [], [3], [(.slot 3)]⟩, ⟨[], [], [4], [(.slot 4)]⟩]) (es' := [(2, .box 23 [.v (.bool a.Null), .v (.string a.Local), .v (.string a.Domain)]), (3, .box 23 [.v (.bool b.Null), .v (.string b.Local), .v (.string b.Domain)])]) (by kernel_rfl) rfl rfl
   ⟨st_plain rfl (op_box _ _ _ _ rfl rfl rfl),
   st_plain rfl (op_box _ _ _ _ rfl rfl rfl),
   st_plain rfl (op_assign _ _ _ _ rfl rfl),
   trivial⟩ ?_
  refine pt_then ?_
  refine ht_seq ?_
  refine ht_joinS h (fun (s2 : Bool) => [(4, .v (.bool s2))]) ?_ ?_
  ·rintro s2 h
   refine pt_then ?_
   refine ht_ret ?_
   obtain rfl := Option.some.inj h
   exact pt_ret hio rfl (.tmp _ _ .nil) rfl rfl
  ·intro u3 h hl4 hr5
   obtain ⟨v1, hv1, h⟩ := bind_some h
   refine cond_some h (fun hg1_5 h => ?_) (fun hg1_5 h => ?_)
   ·refine cond_some h (fun hg1_12 h => ?_) (fun hg1_12 h => ?_)
    ·refine ht_seqR hn (El := (_ :: _ :: (5, .ptr 2 0) :: (6, .v (.bool a.Null)) :: (7, .ptr 3 0) :: (8, .v (.bool b.Null)) :: (9, .v (.bool (a.Null == b.Null))) :: (10, .v (.bool true)) :: (11, .ptr 2 1) :: (12, .v (.string a.Local)) :: (13, .ptr 3 1) :: (14, .v (.string b.Local)) :: (15, .v (.bool (a.Local.toList == b.Local.toList))) :: (16, .v (.bool (a.Local.toList == b.Local.toList))) :: (17, .v (.bool true)) :: (18, .ptr 2 2) :: (19, .v (.string a.Domain)) :: (20, .ptr 3 2) :: (21, .v (.string b.Domain)) :: (22, .v (.bool (a.Domain.toList == b.Domain.toList))) :: (23, .v (.bool (a.Domain.toList == b.Domain.toList))) :: (4, .v (.bool (a.Domain.toList == b.Domain.toList))) :: [])) (init := [0, 1]) (fin := [21]) (sps := (⟨[0], [], [2], [(.slot 5)]⟩ :: ⟨[2, 0], [], [3], [(.slot 6)]⟩ :: ⟨[1], [], [4], [(.slot 7)]⟩ :: ⟨[4, 1], [], [5], [(.slot 8)]⟩ :: ⟨[3, 5], [], [6], [(.slot 9)]⟩ :: ⟨[6], [], [7], [(.slot 10)]⟩ :: ⟨[7, 0], [], [8], [(.slot 11)]⟩ :: ⟨[7, 8, 0], [], [9], [(.slot 12)]⟩ :: ⟨[7, 1], [], [10], [(.slot 13)]⟩ :: ⟨[7, 10, 1], [], [11], [(.slot 14)]⟩ :: ⟨[7, 9, 11], [], [12], [(.slot 15)]⟩ :: ⟨[7, 12], [], [13], [(.slot 16)]⟩ :: ⟨[13], [], [14], [(.slot 17)]⟩ :: ⟨[14, 0], [], [15], [(.slot 18)]⟩ :: ⟨[14, 15, 0], [], [16], [(.slot 19)]⟩ :: ⟨[14, 1], [], [17], [(.slot 20)]⟩ :: ⟨[14, 17, 1], [], [18], [(.slot 21)]⟩ :: ⟨[14, 16, 18], [], [19], [(.slot 22)]⟩ :: ⟨[14, 19], [], [20], [(.slot 23)]⟩ :: ⟨[20], [], [21], [(.slot 4)]⟩ :: [])) (es' := [(4, .v (.bool (a.Domain.toList == b.Domain.toList)))]) (by kernel_rfl) rfl rfl
      ⟨st_plain rfl (op_fieldAddr _ _ _ _ 2 0 _ Tryd.underlying23 rfl sz4 rfl rfl (by decide)),
      st_plain rfl (op_load _ _ _ _ _ _ Tryd.underlying4 rfl rfl rfl (Nat.le_of_ble_eq_true rfl) rfl rfl rfl),
      st_plain rfl (op_fieldAddr _ _ _ _ 3 0 _ Tryd.underlying23 rfl sz4 rfl rfl (by decide)),
      st_plain rfl (op_load _ _ _ _ _ _ Tryd.underlying4 rfl rfl rfl (Nat.le_of_ble_eq_true rfl) rfl rfl rfl),
      st_plain rfl (op_beq _ _ _ _ Tryd.underlying4 rfl rfl),
      st_plain rfl (op_move _ _ _ _ (congrArg (fun b => AV.v (Value.bool b)) hg1_5) rfl),
      st_run 5 10 true rfl rfl rfl (List.Mem.head _) (op_fieldAddr _ _ _ _ 2 0 _ Tryd.underlying23 rfl sz9 rfl rfl (by decide)),
      st_run 5 10 true rfl rfl rfl (List.Mem.head _) (op_load _ _ _ _ _ _ Tryd.underlying9 rfl rfl rfl (Nat.le_of_ble_eq_true rfl) rfl rfl rfl),
      st_run 5 10 true rfl rfl rfl (List.Mem.head _) (op_fieldAddr _ _ _ _ 3 0 _ Tryd.underlying23 rfl sz9 rfl rfl (by decide)),
      st_run 5 10 true rfl rfl rfl (List.Mem.head _) (op_load _ _ _ _ _ _ Tryd.underlying9 rfl rfl rfl (Nat.le_of_ble_eq_true rfl) rfl rfl rfl),
      st_run 5 10 true rfl rfl rfl (List.Mem.head _) (op_bin _ _ _ _ _ rfl rfl rfl),
      st_plain rfl (op_pick _ _ true _ rfl rfl),
      st_plain rfl (op_move _ _ _ _ (congrArg (fun b => AV.v (Value.bool b)) hg1_12) rfl),
      st_run 12 17 true rfl rfl rfl (List.Mem.head _) (op_fieldAddr _ _ _ _ 2 0 _ Tryd.underlying23 rfl sz9 rfl rfl (by decide)),
      st_run 12 17 true rfl rfl rfl (List.Mem.head _) (op_load _ _ _ _ _ _ Tryd.underlying9 rfl rfl rfl (Nat.le_of_ble_eq_true rfl) rfl rfl rfl),
      st_run 12 17 true rfl rfl rfl (List.Mem.head _) (op_fieldAddr _ _ _ _ 3 0 _ Tryd.underlying23 rfl sz9 rfl rfl (by decide)),
      st_run 12 17 true rfl rfl rfl (List.Mem.head _) (op_load _ _ _ _ _ _ Tryd.underlying9 rfl rfl rfl (Nat.le_of_ble_eq_true rfl) rfl rfl rfl),
      st_run 12 17 true rfl rfl rfl (List.Mem.head _) (op_bin _ _ _ _ _ rfl rfl rfl),
      st_plain rfl (op_pick _ _ true _ rfl rfl),
      st_plain rfl (op_assign _ _ _ _ rfl rfl),
      trivial⟩ ?_
     exact hl4 _ (Option.some.inj h).symm
    ·refine ht_seqR hn (El := (_ :: _ :: (5, .ptr 2 0) :: (6, .v (.bool a.Null)) :: (7, .ptr 3 0) :: (8, .v (.bool b.Null)) :: (9, .v (.bool (a.Null == b.Null))) :: (10, .v (.bool true)) :: (11, .ptr 2 1) :: (12, .v (.string a.Local)) :: (13, .ptr 3 1) :: (14, .v (.string b.Local)) :: (15, .v (.bool (a.Local.toList == b.Local.toList))) :: (16, .v (.bool (a.Local.toList == b.Local.toList))) :: (17, .v (.bool false)) :: (18, .v undef) :: (19, .v undef) :: (20, .v undef) :: (21, .v undef) :: (22, .v undef) :: (23, .v (.bool false)) :: (4, .v (.bool false)) :: [])) (init := [0, 1]) (fin := [21]) (sps := (⟨[0], [], [2], [(.slot 5)]⟩ :: ⟨[2, 0], [], [3], [(.slot 6)]⟩ :: ⟨[1], [], [4], [(.slot 7)]⟩ :: ⟨[4, 1], [], [5], [(.slot 8)]⟩ :: ⟨[3, 5], [], [6], [(.slot 9)]⟩ :: ⟨[6], [], [7], [(.slot 10)]⟩ :: ⟨[7, 0], [], [8], [(.slot 11)]⟩ :: ⟨[7, 8, 0], [], [9], [(.slot 12)]⟩ :: ⟨[7, 1], [], [10], [(.slot 13)]⟩ :: ⟨[7, 10, 1], [], [11], [(.slot 14)]⟩ :: ⟨[7, 9, 11], [], [12], [(.slot 15)]⟩ :: ⟨[7, 12], [], [13], [(.slot 16)]⟩ :: ⟨[13], [], [14], [(.slot 17)]⟩ :: ⟨[14], [], [15], [(.slot 18)]⟩ :: ⟨[14], [], [16], [(.slot 19)]⟩ :: ⟨[14], [], [17], [(.slot 20)]⟩ :: ⟨[14], [], [18], [(.slot 21)]⟩ :: ⟨[14], [], [19], [(.slot 22)]⟩ :: ⟨[14], [], [20], [(.slot 23)]⟩ :: ⟨[20], [], [21], [(.slot 4)]⟩ :: [])) (es' := [(4, .v (.bool false))]) (by kernel_rfl) rfl rfl
      ⟨st_plain rfl (op_fieldAddr _ _ _ _ 2 0 _ Tryd.underlying23 rfl sz4 rfl rfl (by decide)),
      st_plain rfl (op_load _ _ _ _ _ _ Tryd.underlying4 rfl rfl rfl (Nat.le_of_ble_eq_true rfl) rfl rfl rfl),
      st_plain rfl (op_fieldAddr _ _ _ _ 3 0 _ Tryd.underlying23 rfl sz4 rfl rfl (by decide)),
      st_plain rfl (op_load _ _ _ _ _ _ Tryd.underlying4 rfl rfl rfl (Nat.le_of_ble_eq_true rfl) rfl rfl rfl),
      st_plain rfl (op_beq _ _ _ _ Tryd.underlying4 rfl rfl),
      st_plain rfl (op_move _ _ _ _ (congrArg (fun b => AV.v (Value.bool b)) hg1_5) rfl),
      st_run 5 10 true rfl rfl rfl (List.Mem.head _) (op_fieldAddr _ _ _ _ 2 0 _ Tryd.underlying23 rfl sz9 rfl rfl (by decide)),
      st_run 5 10 true rfl rfl rfl (List.Mem.head _) (op_load _ _ _ _ _ _ Tryd.underlying9 rfl rfl rfl (Nat.le_of_ble_eq_true rfl) rfl rfl rfl),
      st_run 5 10 true rfl rfl rfl (List.Mem.head _) (op_fieldAddr _ _ _ _ 3 0 _ Tryd.underlying23 rfl sz9 rfl rfl (by decide)),
      st_run 5 10 true rfl rfl rfl (List.Mem.head _) (op_load _ _ _ _ _ _ Tryd.underlying9 rfl rfl rfl (Nat.le_of_ble_eq_true rfl) rfl rfl rfl),
      st_run 5 10 true rfl rfl rfl (List.Mem.head _) (op_bin _ _ _ _ _ rfl rfl rfl),
      st_plain rfl (op_pick _ _ true _ rfl rfl),
      st_plain rfl (op_move _ _ _ _ (congrArg (fun b => AV.v (Value.bool b)) hg1_12) rfl),
      st_skip 12 17 _ true rfl rfl rfl rfl (List.Mem.head _),
      st_skip 12 17 _ true rfl rfl rfl rfl (List.Mem.head _),
      st_skip 12 17 _ true rfl rfl rfl rfl (List.Mem.head _),
      st_skip 12 17 _ true rfl rfl rfl rfl (List.Mem.head _),
      st_skip 12 17 _ true rfl rfl rfl rfl (List.Mem.head _),
      st_plain rfl (op_pick _ _ false _ rfl rfl),
      st_plain rfl (op_assign _ _ _ _ rfl rfl),
      trivial⟩ ?_
     exact hl4 _ (Option.some.inj h).symm
   ·refine ht_seqR hn (El := (_ :: _ :: (5, .ptr 2 0) :: (6, .v (.bool a.Null)) :: (7, .ptr 3 0) :: (8, .v (.bool b.Null)) :: (9, .v (.bool (a.Null == b.Null))) :: (10, .v (.bool false)) :: (11, .v undef) :: (12, .v undef) :: (13, .v undef) :: (14, .v undef) :: (15, .v undef) :: (16, .v (.bool false)) :: (17, .v (.bool false)) :: (18, .v undef) :: (19, .v undef) :: (20, .v undef) :: (21, .v undef) :: (22, .v undef) :: (23, .v (.bool false)) :: (4, .v (.bool false)) :: [])) (init := [0, 1]) (fin := [21]) (sps := (⟨[0], [], [2], [(.slot 5)]⟩ :: ⟨[2, 0], [], [3], [(.slot 6)]⟩ :: ⟨[1], [], [4], [(.slot 7)]⟩ :: ⟨[4, 1], [], [5], [(.slot 8)]⟩ :: ⟨[3, 5], [], [6], [(.slot 9)]⟩ :: ⟨[6], [], [7], [(.slot 10)]⟩ :: ⟨[7], [], [8], [(.slot 11)]⟩ :: ⟨[7], [], [9], [(.slot 12)]⟩ :: ⟨[7], [], [10], [(.slot 13)]⟩ :: ⟨[7], [], [11], [(.slot 14)]⟩ :: ⟨[7], [], [12], [(.slot 15)]⟩ :: ⟨[7], [], [13], [(.slot 16)]⟩ :: ⟨[13], [], [14], [(.slot 17)]⟩ :: ⟨[14], [], [15], [(.slot 18)]⟩ :: ⟨[14], [], [16], [(.slot 19)]⟩ :: ⟨[14], [], [17], [(.slot 20)]⟩ :: ⟨[14], [], [18], [(.slot 21)]⟩ :: ⟨[14], [], [19], [(.slot 22)]⟩ :: ⟨[14], [], [20], [(.slot 23)]⟩ :: ⟨[20], [], [21], [(.slot 4)]⟩ :: [])) (es' := [(4, .v (.bool false))]) (by kernel_rfl) rfl rfl
     ⟨st_plain rfl (op_fieldAddr _ _ _ _ 2 0 _ Tryd.underlying23 rfl sz4 rfl rfl (by decide)),
     st_plain rfl (op_load _ _ _ _ _ _ Tryd.underlying4 rfl rfl rfl (Nat.le_of_ble_eq_true rfl) rfl rfl rfl),
     st_plain rfl (op_fieldAddr _ _ _ _ 3 0 _ Tryd.underlying23 rfl sz4 rfl rfl (by decide)),
     st_plain rfl (op_load _ _ _ _ _ _ Tryd.underlying4 rfl rfl rfl (Nat.le_of_ble_eq_true rfl) rfl rfl rfl),
     st_plain rfl (op_beq _ _ _ _ Tryd.underlying4 rfl rfl),
     st_plain rfl (op_move _ _ _ _ (congrArg (fun b => AV.v (Value.bool b)) hg1_5) rfl),
     st_skip 5 10 _ true rfl rfl rfl rfl (List.Mem.head _),
     st_skip 5 10 _ true rfl rfl rfl rfl (List.Mem.head _),
     st_skip 5 10 _ true rfl rfl rfl rfl (List.Mem.head _),
     st_skip 5 10 _ true rfl rfl rfl rfl (List.Mem.head _),
     st_skip 5 10 _ true rfl rfl rfl rfl (List.Mem.head _),
     st_plain rfl (op_pick _ _ false _ rfl rfl),
     st_plain rfl (op_move _ _ _ _ rfl rfl),
     st_skip 12 17 _ true rfl rfl rfl rfl (List.Mem.head _),
     st_skip 12 17 _ true rfl rfl rfl rfl (List.Mem.head _),
     st_skip 12 17 _ true rfl rfl rfl rfl (List.Mem.head _),
     st_skip 12 17 _ true rfl rfl rfl rfl (List.Mem.head _),
     st_skip 12 17 _ true rfl rfl rfl rfl (List.Mem.head _),
     st_plain rfl (op_pick _ _ false _ rfl rfl),
     st_plain rfl (op_assign _ _ _ _ rfl rfl),
     trivial⟩ ?_
    exact hl4 _ (Option.some.inj h).symm
set_option maxHeartbeats 1000000 in
theorem ok_wherrykeep_Cmd (a : T_Cmd) (b : T_Cmd) (r : Bool) (h : Sh.wherrykeep_Cmd a b = some r) : FnOK Tryd.prog 11 [.agg [.v (.int .i64 a.Kind), .v (.string a.Text), .v (.bool a.Path.Null), .v (.string a.Path.Local), .v (.string a.Path.Domain), .fl .shr 2 (List.flatten (List.map T_Param.enc a.Params))], .agg [.v (.int .i64 b.Kind), .v (.string b.Text), .v (.bool b.Path.Null), .v (.string b.Path.Local), .v (.string b.Path.Domain), .fl .shr 2 (List.flatten (List.map T_Param.enc b.Params))]] (.v (.bool r)) := by
  unfold Sh.wherrykeep_Cmd at h
  refine fn_ok Tryd.func11 rfl (Nat.le_of_ble_eq_true rfl) rfl rfl fun g0 hn hio => ?_
  refine ht_seq ?_
  refine ht_seqR hn (El := [_, _, (2, .box 26 [.v (.int .i64 a.Kind), .v (.string a.Text), .v (.bool a.Path.Null), .v (.string a.Path.Local), .v (.string a.Path.Domain), .fl .shr 2 (List.flatten (List.map T_Param.enc a.Params))]), (3, .box 26 [.v (.int .i64 b.Kind), .v (.string b.Text), .v (.bool b.Path.Null), .v (.string b.Path.Local), .v (.string b.Path.Domain), .fl .shr 2 (List.flatten (List.map T_Param.enc b.Params))]), (4, .v (.bool false))]) (init := [0, 1]) (fin := [2, 3]) (sps := [⟨[0], [], [2], [(.slot 2)]⟩, ⟨[1], [], [3], [(.slot 3)]⟩, ⟨[], [], [4], [(.slot 4)]⟩]) (es' := [(2, .box 26 [.v (.int .i64 a.Kind), .v (.string a.Text), .v (.bool a.Path.Null), .v (.string a.Path.Local), .v (.string a.Path.Domain), .fl .shr 2 (List.flatten (List.map T_Param.enc a.Params))]), (3, .box 26 [.v (.int .i64 b.Kind), .v (.string b.Text), .v (.bool b.Path.Null), .v (.string b.Path.Local), .v (.string b.Path.Domain), .fl .shr 2 (List.flatten (List.map T_Param.enc b.Params))])]) (by kernel_rfl) rfl rfl
   ⟨st_plain rfl (op_box _ _ _ _ rfl rfl rfl),
   st_plain rfl (op_box _ _ _ _ rfl rfl rfl),
   st_plain rfl (op_assign _ _ _ _ rfl rfl),
   trivial⟩ ?_
  refine pt_then ?_
  refine ht_seq ?_
  refine ht_seq ?_
  refine ht_joinS h (fun (s2 : Bool) => [(2, .box 26 [.v (.int .i64 a.Kind), .v (.string a.Text), .v (.bool a.Path.Null), .v (.string a.Path.Local), .v (.string a.Path.Domain), .fl .shr 2 (List.flatten (List.map T_Param.enc a.Params))]), (3, .box 26 [.v (.int .i64 b.Kind), .v (.string b.Text), .v (.bool b.Path.Null), .v (.string b.Path.Local), .v (.string b.Path.Domain), .fl .shr 2 (List.flatten (List.map T_Param.enc b.Params))]), (34, .v (.bool s2))]) ?_ ?_
  ·rintro s2 h
   refine pt_then ?_
   refine ht_cond _ rfl (fun hb6 => ?_) (fun hb6 => ?_)
   ·have h := cond_t hb6 h
    refine ht_seq ?_
    refine ht_seqR hn (El := [_, _, _, (4, .v (.bool false))]) (init := [0, 1, 2]) (fin := [3]) (sps := [⟨[], [], [3], [(.slot 4)]⟩]) (es' := [(4, .v (.bool false))]) (by kernel_rfl) rfl rfl
     ⟨st_plain rfl (op_assign _ _ _ _ rfl rfl),
     trivial⟩ ?_
    refine pt_then ?_
    refine ht_ret ?_
    refine pt_r_then ?_
    obtain rfl := Option.some.inj h
    exact pt_ret hio rfl (.tmp _ _ .nil) rfl rfl
   ·have h := cond_f hb6 h
    refine ht_skip ?_
    refine pt_then ?_
    refine ht_seq ?_
    refine ht_seq ?_
    refine ht_seqR hn (El := [_, _, _, (5, .v (.int .i64 0))]) (init := [0, 1, 2]) (fin := [0, 1, 3]) (sps := [⟨[], [], [3], [(.slot 5)]⟩]) (es' := [(_, _), (_, _), (5, .v (.int .i64 0))]) (by kernel_rfl) rfl rfl
     ⟨st_plain rfl (op_assign _ _ _ _ rfl rfl),
     trivial⟩ ?_
    refine pt_then ?_
    refine ht_loopS h (fun (s29 : Int) => [(2, .box 26 [.v (.int .i64 a.Kind), .v (.string a.Text), .v (.bool a.Path.Null), .v (.string a.Path.Local), .v (.string a.Path.Domain), .fl .shr 2 (List.flatten (List.map T_Param.enc a.Params))]), (3, .box 26 [.v (.int .i64 b.Kind), .v (.string b.Text), .v (.bool b.Path.Null), .v (.string b.Path.Local), .v (.string b.Path.Domain), .fl .shr 2 (List.flatten (List.map T_Param.enc b.Params))]), (5, .v (.int .i64 s29))]) (fun (() : Unit) => []) ?_ ?_
    ·rintro ⟨⟩ h
     refine pt_then ?_
     refine ht_seq ?_
     refine ht_seqR hn (El := [(4, .v (.bool true))]) (init := []) (fin := [0]) (sps := [⟨[], [], [0], [(.slot 4)]⟩]) (es' := [(4, .v (.bool true))]) (by kernel_rfl) rfl rfl
      ⟨st_plain rfl (op_assign _ _ _ _ rfl rfl),
      trivial⟩ ?_
     refine pt_then ?_
     refine ht_ret ?_
     obtain rfl := Option.some.inj h
     exact pt_ret hio rfl (.tmp _ _ .nil) rfl rfl
    ·rintro u36 hl37 hr38 s29 rr41 h ho39
     refine ht_seq ?_
     refine ht_seq ?_
     refine ht_seqR hn (El := [_, _, _, (35, .v (.int .i64 s29)), (36, .ptr 2 5), (37, .fl .shr 2 (List.flatten (List.map T_Param.enc a.Params))), (38, .v (.int .i64 (a.Params.length : Int))), (39, .v (.bool ((decide (s29 < (a.Params.length : Int))))))]) (init := [0, 1, 2]) (fin := [0, 1, 2, 7]) (sps := [⟨[2], [], [3], [(.slot 35)]⟩, ⟨[0], [], [4], [(.slot 36)]⟩, ⟨[4, 0], [], [5], [(.slot 37)]⟩, ⟨[5], [], [6], [(.slot 38)]⟩, ⟨[3, 6], [], [7], [(.slot 39)]⟩]) (es' := [(_, _), (_, _), (_, _), (39, .v (.bool ((decide (s29 < (a.Params.length : Int))))))]) (by kernel_rfl) rfl rfl
      ⟨st_plain rfl (op_move _ _ _ _ rfl rfl),
      st_plain rfl (op_fieldAddr _ _ _ _ 2 0 _ Tryd.underlying26 rfl sz24 rfl rfl (by decide)),
      st_plain rfl (op_load _ _ _ _ _ _ Tryd.underlying24 rfl rfl rfl (Nat.le_of_ble_eq_true rfl) rfl rfl rfl),
      st_plain rfl (op_len_fl _ _ _ Tryd.underlying24 rfl (by decide) (flat_len T_Param.len _)),
      st_plain rfl (op_bin _ _ _ _ _ rfl rfl rfl),
      trivial⟩ ?_
     refine pt_then ?_
     refine ht_cond _ rfl (fun hb42 => ?_) (fun hb42 => ?_)
     ·have h := cond_t hb42 h
      refine ht_skip ?_
      refine pt_then ?_
      refine ht_seq ?_
      refine ht_block ?_
      refine ht_seq ?_
      refine ht_joinS h (fun (s43 : Bool) => [(2, .box 26 [.v (.int .i64 a.Kind), .v (.string a.Text), .v (.bool a.Path.Null), .v (.string a.Path.Local), .v (.string a.Path.Domain), .fl .shr 2 (List.flatten (List.map T_Param.enc a.Params))]), (3, .box 26 [.v (.int .i64 b.Kind), .v (.string b.Text), .v (.bool b.Path.Null), .v (.string b.Path.Local), .v (.string b.Path.Domain), .fl .shr 2 (List.flatten (List.map T_Param.enc b.Params))]), (5, .v (.int .i64 s29)), (69, .v (.bool s43))]) ?_ ?_
      ·rintro s43 h
       refine pt_then ?_
       refine ht_cond _ rfl (fun hb47 => ?_) (fun hb47 => ?_)
       ·have h := cond_t hb47 h
        refine ht_seq ?_
        refine ht_seqR hn (El := [_, _, _, _, (4, .v (.bool false))]) (init := [0, 1, 2, 3]) (fin := [4]) (sps := [⟨[], [], [4], [(.slot 4)]⟩]) (es' := [(4, .v (.bool false))]) (by kernel_rfl) rfl rfl
         ⟨st_plain rfl (op_assign _ _ _ _ rfl rfl),
         trivial⟩ ?_
        refine pt_then ?_
        refine ht_ret ?_
        refine pt_r_in ?_
        refine pt_r_then ?_
        refine pt_r_then ?_
        refine pt_r_in ?_
        refine pt_r_then ?_
        have h := hr38 _ (ho39 _ (Option.some.inj h).symm).symm
        obtain rfl := Option.some.inj h
        exact pt_ret hio rfl (.tmp _ _ .nil) rfl rfl
       ·have h := cond_f hb47 h
        refine ht_skip ?_
        refine pt_inb ?_
        refine pt_then ?_
        obtain ⟨v21, hv21, h⟩ := bind_some h
        refine ht_seqR hn (El := [_, _, _, _, (40, .v (.int .i64 s29)), (41, .v (.int .i64 v21)), (5, .v (.int .i64 v21))]) (init := [0, 1, 2, 3]) (fin := [0, 1, 6]) (sps := [⟨[2], [], [4], [(.slot 40)]⟩, ⟨[4], [], [5], [(.slot 41)]⟩, ⟨[5], [2], [6], [(.slot 5)]⟩]) (es' := [(_, _), (_, _), (5, .v (.int .i64 v21))]) (by kernel_rfl) rfl rfl
         ⟨st_plain rfl (op_move _ _ _ _ rfl rfl),
         st_plain rfl (op_bin _ _ _ _ _ rfl rfl (ibind (f := Value.int .i64) (Option.some.inj hv21))),
         st_plain rfl (LOp.drop [_] (op_assign _ _ _ _ rfl rfl)),
         trivial⟩ ?_
        exact pt_next _ (Option.some.inj h).symm rfl
      ·intro u44 h hl45 hr46
       obtain ⟨v8, hv8, h⟩ := bind_some h
       obtain ⟨v9, hv9, h⟩ := bind_some h
       obtain ⟨v10, hv10, h⟩ := bind_some h
       obtain ⟨v11, hv11, h⟩ := bind_some h
       refine cond_some h (fun hg6_13 h => ?_) (fun hg6_13 h => ?_)
       ·refine ht_anyR (by kernel_rfl) hn (El := (_ :: _ :: _ :: _ :: (42, .ptr 2 5) :: (43, .fl .shr 2 (List.flatten (List.map T_Param.enc a.Params))) :: (44, .v (.int .i64 s29)) :: (45, .eref (.slot 43) (v8 * 2)) :: (46, .eref (.slot 43) (v8 * 2 + 0)) :: (47, .v (.string v9.Key)) :: (48, .ptr 3 5) :: (49, .fl .shr 2 (List.flatten (List.map T_Param.enc b.Params))) :: (50, .v (.int .i64 s29)) :: (51, .eref (.slot 49) (v10 * 2)) :: (52, .eref (.slot 49) (v10 * 2 + 0)) :: (53, .v (.string v11.Key)) :: (54, .v (.bool ((!(v9.Key.toList == v11.Key.toList))))) :: (55, .v (.bool true)) :: (56, .v undef) :: (57, .v undef) :: (58, .v undef) :: (59, .v undef) :: (60, .v undef) :: (61, .v undef) :: (62, .v undef) :: (63, .v undef) :: (64, .v undef) :: (65, .v undef) :: (66, .v undef) :: (67, .v undef) :: (68, .v undef) :: (69, .v (.bool true)) :: [])) (init := [0, 1, 2, 3]) (fin := [0, 1, 2, 31]) (sps := (⟨[0], [], [4], [(.slot 42)]⟩ :: ⟨[4, 0], [], [5], [(.slot 43)]⟩ :: ⟨[2], [], [6], [(.slot 44)]⟩ :: ⟨[5, 6], [], [7], [(.slot 45)]⟩ :: ⟨[7, 5], [], [8], [(.slot 46)]⟩ :: ⟨[8, 5], [], [9], [(.slot 47)]⟩ :: ⟨[1], [], [10], [(.slot 48)]⟩ :: ⟨[10, 1], [], [11], [(.slot 49)]⟩ :: ⟨[2], [], [12], [(.slot 50)]⟩ :: ⟨[11, 12], [], [13], [(.slot 51)]⟩ :: ⟨[13, 11], [], [14], [(.slot 52)]⟩ :: ⟨[14, 11], [], [15], [(.slot 53)]⟩ :: ⟨[9, 15], [], [16], [(.slot 54)]⟩ :: ⟨[16], [], [17], [(.slot 55)]⟩ :: ⟨[17], [], [18], [(.slot 56)]⟩ :: ⟨[17], [], [19], [(.slot 57)]⟩ :: ⟨[17], [], [20], [(.slot 58)]⟩ :: ⟨[17], [], [21], [(.slot 59)]⟩ :: ⟨[17], [], [22], [(.slot 60)]⟩ :: ⟨[17], [], [23], [(.slot 61)]⟩ :: ⟨[17], [], [24], [(.slot 62)]⟩ :: ⟨[17], [], [25], [(.slot 63)]⟩ :: ⟨[17], [], [26], [(.slot 64)]⟩ :: ⟨[17], [], [27], [(.slot 65)]⟩ :: ⟨[17], [], [28], [(.slot 66)]⟩ :: ⟨[17], [], [29], [(.slot 67)]⟩ :: ⟨[17], [], [30], [(.slot 68)]⟩ :: ⟨[17], [], [31], [(.slot 69)]⟩ :: [])) (es' := [(_, _), (_, _), (_, _), (69, .v (.bool true))]) (by kernel_rfl) rfl rfl
         ⟨st_plain rfl (op_fieldAddr _ _ _ _ 2 0 _ Tryd.underlying26 rfl sz24 rfl rfl (by decide)),
         st_plain rfl (op_load _ _ _ _ _ _ Tryd.underlying24 rfl rfl rfl (Nat.le_of_ble_eq_true rfl) rfl rfl rfl),
         st_plain rfl (op_move _ _ _ _ rfl rfl),
         st_plain rfl (op_ix _ _ _ _ _ _ _ _ Tryd.underlying24 sz46 (by decide) rfl rfl rfl (ix_ok hv8).1 (flat_lt T_Param.len (ix_ok hv8).2) rfl),
         st_plain rfl (op_fieldAddr_e _ _ _ _ _ _ _ Tryd.underlying46 rfl sz9 rfl rfl rfl),
         st_plain rfl (op_load_e _ _ _ _ _ _ Tryd.underlying9 rfl rfl rfl (flat_cell T_Param.len hv9 rfl)),
         st_plain rfl (op_fieldAddr _ _ _ _ 3 0 _ Tryd.underlying26 rfl sz24 rfl rfl (by decide)),
         st_plain rfl (op_load _ _ _ _ _ _ Tryd.underlying24 rfl rfl rfl (Nat.le_of_ble_eq_true rfl) rfl rfl rfl),
         st_plain rfl (op_move _ _ _ _ rfl rfl),
         st_plain rfl (op_ix _ _ _ _ _ _ _ _ Tryd.underlying24 sz46 (by decide) rfl rfl rfl (ix_ok hv10).1 (flat_lt T_Param.len (ix_ok hv10).2) rfl),
         st_plain rfl (op_fieldAddr_e _ _ _ _ _ _ _ Tryd.underlying46 rfl sz9 rfl rfl rfl),
         st_plain rfl (op_load_e _ _ _ _ _ _ Tryd.underlying9 rfl rfl rfl (flat_cell T_Param.len hv11 rfl)),
         st_plain rfl (op_bin _ _ _ _ _ rfl rfl rfl),
         st_plain rfl (op_move _ _ _ _ (congrArg (fun b => AV.v (Value.bool b)) hg6_13) rfl),
         st_skip 13 55 _ false rfl rfl rfl rfl (List.Mem.head _),
         st_skip 13 55 _ false rfl rfl rfl rfl (List.Mem.head _),
         st_skip 13 55 _ false rfl rfl rfl rfl (List.Mem.head _),
         st_skip 13 55 _ false rfl rfl rfl rfl (List.Mem.head _),
         st_skip 13 55 _ false rfl rfl rfl rfl (List.Mem.head _),
         st_skip 13 55 _ false rfl rfl rfl rfl (List.Mem.head _),
         st_skip 13 55 _ false rfl rfl rfl rfl (List.Mem.head _),
         st_skip 13 55 _ false rfl rfl rfl rfl (List.Mem.head _),
         st_skip 13 55 _ false rfl rfl rfl rfl (List.Mem.head _),
         st_skip 13 55 _ false rfl rfl rfl rfl (List.Mem.head _),
         st_skip 13 55 _ false rfl rfl rfl rfl (List.Mem.head _),
         st_skip 13 55 _ false rfl rfl rfl rfl (List.Mem.head _),
         st_skip 13 55 _ false rfl rfl rfl rfl (List.Mem.head _),
         st_plain rfl (op_pick _ _ true _ rfl rfl),
         trivial⟩ ?_
        exact hl45 _ (Option.some.inj h).symm
       ·obtain ⟨v12, hv12, h⟩ := bind_some h
        obtain ⟨v13, hv13, h⟩ := bind_some h
        obtain ⟨v14, hv14, h⟩ := bind_some h
        obtain ⟨v15, hv15, h⟩ := bind_some h
        refine ht_anyR (by kernel_rfl) hn (El := (_ :: _ :: _ :: _ :: (42, .ptr 2 5) :: (43, .fl .shr 2 (List.flatten (List.map T_Param.enc a.Params))) :: (44, .v (.int .i64 s29)) :: (45, .eref (.slot 43) (v8 * 2)) :: (46, .eref (.slot 43) (v8 * 2 + 0)) :: (47, .v (.string v9.Key)) :: (48, .ptr 3 5) :: (49, .fl .shr 2 (List.flatten (List.map T_Param.enc b.Params))) :: (50, .v (.int .i64 s29)) :: (51, .eref (.slot 49) (v10 * 2)) :: (52, .eref (.slot 49) (v10 * 2 + 0)) :: (53, .v (.string v11.Key)) :: (54, .v (.bool ((!(v9.Key.toList == v11.Key.toList))))) :: (55, .v (.bool false)) :: (56, .ptr 2 5) :: (57, .fl .shr 2 (List.flatten (List.map T_Param.enc a.Params))) :: (58, .v (.int .i64 s29)) :: (59, .eref (.slot 57) (v12 * 2)) :: (60, .eref (.slot 57) (v12 * 2 + 1)) :: (61, .v (.string v13.Val)) :: (62, .ptr 3 5) :: (63, .fl .shr 2 (List.flatten (List.map T_Param.enc b.Params))) :: (64, .v (.int .i64 s29)) :: (65, .eref (.slot 63) (v14 * 2)) :: (66, .eref (.slot 63) (v14 * 2 + 1)) :: (67, .v (.string v15.Val)) :: (68, .v (.bool ((!(v13.Val.toList == v15.Val.toList))))) :: (69, .v (.bool ((!(v13.Val.toList == v15.Val.toList))))) :: [])) (init := [0, 1, 2, 3]) (fin := [0, 1, 2, 31]) (sps := (⟨[0], [], [4], [(.slot 42)]⟩ :: ⟨[4, 0], [], [5], [(.slot 43)]⟩ :: ⟨[2], [], [6], [(.slot 44)]⟩ :: ⟨[5, 6], [], [7], [(.slot 45)]⟩ :: ⟨[7, 5], [], [8], [(.slot 46)]⟩ :: ⟨[8, 5], [], [9], [(.slot 47)]⟩ :: ⟨[1], [], [10], [(.slot 48)]⟩ :: ⟨[10, 1], [], [11], [(.slot 49)]⟩ :: ⟨[2], [], [12], [(.slot 50)]⟩ :: ⟨[11, 12], [], [13], [(.slot 51)]⟩ :: ⟨[13, 11], [], [14], [(.slot 52)]⟩ :: ⟨[14, 11], [], [15], [(.slot 53)]⟩ :: ⟨[9, 15], [], [16], [(.slot 54)]⟩ :: ⟨[16], [], [17], [(.slot 55)]⟩ :: ⟨[17, 0], [], [18], [(.slot 56)]⟩ :: ⟨[17, 18, 0], [], [19], [(.slot 57)]⟩ :: ⟨[17, 2], [], [20], [(.slot 58)]⟩ :: ⟨[17, 19, 20], [], [21], [(.slot 59)]⟩ :: ⟨[17, 21, 19], [], [22], [(.slot 60)]⟩ :: ⟨[17, 22, 19], [], [23], [(.slot 61)]⟩ :: ⟨[17, 1], [], [24], [(.slot 62)]⟩ :: ⟨[17, 24, 1], [], [25], [(.slot 63)]⟩ :: ⟨[17, 2], [], [26], [(.slot 64)]⟩ :: ⟨[17, 25, 26], [], [27], [(.slot 65)]⟩ :: ⟨[17, 27, 25], [], [28], [(.slot 66)]⟩ :: ⟨[17, 28, 25], [], [29], [(.slot 67)]⟩ :: ⟨[17, 23, 29], [], [30], [(.slot 68)]⟩ :: ⟨[17, 30], [], [31], [(.slot 69)]⟩ :: [])) (es' := [(_, _), (_, _), (_, _), (69, .v (.bool ((!(v13.Val.toList == v15.Val.toList)))))]) (by kernel_rfl) rfl rfl
         ⟨st_plain rfl (op_fieldAddr _ _ _ _ 2 0 _ Tryd.underlying26 rfl sz24 rfl rfl (by decide)),
         st_plain rfl (op_load _ _ _ _ _ _ Tryd.underlying24 rfl rfl rfl (Nat.le_of_ble_eq_true rfl) rfl rfl rfl),
         st_plain rfl (op_move _ _ _ _ rfl rfl),
         st_plain rfl (op_ix _ _ _ _ _ _ _ _ Tryd.underlying24 sz46 (by decide) rfl rfl rfl (ix_ok hv8).1 (flat_lt T_Param.len (ix_ok hv8).2) rfl),
         st_plain rfl (op_fieldAddr_e _ _ _ _ _ _ _ Tryd.underlying46 rfl sz9 rfl rfl rfl),
         st_plain rfl (op_load_e _ _ _ _ _ _ Tryd.underlying9 rfl rfl rfl (flat_cell T_Param.len hv9 rfl)),
         st_plain rfl (op_fieldAddr _ _ _ _ 3 0 _ Tryd.underlying26 rfl sz24 rfl rfl (by decide)),
         st_plain rfl (op_load _ _ _ _ _ _ Tryd.underlying24 rfl rfl rfl (Nat.le_of_ble_eq_true rfl) rfl rfl rfl),
         st_plain rfl (op_move _ _ _ _ rfl rfl),
         st_plain rfl (op_ix _ _ _ _ _ _ _ _ Tryd.underlying24 sz46 (by decide) rfl rfl rfl (ix_ok hv10).1 (flat_lt T_Param.len (ix_ok hv10).2) rfl),
         st_plain rfl (op_fieldAddr_e _ _ _ _ _ _ _ Tryd.underlying46 rfl sz9 rfl rfl rfl),
         st_plain rfl (op_load_e _ _ _ _ _ _ Tryd.underlying9 rfl rfl rfl (flat_cell T_Param.len hv11 rfl)),
         st_plain rfl (op_bin _ _ _ _ _ rfl rfl rfl),
         st_plain rfl (op_move _ _ _ _ (congrArg (fun b => AV.v (Value.bool b)) hg6_13) rfl),
         st_run 13 55 false rfl rfl rfl (List.Mem.head _) (op_fieldAddr _ _ _ _ 2 0 _ Tryd.underlying26 rfl sz24 rfl rfl (by decide)),
         st_run 13 55 false rfl rfl rfl (List.Mem.head _) (op_load _ _ _ _ _ _ Tryd.underlying24 rfl rfl rfl (Nat.le_of_ble_eq_true rfl) rfl rfl rfl),
         st_run 13 55 false rfl rfl rfl (List.Mem.head _) (op_move _ _ _ _ rfl rfl),
         st_run 13 55 false rfl rfl rfl (List.Mem.head _) (op_ix _ _ _ _ _ _ _ _ Tryd.underlying24 sz46 (by decide) rfl rfl rfl (ix_ok hv12).1 (flat_lt T_Param.len (ix_ok hv12).2) rfl),
         st_run 13 55 false rfl rfl rfl (List.Mem.head _) (op_fieldAddr_e _ _ _ _ _ _ _ Tryd.underlying46 rfl sz9 rfl rfl rfl),
         st_run 13 55 false rfl rfl rfl (List.Mem.head _) (op_load_e _ _ _ _ _ _ Tryd.underlying9 rfl rfl rfl (flat_cell T_Param.len hv13 rfl)),
         st_run 13 55 false rfl rfl rfl (List.Mem.head _) (op_fieldAddr _ _ _ _ 3 0 _ Tryd.underlying26 rfl sz24 rfl rfl (by decide)),
         st_run 13 55 false rfl rfl rfl (List.Mem.head _) (op_load _ _ _ _ _ _ Tryd.underlying24 rfl rfl rfl (Nat.le_of_ble_eq_true rfl) rfl rfl rfl),
         st_run 13 55 false rfl rfl rfl (List.Mem.head _) (op_move _ _ _ _ rfl rfl),
         st_run 13 55 false rfl rfl rfl (List.Mem.head _) (op_ix _ _ _ _ _ _ _ _ Tryd.underlying24 sz46 (by decide) rfl rfl rfl (ix_ok hv14).1 (flat_lt T_Param.len (ix_ok hv14).2) rfl),
         st_run 13 55 false rfl rfl rfl (List.Mem.head _) (op_fieldAddr_e _ _ _ _ _ _ _ Tryd.underlying46 rfl sz9 rfl rfl rfl),
         st_run 13 55 false rfl rfl rfl (List.Mem.head _) (op_load_e _ _ _ _ _ _ Tryd.underlying9 rfl rfl rfl (flat_cell T_Param.len hv15 rfl)),
         st_run 13 55 false rfl rfl rfl (List.Mem.head _) (op_bin _ _ _ _ _ rfl rfl rfl),
         st_plain rfl (op_pick _ _ false _ rfl rfl),
         trivial⟩ ?_
        exact hl45 _ (Option.some.inj h).symm
     ·have h := cond_f hb42 h
      refine ht_exit ?_
      refine pt_x_then ?_
      refine pt_x_then ?_
      refine pt_x_in ?_
      refine pt_pick [] (by kernel_rfl) (es' := []) rfl ?_
      exact hl37 _ (ho39 _ (Option.some.inj h).symm).symm
  ·intro u3 h hl4 hr5
   refine cond_some h (fun hg1_5 h => ?_) (fun hg1_5 h => ?_)
   ·refine ht_seqR hn (El := (_ :: _ :: (6, .ptr 2 0) :: (7, .v (.int .i64 a.Kind)) :: (8, .ptr 3 0) :: (9, .v (.int .i64 b.Kind)) :: (10, .v (.bool (a.Kind != b.Kind))) :: (11, .v (.bool true)) :: (12, .v undef) :: (13, .v undef) :: (14, .v undef) :: (15, .v undef) :: (16, .v undef) :: (17, .v (.bool true)) :: (18, .v (.bool true)) :: (19, .v undef) :: (20, .v undef) :: (21, .v undef) :: (22, .v undef) :: (23, .v undef) :: (24, .v undef) :: (25, .v (.bool true)) :: (26, .v (.bool true)) :: (27, .v undef) :: (28, .v undef) :: (29, .v undef) :: (30, .v undef) :: (31, .v undef) :: (32, .v undef) :: (33, .v undef) :: (34, .v (.bool true)) :: [])) (init := [0, 1]) (fin := [0, 1, 30]) (sps := (⟨[0], [], [2], [(.slot 6)]⟩ :: ⟨[2, 0], [], [3], [(.slot 7)]⟩ :: ⟨[1], [], [4], [(.slot 8)]⟩ :: ⟨[4, 1], [], [5], [(.slot 9)]⟩ :: ⟨[3, 5], [], [6], [(.slot 10)]⟩ :: ⟨[6], [], [7], [(.slot 11)]⟩ :: ⟨[7], [], [8], [(.slot 12)]⟩ :: ⟨[7], [], [9], [(.slot 13)]⟩ :: ⟨[7], [], [10], [(.slot 14)]⟩ :: ⟨[7], [], [11], [(.slot 15)]⟩ :: ⟨[7], [], [12], [(.slot 16)]⟩ :: ⟨[7], [], [13], [(.slot 17)]⟩ :: ⟨[13], [], [14], [(.slot 18)]⟩ :: ⟨[14], [], [15], [(.slot 19)]⟩ :: ⟨[14], [], [16], [(.slot 20)]⟩ :: ⟨[14], [], [17], [(.slot 21)]⟩ :: ⟨[14], [], [18], [(.slot 22)]⟩ :: ⟨[14], [], [19], [(.slot 23)]⟩ :: ⟨[14], [], [20], [(.slot 24)]⟩ :: ⟨[14], [], [21], [(.slot 25)]⟩ :: ⟨[21], [], [22], [(.slot 26)]⟩ :: ⟨[22], [], [23], [(.slot 27)]⟩ :: ⟨[22], [], [24], [(.slot 28)]⟩ :: ⟨[22], [], [25], [(.slot 29)]⟩ :: ⟨[22], [], [26], [(.slot 30)]⟩ :: ⟨[22], [], [27], [(.slot 31)]⟩ :: ⟨[22], [], [28], [(.slot 32)]⟩ :: ⟨[22], [], [29], [(.slot 33)]⟩ :: ⟨[22], [], [30], [(.slot 34)]⟩ :: [])) (es' := [(_, _), (_, _), (34, .v (.bool true))]) (by kernel_rfl) rfl rfl
     ⟨st_plain rfl (op_fieldAddr _ _ _ _ 2 0 _ Tryd.underlying26 rfl sz3 rfl rfl (by decide)),
     st_plain rfl (op_load _ _ _ _ _ _ Tryd.underlying3 rfl rfl rfl (Nat.le_of_ble_eq_true rfl) rfl rfl rfl),
     st_plain rfl (op_fieldAddr _ _ _ _ 3 0 _ Tryd.underlying26 rfl sz3 rfl rfl (by decide)),
     st_plain rfl (op_load _ _ _ _ _ _ Tryd.underlying3 rfl rfl rfl (Nat.le_of_ble_eq_true rfl) rfl rfl rfl),
     st_plain rfl (op_bin _ _ _ _ _ rfl rfl rfl),
     st_plain rfl (op_move _ _ _ _ (congrArg (fun b => AV.v (Value.bool b)) hg1_5) rfl),
     st_skip 5 11 _ false rfl rfl rfl rfl (List.Mem.head _),
     st_skip 5 11 _ false rfl rfl rfl rfl (List.Mem.head _),
     st_skip 5 11 _ false rfl rfl rfl rfl (List.Mem.head _),
     st_skip 5 11 _ false rfl rfl rfl rfl (List.Mem.head _),
     st_skip 5 11 _ false rfl rfl rfl rfl (List.Mem.head _),
     st_plain rfl (op_pick _ _ true _ rfl rfl),
     st_plain rfl (op_move _ _ _ _ rfl rfl),
     st_skip 12 18 _ false rfl rfl rfl rfl (List.Mem.head _),
     st_skip 12 18 _ false rfl rfl rfl rfl (List.Mem.head _),
     st_skip 12 18 _ false rfl rfl rfl rfl (List.Mem.head _),
     st_skip 12 18 _ false rfl rfl rfl rfl (List.Mem.head _),
     st_skip 12 18 _ false rfl rfl rfl rfl (List.Mem.head _),
     st_skip 12 18 _ false rfl rfl rfl rfl (List.Mem.head _),
     st_plain rfl (op_pick _ _ true _ rfl rfl),
     st_plain rfl (op_move _ _ _ _ rfl rfl),
     st_skip 20 26 _ false rfl rfl rfl rfl (List.Mem.head _),
     st_skip 20 26 _ false rfl rfl rfl rfl (List.Mem.head _),
     st_skip 20 26 _ false rfl rfl rfl rfl (List.Mem.head _),
     st_skip 20 26 _ false rfl rfl rfl rfl (List.Mem.head _),
     st_skip 20 26 _ false rfl rfl rfl rfl (List.Mem.head _),
     st_skip 20 26 _ false rfl rfl rfl rfl (List.Mem.head _),
     st_skip 20 26 _ false rfl rfl rfl rfl (List.Mem.head _),
     st_plain rfl (op_pick _ _ true _ rfl rfl),
     trivial⟩ ?_
    exact hl4 _ (Option.some.inj h).symm
   ·refine cond_some h (fun hg1_12 h => ?_) (fun hg1_12 h => ?_)
    ·refine ht_seqR hn (El := (_ :: _ :: (6, .ptr 2 0) :: (7, .v (.int .i64 a.Kind)) :: (8, .ptr 3 0) :: (9, .v (.int .i64 b.Kind)) :: (10, .v (.bool (a.Kind != b.Kind))) :: (11, .v (.bool false)) :: (12, .ptr 2 1) :: (13, .v (.string a.Text)) :: (14, .ptr 3 1) :: (15, .v (.string b.Text)) :: (16, .v (.bool ((!(a.Text.toList == b.Text.toList))))) :: (17, .v (.bool ((!(a.Text.toList == b.Text.toList))))) :: (18, .v (.bool true)) :: (19, .v undef) :: (20, .v undef) :: (21, .v undef) :: (22, .v undef) :: (23, .v undef) :: (24, .v undef) :: (25, .v (.bool true)) :: (26, .v (.bool true)) :: (27, .v undef) :: (28, .v undef) :: (29, .v undef) :: (30, .v undef) :: (31, .v undef) :: (32, .v undef) :: (33, .v undef) :: (34, .v (.bool true)) :: [])) (init := [0, 1]) (fin := [0, 1, 30]) (sps := (⟨[0], [], [2], [(.slot 6)]⟩ :: ⟨[2, 0], [], [3], [(.slot 7)]⟩ :: ⟨[1], [], [4], [(.slot 8)]⟩ :: ⟨[4, 1], [], [5], [(.slot 9)]⟩ :: ⟨[3, 5], [], [6], [(.slot 10)]⟩ :: ⟨[6], [], [7], [(.slot 11)]⟩ :: ⟨[7, 0], [], [8], [(.slot 12)]⟩ :: ⟨[7, 8, 0], [], [9], [(.slot 13)]⟩ :: ⟨[7, 1], [], [10], [(.slot 14)]⟩ :: ⟨[7, 10, 1], [], [11], [(.slot 15)]⟩ :: ⟨[7, 9, 11], [], [12], [(.slot 16)]⟩ :: ⟨[7, 12], [], [13], [(.slot 17)]⟩ :: ⟨[13], [], [14], [(.slot 18)]⟩ :: ⟨[14], [], [15], [(.slot 19)]⟩ :: ⟨[14], [], [16], [(.slot 20)]⟩ :: ⟨[14], [], [17], [(.slot 21)]⟩ :: ⟨[14], [], [18], [(.slot 22)]⟩ :: ⟨[14], [], [19], [(.slot 23)]⟩ :: ⟨[14], [], [20], [(.slot 24)]⟩ :: ⟨[14], [], [21], [(.slot 25)]⟩ :: ⟨[21], [], [22], [(.slot 26)]⟩ :: ⟨[22], [], [23], [(.slot 27)]⟩ :: ⟨[22], [], [24], [(.slot 28)]⟩ :: ⟨[22], [], [25], [(.slot 29)]⟩ :: ⟨[22], [], [26], [(.slot 30)]⟩ :: ⟨[22], [], [27], [(.slot 31)]⟩ :: ⟨[22], [], [28], [(.slot 32)]⟩ :: ⟨[22], [], [29], [(.slot 33)]⟩ :: ⟨[22], [], [30], [(.slot 34)]⟩ :: [])) (es' := [(_, _), (_, _), (34, .v (.bool true))]) (by kernel_rfl) rfl rfl
      ⟨st_plain rfl (op_fieldAddr _ _ _ _ 2 0 _ Tryd.underlying26 rfl sz3 rfl rfl (by decide)),
      st_plain rfl (op_load _ _ _ _ _ _ Tryd.underlying3 rfl rfl rfl (Nat.le_of_ble_eq_true rfl) rfl rfl rfl),
      st_plain rfl (op_fieldAddr _ _ _ _ 3 0 _ Tryd.underlying26 rfl sz3 rfl rfl (by decide)),
      st_plain rfl (op_load _ _ _ _ _ _ Tryd.underlying3 rfl rfl rfl (Nat.le_of_ble_eq_true rfl) rfl rfl rfl),
      st_plain rfl (op_bin _ _ _ _ _ rfl rfl rfl),
      st_plain rfl (op_move _ _ _ _ (congrArg (fun b => AV.v (Value.bool b)) hg1_5) rfl),
      st_run 5 11 false rfl rfl rfl (List.Mem.head _) (op_fieldAddr _ _ _ _ 2 0 _ Tryd.underlying26 rfl sz9 rfl rfl (by decide)),
      st_run 5 11 false rfl rfl rfl (List.Mem.head _) (op_load _ _ _ _ _ _ Tryd.underlying9 rfl rfl rfl (Nat.le_of_ble_eq_true rfl) rfl rfl rfl),
      st_run 5 11 false rfl rfl rfl (List.Mem.head _) (op_fieldAddr _ _ _ _ 3 0 _ Tryd.underlying26 rfl sz9 rfl rfl (by decide)),
      st_run 5 11 false rfl rfl rfl (List.Mem.head _) (op_load _ _ _ _ _ _ Tryd.underlying9 rfl rfl rfl (Nat.le_of_ble_eq_true rfl) rfl rfl rfl),
      st_run 5 11 false rfl rfl rfl (List.Mem.head _) (op_bin _ _ _ _ _ rfl rfl rfl),
      st_plain rfl (op_pick _ _ false _ rfl rfl),
      st_plain rfl (op_move _ _ _ _ (congrArg (fun b => AV.v (Value.bool b)) hg1_12) rfl),
      st_skip 12 18 _ false rfl rfl rfl rfl (List.Mem.head _),
      st_skip 12 18 _ false rfl rfl rfl rfl (List.Mem.head _),
      st_skip 12 18 _ false rfl rfl rfl rfl (List.Mem.head _),
      st_skip 12 18 _ false rfl rfl rfl rfl (List.Mem.head _),
      st_skip 12 18 _ false rfl rfl rfl rfl (List.Mem.head _),
      st_skip 12 18 _ false rfl rfl rfl rfl (List.Mem.head _),
      st_plain rfl (op_pick _ _ true _ rfl rfl),
      st_plain rfl (op_move _ _ _ _ rfl rfl),
      st_skip 20 26 _ false rfl rfl rfl rfl (List.Mem.head _),
      st_skip 20 26 _ false rfl rfl rfl rfl (List.Mem.head _),
      st_skip 20 26 _ false rfl rfl rfl rfl (List.Mem.head _),
      st_skip 20 26 _ false rfl rfl rfl rfl (List.Mem.head _),
      st_skip 20 26 _ false rfl rfl rfl rfl (List.Mem.head _),
      st_skip 20 26 _ false rfl rfl rfl rfl (List.Mem.head _),
      st_skip 20 26 _ false rfl rfl rfl rfl (List.Mem.head _),
      st_plain rfl (op_pick _ _ true _ rfl rfl),
      trivial⟩ ?_
     exact hl4 _ (Option.some.inj h).symm
    ·obtain ⟨v1, hv1, h⟩ := bind_some h
     refine cond_some h (fun hg1_20 h => ?_) (fun hg1_20 h => ?_)
     ·refine ht_seqR hn (El := (_ :: _ :: (6, .ptr 2 0) :: (7, .v (.int .i64 a.Kind)) :: (8, .ptr 3 0) :: (9, .v (.int .i64 b.Kind)) :: (10, .v (.bool (a.Kind != b.Kind))) :: (11, .v (.bool false)) :: (12, .ptr 2 1) :: (13, .v (.string a.Text)) :: (14, .ptr 3 1) :: (15, .v (.string b.Text)) :: (16, .v (.bool ((!(a.Text.toList == b.Text.toList))))) :: (17, .v (.bool ((!(a.Text.toList == b.Text.toList))))) :: (18, .v (.bool false)) :: (19, .ptr 2 2) :: (20, .agg [.v (.bool a.Path.Null), .v (.string a.Path.Local), .v (.string a.Path.Domain)]) :: (21, .ptr 3 2) :: (22, .agg [.v (.bool b.Path.Null), .v (.string b.Path.Local), .v (.string b.Path.Domain)]) :: (23, .v (.bool v1)) :: (24, .v (.bool (!v1))) :: (25, .v (.bool (!v1))) :: (26, .v (.bool true)) :: (27, .v undef) :: (28, .v undef) :: (29, .v undef) :: (30, .v undef) :: (31, .v undef) :: (32, .v undef) :: (33, .v undef) :: (34, .v (.bool true)) :: [])) (init := [0, 1]) (fin := [0, 1, 30]) (sps := (⟨[0], [], [2], [(.slot 6)]⟩ :: ⟨[2, 0], [], [3], [(.slot 7)]⟩ :: ⟨[1], [], [4], [(.slot 8)]⟩ :: ⟨[4, 1], [], [5], [(.slot 9)]⟩ :: ⟨[3, 5], [], [6], [(.slot 10)]⟩ :: ⟨[6], [], [7], [(.slot 11)]⟩ :: ⟨[7, 0], [], [8], [(.slot 12)]⟩ :: ⟨[7, 8, 0], [], [9], [(.slot 13)]⟩ :: ⟨[7, 1], [], [10], [(.slot 14)]⟩ :: ⟨[7, 10, 1], [], [11], [(.slot 15)]⟩ :: ⟨[7, 9, 11], [], [12], [(.slot 16)]⟩ :: ⟨[7, 12], [], [13], [(.slot 17)]⟩ :: ⟨[13], [], [14], [(.slot 18)]⟩ :: ⟨[14, 0], [], [15], [(.slot 19)]⟩ :: ⟨[14, 15, 0], [], [16], [(.slot 20)]⟩ :: ⟨[14, 1], [], [17], [(.slot 21)]⟩ :: ⟨[14, 17, 1], [], [18], [(.slot 22)]⟩ :: ⟨[14, 16, 18], [], [19], [(.slot 23)]⟩ :: ⟨[14, 19], [], [20], [(.slot 24)]⟩ :: ⟨[14, 20], [], [21], [(.slot 25)]⟩ :: ⟨[21], [], [22], [(.slot 26)]⟩ :: ⟨[22], [], [23], [(.slot 27)]⟩ :: ⟨[22], [], [24], [(.slot 28)]⟩ :: ⟨[22], [], [25], [(.slot 29)]⟩ :: ⟨[22], [], [26], [(.slot 30)]⟩ :: ⟨[22], [], [27], [(.slot 31)]⟩ :: ⟨[22], [], [28], [(.slot 32)]⟩ :: ⟨[22], [], [29], [(.slot 33)]⟩ :: ⟨[22], [], [30], [(.slot 34)]⟩ :: [])) (es' := [(_, _), (_, _), (34, .v (.bool true))]) (by kernel_rfl) rfl rfl
       ⟨st_plain rfl (op_fieldAddr _ _ _ _ 2 0 _ Tryd.underlying26 rfl sz3 rfl rfl (by decide)),
       st_plain rfl (op_load _ _ _ _ _ _ Tryd.underlying3 rfl rfl rfl (Nat.le_of_ble_eq_true rfl) rfl rfl rfl),
       st_plain rfl (op_fieldAddr _ _ _ _ 3 0 _ Tryd.underlying26 rfl sz3 rfl rfl (by decide)),
       st_plain rfl (op_load _ _ _ _ _ _ Tryd.underlying3 rfl rfl rfl (Nat.le_of_ble_eq_true rfl) rfl rfl rfl),
       st_plain rfl (op_bin _ _ _ _ _ rfl rfl rfl),
       st_plain rfl (op_move _ _ _ _ (congrArg (fun b => AV.v (Value.bool b)) hg1_5) rfl),
       st_run 5 11 false rfl rfl rfl (List.Mem.head _) (op_fieldAddr _ _ _ _ 2 0 _ Tryd.underlying26 rfl sz9 rfl rfl (by decide)),
       st_run 5 11 false rfl rfl rfl (List.Mem.head _) (op_load _ _ _ _ _ _ Tryd.underlying9 rfl rfl rfl (Nat.le_of_ble_eq_true rfl) rfl rfl rfl),
       st_run 5 11 false rfl rfl rfl (List.Mem.head _) (op_fieldAddr _ _ _ _ 3 0 _ Tryd.underlying26 rfl sz9 rfl rfl (by decide)),
       st_run 5 11 false rfl rfl rfl (List.Mem.head _) (op_load _ _ _ _ _ _ Tryd.underlying9 rfl rfl rfl (Nat.le_of_ble_eq_true rfl) rfl rfl rfl),
       st_run 5 11 false rfl rfl rfl (List.Mem.head _) (op_bin _ _ _ _ _ rfl rfl rfl),
       st_plain rfl (op_pick _ _ false _ rfl rfl),
       st_plain rfl (op_move _ _ _ _ (congrArg (fun b => AV.v (Value.bool b)) hg1_12) rfl),
       st_run 12 18 false rfl rfl rfl (List.Mem.head _) (op_fieldAddr _ _ _ _ 2 0 _ Tryd.underlying26 rfl sz23 rfl rfl (by decide)),
       st_run 12 18 false rfl rfl rfl (List.Mem.head _) (op_loadA _ _ _ _ _ _ _ Tryd.underlying23 rfl sz23 rfl rfl (Nat.le_of_ble_eq_true rfl) rfl rfl),
       st_run 12 18 false rfl rfl rfl (List.Mem.head _) (op_fieldAddr _ _ _ _ 3 0 _ Tryd.underlying26 rfl sz23 rfl rfl (by decide)),
       st_run 12 18 false rfl rfl rfl (List.Mem.head _) (op_loadA _ _ _ _ _ _ _ Tryd.underlying23 rfl sz23 rfl rfl (Nat.le_of_ble_eq_true rfl) rfl rfl),
       st_run 12 18 false rfl rfl rfl (List.Mem.head _) (op_call _ _ 20 _ _ rfl Tryd.call20 rfl (ok_wherrykeep_Path (T_Path.mk a.Path.Null a.Path.Local a.Path.Domain) (T_Path.mk b.Path.Null b.Path.Local b.Path.Domain) _ hv1) rfl rfl),
       st_run 12 18 false rfl rfl rfl (List.Mem.head _) (op_un _ _ _ _ rfl rfl),
       st_plain rfl (op_pick _ _ false _ rfl rfl),
       st_plain rfl (op_move _ _ _ _ (congrArg (fun b => AV.v (Value.bool b)) hg1_20) rfl),
       st_skip 20 26 _ false rfl rfl rfl rfl (List.Mem.head _),
       st_skip 20 26 _ false rfl rfl rfl rfl (List.Mem.head _),
       st_skip 20 26 _ false rfl rfl rfl rfl (List.Mem.head _),
       st_skip 20 26 _ false rfl rfl rfl rfl (List.Mem.head _),
       st_skip 20 26 _ false rfl rfl rfl rfl (List.Mem.head _),
       st_skip 20 26 _ false rfl rfl rfl rfl (List.Mem.head _),
       st_skip 20 26 _ false rfl rfl rfl rfl (List.Mem.head _),
       st_plain rfl (op_pick _ _ true _ rfl rfl),
       trivial⟩ ?_
      exact hl4 _ (Option.some.inj h).symm
     ·refine ht_seqR hn (El := (_ :: _ :: (6, .ptr 2 0) :: (7, .v (.int .i64 a.Kind)) :: (8, .ptr 3 0) :: (9, .v (.int .i64 b.Kind)) :: (10, .v (.bool (a.Kind != b.Kind))) :: (11, .v (.bool false)) :: (12, .ptr 2 1) :: (13, .v (.string a.Text)) :: (14, .ptr 3 1) :: (15, .v (.string b.Text)) :: (16, .v (.bool ((!(a.Text.toList == b.Text.toList))))) :: (17, .v (.bool ((!(a.Text.toList == b.Text.toList))))) :: (18, .v (.bool false)) :: (19, .ptr 2 2) :: (20, .agg [.v (.bool a.Path.Null), .v (.string a.Path.Local), .v (.string a.Path.Domain)]) :: (21, .ptr 3 2) :: (22, .agg [.v (.bool b.Path.Null), .v (.string b.Path.Local), .v (.string b.Path.Domain)]) :: (23, .v (.bool v1)) :: (24, .v (.bool (!v1))) :: (25, .v (.bool (!v1))) :: (26, .v (.bool false)) :: (27, .ptr 2 5) :: (28, .fl .shr 2 (List.flatten (List.map T_Param.enc a.Params))) :: (29, .v (.int .i64 (a.Params.length : Int))) :: (30, .ptr 3 5) :: (31, .fl .shr 2 (List.flatten (List.map T_Param.enc b.Params))) :: (32, .v (.int .i64 (b.Params.length : Int))) :: (33, .v (.bool (((a.Params.length : Int) != (b.Params.length : Int))))) :: (34, .v (.bool (((a.Params.length : Int) != (b.Params.length : Int))))) :: [])) (init := [0, 1]) (fin := [0, 1, 30]) (sps := (⟨[0], [], [2], [(.slot 6)]⟩ :: ⟨[2, 0], [], [3], [(.slot 7)]⟩ :: ⟨[1], [], [4], [(.slot 8)]⟩ :: ⟨[4, 1], [], [5], [(.slot 9)]⟩ :: ⟨[3, 5], [], [6], [(.slot 10)]⟩ :: ⟨[6], [], [7], [(.slot 11)]⟩ :: ⟨[7, 0], [], [8], [(.slot 12)]⟩ :: ⟨[7, 8, 0], [], [9], [(.slot 13)]⟩ :: ⟨[7, 1], [], [10], [(.slot 14)]⟩ :: ⟨[7, 10, 1], [], [11], [(.slot 15)]⟩ :: ⟨[7, 9, 11], [], [12], [(.slot 16)]⟩ :: ⟨[7, 12], [], [13], [(.slot 17)]⟩ :: ⟨[13], [], [14], [(.slot 18)]⟩ :: ⟨[14, 0], [], [15], [(.slot 19)]⟩ :: ⟨[14, 15, 0], [], [16], [(.slot 20)]⟩ :: ⟨[14, 1], [], [17], [(.slot 21)]⟩ :: ⟨[14, 17, 1], [], [18], [(.slot 22)]⟩ :: ⟨[14, 16, 18], [], [19], [(.slot 23)]⟩ :: ⟨[14, 19], [], [20], [(.slot 24)]⟩ :: ⟨[14, 20], [], [21], [(.slot 25)]⟩ :: ⟨[21], [], [22], [(.slot 26)]⟩ :: ⟨[22, 0], [], [23], [(.slot 27)]⟩ :: ⟨[22, 23, 0], [], [24], [(.slot 28)]⟩ :: ⟨[22, 24], [], [25], [(.slot 29)]⟩ :: ⟨[22, 1], [], [26], [(.slot 30)]⟩ :: ⟨[22, 26, 1], [], [27], [(.slot 31)]⟩ :: ⟨[22, 27], [], [28], [(.slot 32)]⟩ :: ⟨[22, 25, 28], [], [29], [(.slot 33)]⟩ :: ⟨[22, 29], [], [30], [(.slot 34)]⟩ :: [])) (es' := [(_, _), (_, _), (34, .v (.bool (((a.Params.length : Int) != (b.Params.length : Int)))))]) (by kernel_rfl) rfl rfl
       ⟨st_plain rfl (op_fieldAddr _ _ _ _ 2 0 _ Tryd.underlying26 rfl sz3 rfl rfl (by decide)),
       st_plain rfl (op_load _ _ _ _ _ _ Tryd.underlying3 rfl rfl rfl (Nat.le_of_ble_eq_true rfl) rfl rfl rfl),
       st_plain rfl (op_fieldAddr _ _ _ _ 3 0 _ Tryd.underlying26 rfl sz3 rfl rfl (by decide)),
       st_plain rfl (op_load _ _ _ _ _ _ Tryd.underlying3 rfl rfl rfl (Nat.le_of_ble_eq_true rfl) rfl rfl rfl),
       st_plain rfl (op_bin _ _ _ _ _ rfl rfl rfl),
       st_plain rfl (op_move _ _ _ _ (congrArg (fun b => AV.v (Value.bool b)) hg1_5) rfl),
       st_run 5 11 false rfl rfl rfl (List.Mem.head _) (op_fieldAddr _ _ _ _ 2 0 _ Tryd.underlying26 rfl sz9 rfl rfl (by decide)),
       st_run 5 11 false rfl rfl rfl (List.Mem.head _) (op_load _ _ _ _ _ _ Tryd.underlying9 rfl rfl rfl (Nat.le_of_ble_eq_true rfl) rfl rfl rfl),
       st_run 5 11 false rfl rfl rfl (List.Mem.head _) (op_fieldAddr _ _ _ _ 3 0 _ Tryd.underlying26 rfl sz9 rfl rfl (by decide)),
       st_run 5 11 false rfl rfl rfl (List.Mem.head _) (op_load _ _ _ _ _ _ Tryd.underlying9 rfl rfl rfl (Nat.le_of_ble_eq_true rfl) rfl rfl rfl),
       st_run 5 11 false rfl rfl rfl (List.Mem.head _) (op_bin _ _ _ _ _ rfl rfl rfl),
       st_plain rfl (op_pick _ _ false _ rfl rfl),
       st_plain rfl (op_move _ _ _ _ (congrArg (fun b => AV.v (Value.bool b)) hg1_12) rfl),
       st_run 12 18 false rfl rfl rfl (List.Mem.head _) (op_fieldAddr _ _ _ _ 2 0 _ Tryd.underlying26 rfl sz23 rfl rfl (by decide)),
       st_run 12 18 false rfl rfl rfl (List.Mem.head _) (op_loadA _ _ _ _ _ _ _ Tryd.underlying23 rfl sz23 rfl rfl (Nat.le_of_ble_eq_true rfl) rfl rfl),
       st_run 12 18 false rfl rfl rfl (List.Mem.head _) (op_fieldAddr _ _ _ _ 3 0 _ Tryd.underlying26 rfl sz23 rfl rfl (by decide)),
       st_run 12 18 false rfl rfl rfl (List.Mem.head _) (op_loadA _ _ _ _ _ _ _ Tryd.underlying23 rfl sz23 rfl rfl (Nat.le_of_ble_eq_true rfl) rfl rfl),
       st_run 12 18 false rfl rfl rfl (List.Mem.head _) (op_call _ _ 20 _ _ rfl Tryd.call20 rfl (ok_wherrykeep_Path (T_Path.mk a.Path.Null a.Path.Local a.Path.Domain) (T_Path.mk b.Path.Null b.Path.Local b.Path.Domain) _ hv1) rfl rfl),
       st_run 12 18 false rfl rfl rfl (List.Mem.head _) (op_un _ _ _ _ rfl rfl),
       st_plain rfl (op_pick _ _ false _ rfl rfl),
       st_plain rfl (op_move _ _ _ _ (congrArg (fun b => AV.v (Value.bool b)) hg1_20) rfl),
       st_run 20 26 false rfl rfl rfl (List.Mem.head _) (op_fieldAddr _ _ _ _ 2 0 _ Tryd.underlying26 rfl sz24 rfl rfl (by decide)),
       st_run 20 26 false rfl rfl rfl (List.Mem.head _) (op_load _ _ _ _ _ _ Tryd.underlying24 rfl rfl rfl (Nat.le_of_ble_eq_true rfl) rfl rfl rfl),
       st_run 20 26 false rfl rfl rfl (List.Mem.head _) (op_len_fl _ _ _ Tryd.underlying24 rfl (by decide) (flat_len T_Param.len _)),
       st_run 20 26 false rfl rfl rfl (List.Mem.head _) (op_fieldAddr _ _ _ _ 3 0 _ Tryd.underlying26 rfl sz24 rfl rfl (by decide)),
       st_run 20 26 false rfl rfl rfl (List.Mem.head _) (op_load _ _ _ _ _ _ Tryd.underlying24 rfl rfl rfl (Nat.le_of_ble_eq_true rfl) rfl rfl rfl),
       st_run 20 26 false rfl rfl rfl (List.Mem.head _) (op_len_fl _ _ _ Tryd.underlying24 rfl (by decide) (flat_len T_Param.len _)),
       st_run 20 26 false rfl rfl rfl (List.Mem.head _) (op_bin _ _ _ _ _ rfl rfl rfl),
       st_plain rfl (op_pick _ _ false _ rfl rfl),
       trivial⟩ ?_
      exact hl4 _ (Option.some.inj h).symm
set_option maxHeartbeats 1000000 in
theorem ok_path_Text (mx : Int) (p : T_Path) (r : (ByteArray × Int)) (h : Sh.path_Text p = some r) : FnG Tryd.prog (GL mx) 25 [.agg [.v (.bool p.Null), .v (.string p.Local), .v (.string p.Domain)]] (.tup [.v (.string r.1), .v (.int .i64 r.2)]) := by
  unfold Sh.path_Text at h
  refine fn_okG Tryd.func25 rfl (Nat.le_of_ble_eq_true rfl) rfl rfl fun g0 hn hio => ?_
  refine ht_seq ?_
  refine ht_seqR hn (El := [_, _, (1, .box 23 [.v (.bool p.Null), .v (.string p.Local), .v (.string p.Domain)]), (2, .v (.string (⟨#[]⟩ : ByteArray))), (3, .v (.int .i64 0))]) (init := [0, 1]) (fin := [1, 2]) (sps := [⟨[0], [], [2], [(.slot 1)]⟩, ⟨[], [], [3], [(.slot 2)]⟩, ⟨[], [], [4], [(.slot 3)]⟩]) (es' := [(_, _), (1, .box 23 [.v (.bool p.Null), .v (.string p.Local), .v (.string p.Domain)])]) (by kernel_rfl) rfl rfl
   ⟨st_plain rfl (op_box _ _ _ _ rfl rfl rfl),
   st_plain rfl (op_assign _ _ _ _ rfl rfl),
   st_plain rfl (op_assign _ _ _ _ rfl rfl),
   trivial⟩ ?_
  refine pt_then ?_
  refine ht_seq ?_
  refine ht_seq ?_
  obtain ⟨v1, hv1, h⟩ := bind_some h
  refine ht_seqR hn (El := [_, _, (5, .agg [.v (.bool p.Null), .v (.string p.Local), .v (.string p.Domain)]), (6, .v (.int .i64 v1)), (4, .v (.int .i64 v1))]) (init := [0, 1]) (fin := [0, 1, 4]) (sps := [⟨[1], [], [2], [(.slot 5)]⟩, ⟨[2, 0], [], [3], [(.slot 6)]⟩, ⟨[3], [], [4], [(.slot 4)]⟩]) (es' := [(_, _), (_, _), (4, .v (.int .i64 v1))]) (by kernel_rfl) rfl rfl
   ⟨st_plain rfl (op_loadA _ _ _ _ _ _ _ Tryd.underlying23 rfl sz23 rfl rfl (Nat.le_of_ble_eq_true rfl) rfl rfl),
   st_plain rfl (op_callG _ _ 20 36 _ _ rfl Tryd.call36 rfl rfl (fun _ h => h) (ok_path_Check mx p _ hv1) rfl rfl),
   st_plain rfl (op_assign _ _ _ _ rfl rfl),
   trivial⟩ ?_
  refine pt_then ?_
  refine ht_seq ?_
  refine ht_seqR hn (El := [_, _, _, (7, .v (.int .i64 v1)), (8, .v (.bool (v1 != 0)))]) (init := [0, 1, 2]) (fin := [0, 1, 2, 4]) (sps := [⟨[2], [], [3], [(.slot 7)]⟩, ⟨[3], [], [4], [(.slot 8)]⟩]) (es' := [(_, _), (_, _), (_, _), (8, .v (.bool (v1 != 0)))]) (by kernel_rfl) rfl rfl
   ⟨st_plain rfl (op_move _ _ _ _ rfl rfl),
   st_plain rfl (op_bin _ _ _ _ _ rfl rfl rfl),
   trivial⟩ ?_
  refine pt_then ?_
  refine ht_cond _ rfl (fun hb2 => ?_) (fun hb2 => ?_)
  ·have h := cond_t hb2 h
   refine ht_seq ?_
   refine ht_seqR hn (El := [_, _, _, _, (9, .v (.int .i64 v1)), (2, .v (.string (⟨#[]⟩ : ByteArray))), (3, .v (.int .i64 v1))]) (init := [0, 1, 2, 3]) (fin := [0, 5, 6]) (sps := [⟨[2], [], [4], [(.slot 9)]⟩, ⟨[], [], [5], [(.slot 2)]⟩, ⟨[4], [], [6], [(.slot 3)]⟩]) (es' := [(_, _), (2, .v (.string (⟨#[]⟩ : ByteArray))), (3, .v (.int .i64 v1))]) (by kernel_rfl) rfl rfl
    ⟨st_plain rfl (op_move _ _ _ _ rfl rfl),
    st_plain rfl (op_assign _ _ _ _ rfl rfl),
    st_plain rfl (op_assign _ _ _ _ rfl rfl),
    trivial⟩ ?_
   refine pt_then ?_
   refine ht_ret ?_
   refine pt_pick [1, 2] (by kernel_rfl) (es' := [(_, _), (_, _)]) rfl ?_
   refine pt_r_then ?_
   obtain rfl := Option.some.inj h
   exact pt_ret hio rfl (.tmp _ _ (.tmp _ _ .nil)) rfl rfl
  ·have h := cond_f hb2 h
   refine ht_skip ?_
   refine pt_then ?_
   refine ht_seq ?_
   refine ht_seq ?_
   refine ht_seqR hn (El := [_, _, _, _, (10, .ptr 1 0), (11, .v (.bool p.Null))]) (init := [0, 1, 2, 3]) (fin := [0, 1, 5]) (sps := [⟨[1], [], [4], [(.slot 10)]⟩, ⟨[4, 1], [], [5], [(.slot 11)]⟩]) (es' := [(_, _), (_, _), (11, .v (.bool p.Null))]) (by kernel_rfl) rfl rfl
    ⟨st_plain rfl (op_fieldAddr _ _ _ _ 1 0 _ Tryd.underlying23 rfl sz4 rfl rfl (by decide)),
    st_plain rfl (op_load _ _ _ _ _ _ Tryd.underlying4 rfl rfl rfl (Nat.le_of_ble_eq_true rfl) rfl rfl rfl),
    trivial⟩ ?_
   refine pt_then ?_
   refine ht_cond _ rfl (fun hb3 => ?_) (fun hb3 => ?_)
   ·have h := cond_t hb3 h
    refine ht_seq ?_
    refine ht_seqR hn (El := [_, _, _, (2, .v (.string (⟨#[60, 62]⟩ : ByteArray))), (3, .v (.int .i64 0))]) (init := [0, 1, 2]) (fin := [0, 3, 4]) (sps := [⟨[], [], [3], [(.slot 2)]⟩, ⟨[], [], [4], [(.slot 3)]⟩]) (es' := [(_, _), (2, .v (.string (⟨#[60, 62]⟩ : ByteArray))), (3, .v (.int .i64 0))]) (by kernel_rfl) rfl rfl
     ⟨st_plain rfl (op_assign _ _ _ _ rfl rfl),
     st_plain rfl (op_assign _ _ _ _ rfl rfl),
     trivial⟩ ?_
    refine pt_then ?_
    refine ht_ret ?_
    refine pt_pick [1, 2] (by kernel_rfl) (es' := [(_, _), (_, _)]) rfl ?_
    refine pt_r_then ?_
    obtain rfl := Option.some.inj h
    exact pt_ret hio rfl (.tmp _ _ (.tmp _ _ .nil)) rfl rfl
   ·have h := cond_f hb3 h
    refine ht_skip ?_
    refine pt_then ?_
    refine ht_seq ?_
    obtain ⟨v4, hv4, h⟩ := bind_some h
    obtain ⟨v5, hv5, h⟩ := bind_some h
    obtain ⟨v6, hv6, h⟩ := bind_some h
    obtain ⟨v7, hv7, h⟩ := bind_some h
    refine ht_seqR hn (El := [_, _, _, (12, .ptr 1 1), (13, .v (.string p.Local)), (14, .v (.string v4)), (15, .v (.string v5)), (16, .ptr 1 2), (17, .v (.string p.Domain)), (18, .v (.string v6)), (19, .v (.string v7)), (2, .v (.string v7)), (3, .v (.int .i64 0))]) (init := [0, 1, 2]) (fin := [0, 11, 12]) (sps := [⟨[1], [], [3], [(.slot 12)]⟩, ⟨[3, 1], [], [4], [(.slot 13)]⟩, ⟨[4], [], [5], [(.slot 14)]⟩, ⟨[5], [], [6], [(.slot 15)]⟩, ⟨[1], [], [7], [(.slot 16)]⟩, ⟨[7, 1], [], [8], [(.slot 17)]⟩, ⟨[6, 8], [], [9], [(.slot 18)]⟩, ⟨[9], [], [10], [(.slot 19)]⟩, ⟨[10], [], [11], [(.slot 2)]⟩, ⟨[], [], [12], [(.slot 3)]⟩]) (es' := [(_, _), (2, .v (.string v7)), (3, .v (.int .i64 0))]) (by kernel_rfl) rfl rfl
     ⟨st_plain rfl (op_fieldAddr _ _ _ _ 1 0 _ Tryd.underlying23 rfl sz9 rfl rfl (by decide)),
     st_plain rfl (op_load _ _ _ _ _ _ Tryd.underlying9 rfl rfl rfl (Nat.le_of_ble_eq_true rfl) rfl rfl rfl),
     st_plain rfl (op_bin _ _ _ _ _ rfl rfl (cat_ok hv4)),
     st_plain rfl (op_bin _ _ _ _ _ rfl rfl (cat_ok hv5)),
     st_plain rfl (op_fieldAddr _ _ _ _ 1 0 _ Tryd.underlying23 rfl sz9 rfl rfl (by decide)),
     st_plain rfl (op_load _ _ _ _ _ _ Tryd.underlying9 rfl rfl rfl (Nat.le_of_ble_eq_true rfl) rfl rfl rfl),
     st_plain rfl (op_bin _ _ _ _ _ rfl rfl (cat_ok hv6)),
     st_plain rfl (op_bin _ _ _ _ _ rfl rfl (cat_ok hv7)),
     st_plain rfl (op_assign _ _ _ _ rfl rfl),
     st_plain rfl (op_assign _ _ _ _ rfl rfl),
     trivial⟩ ?_
    refine pt_then ?_
    refine ht_ret ?_
    refine pt_pick [1, 2] (by kernel_rfl) (es' := [(_, _), (_, _)]) rfl ?_
    obtain rfl := Option.some.inj h
    exact pt_ret hio rfl (.tmp _ _ (.tmp _ _ .nil)) rfl rfl
theorem ok_strings_Builder_copyCheck (xs : List Value) : FnP Tryd.prog 37 [.hid (bldT 59 5 false xs)] [.hid (bldT 59 5 true xs)] (.tup []) :=
  bld_check (by decide) (fun b w h1 h2 h3 => Tryd.Builder_copyCheck_fresh b w h1 h2 h3) (fun b w h => Tryd.Builder_copyCheck_used b w h)
set_option maxHeartbeats 1000000 in
theorem ok_strings_Builder_WriteString (xs : List Int) (s : ByteArray) (r : List Int) (h : appO 1 xs (sbytes s) = some r) : FnP Tryd.prog 26 [.hid (bldT 59 5 false (List.map (Value.int .u8) xs)), .v (.string s)] [.hid (bldT 59 5 false (List.map (Value.int .u8) r))] (.tup [.v (.int .i64 (s.size : Int)), .v .nilIface]) := by
  refine FnP.bldW ?_
  refine fn_okP Tryd.func26 rfl (Nat.le_of_ble_eq_true rfl) rfl (Nat.le_of_ble_eq_true rfl) fun args0 hargs0 g0 hn hio => ?_
  refine ht_seq ?_
  refine ht_seqR hn (El := [_, _, _, (4, .v (.int .i64 0)), (5, .v .nilIface)]) (init := [0, 1, 2]) (fin := [0, 1, 2]) (sps := [⟨[], [], [3], [(.slot 4)]⟩, ⟨[], [], [4], [(.slot 5)]⟩]) (es' := [(_, _), (_, _), (_, _)]) (by kernel_rfl) rfl rfl
   ⟨st_plain rfl (op_assign _ _ _ _ rfl rfl),
   st_plain rfl (op_assign _ _ _ _ rfl rfl),
   trivial⟩ ?_
  refine pt_then ?_
  refine ht_seq ?_
  refine ht_seqR hn (El := [_, _, _, (6, .same (.slot 0)), (0, .hid (bldT 59 5 true (List.map (Value.int .u8) xs))), (7, .tup [])]) (init := [0, 1, 2]) (fin := [4, 1, 2]) (sps := [⟨[], [], [3], [(.slot 6)]⟩, ⟨[3], [0], [4, 5], [(.slot 7)]⟩]) (es' := [(0, .hid (bldT 59 5 true (List.map (Value.int .u8) xs))), (_, _), (_, _)]) (by kernel_rfl) rfl rfl
   ⟨st_plain rfl (op_move_name _ _ _ rfl),
   st_plain rfl (op_callPS _ _ _ _ 7 37 [.tmp 6] [] _ _ _ rfl Tryd.call37 rfl rfl rfl (ok_strings_Builder_copyCheck _) (Nat.le_of_ble_eq_true rfl) rfl rfl rfl rfl rfl rfl rfl),
   trivial⟩ ?_
  refine pt_then ?_
  refine ht_bld_box 0 rfl ?_
  refine ht_seq ?_
  refine ht_seqR hn (El := (_ :: _ :: _ :: (8, .ptr 0 0) :: (9, .ptr 0 0) :: (10, .ptr 0 0) :: (11, .ptr 0 1) :: (12, .same (.cell 0 1)) :: (13, .v (.string s)) :: (14, .fl (.own 5) 1 (List.map (Value.int .u8) r)) :: (0, .box 59 [.ptr 0 0, .any]) :: (15, .ptr 0 0) :: (16, .ptr 0 1) :: (0, .box 59 [.ptr 0 0, .fl (.own 5) 1 (List.map (Value.int .u8) r)]) :: [])) (init := [0, 1, 2]) (fin := [13, 1, 2]) (sps := [⟨[0], [], [3], [(.slot 8)]⟩, ⟨[0], [], [4], [(.slot 9)]⟩, ⟨[4, 0], [], [5], [(.slot 10)]⟩, ⟨[5, 0], [], [6], [(.slot 11)]⟩, ⟨[6, 0], [], [7], [(.slot 12)]⟩, ⟨[1], [], [8], [(.slot 13)]⟩, ⟨[7, 8], [0], [10, 9], [(.slot 14)]⟩, ⟨[3, 10], [], [11], [(.slot 15)]⟩, ⟨[11, 10], [], [12], [(.slot 16)]⟩, ⟨[12], [7, 9, 10], [13], [.cell 0 1]⟩]) (es' := [(0, .box 59 [.ptr 0 0, .fl (.own 5) 1 (List.map (Value.int .u8) r)]), (_, _), (_, _)]) (by kernel_rfl) rfl rfl
   ⟨st_plain rfl (op_move _ _ _ _ rfl rfl),
   st_plain rfl (op_move _ _ _ _ rfl rfl),
   st_plain rfl (op_nilCheck _ _ _ 0 0 rfl (by decide)),
   st_plain rfl (op_fieldAddr _ _ _ _ 0 0 _ Tryd.underlying59 rfl sz37 rfl rfl (by decide)),
   st_plain rfl (op_load _ _ _ _ _ _ Tryd.underlying37 rfl rfl rfl (Nat.le_of_ble_eq_true rfl) rfl rfl rfl),
   st_plain rfl (op_move _ _ _ _ rfl rfl),
   st_plain rfl (op_apps_cell _ _ _ _ _ _ el37 zr5 Tryd.underlying9 rfl rfl (Nat.le_of_ble_eq_true rfl) rfl rfl h rfl (by decide) rfl rfl),
   st_plain rfl (op_nilCheck _ _ _ 0 0 rfl (by decide)),
   st_plain rfl (op_fieldAddr _ _ _ _ 0 0 _ Tryd.underlying59 rfl sz37 rfl rfl (by decide)),
   st_plain rfl (LOp.drop [_] (op_store_take _ _ _ _ _ _ _ _ sz37 rfl rfl rfl (Nat.le_of_ble_eq_true rfl) rfl rfl)),
   trivial⟩ ?_
  refine pt_then ?_
  refine ht_seq ?_
  refine ht_seqR hn (El := [_, _, _, (17, .v (.string s)), (18, .v (.int .i64 (s.size : Int))), (4, .v (.int .i64 (s.size : Int))), (5, .v .nilIface)]) (init := [0, 1, 2]) (fin := [0, 2, 5, 6]) (sps := [⟨[1], [], [3], [(.slot 17)]⟩, ⟨[3], [], [4], [(.slot 18)]⟩, ⟨[4], [], [5], [(.slot 4)]⟩, ⟨[], [], [6], [(.slot 5)]⟩]) (es' := [(_, _), (_, _), (4, .v (.int .i64 (s.size : Int))), (5, .v .nilIface)]) (by kernel_rfl) rfl rfl
   ⟨st_plain rfl (op_move _ _ _ _ rfl rfl),
   st_plain rfl (op_len_str _ _ _ Tryd.underlying9 rfl),
   st_plain rfl (op_assign _ _ _ _ rfl rfl),
   st_plain rfl (op_assign _ _ _ _ rfl rfl),
   trivial⟩ ?_
  refine pt_then ?_
  refine ht_ret ?_
  refine pt_bld 0 ?_
  refine pt_pick [2, 3, 0, 1] (by kernel_rfl) (es' := [(_, _), (_, _), (_, _), (_, _)]) rfl ?_
  exact pt_retP (es := [(4, .v (.int .i64 (s.size : Int))), (5, .v .nilIface)]) (posts := [.hid (bldT 59 5 true (List.map (Value.int .u8) r))]) hio rfl rfl (.tmp _ _ (.tmp _ _ .nil)) rfl rfl hargs0 rfl
set_option maxHeartbeats 1000000 in
theorem ok_strings_Builder_String (xs : List Int) (s : ByteArray) (h : strO xs = some s) : FnP Tryd.prog 28 [.hid (bldT 59 5 false (List.map (Value.int .u8) xs))] [] (.v (.string s)) := by
  refine fn_okP Tryd.func28 rfl (Nat.le_of_ble_eq_true rfl) rfl (Nat.le_of_ble_eq_true rfl) fun args0 hargs0 g0 hn hio => ?_
  refine ht_bld_row 0 fun v => ?_
  refine ht_seq ?_
  refine ht_seqR hn (El := [_, (2, .v (.string ByteArray.empty))]) (init := [0]) (fin := [0]) (sps := [⟨[], [], [1], [(.slot 2)]⟩]) (es' := [(_, _)]) (by kernel_rfl) rfl rfl
   ⟨st_plain rfl (op_assign _ _ _ _ rfl rfl),
   trivial⟩ ?_
  refine pt_then ?_
  refine ht_seq ?_
  refine ht_anyR (by kernel_rfl) hn (El := [_, (3, .same (.slot 0)), (4, .ptr 0 0), (5, .ptr 0 1), (6, .v v), (7, .hid (usdT v)), (8, .same (.slot 0)), (9, .ptr 0 0), (10, .ptr 0 1), (11, .v v), (12, .v (.int .i64 ((List.map (Value.int .u8) xs).length : Int))), (13, .v (.string s)), (2, .v (.string s))]) (init := [0]) (fin := [12]) (sps := [⟨[], [], [1], [(.slot 3)]⟩, ⟨[1, 0], [], [2], [(.slot 4)]⟩, ⟨[2], [], [3], [(.slot 5)]⟩, ⟨[3, 0], [], [4], [(.slot 6)]⟩, ⟨[4, 0], [], [5], [(.slot 7)]⟩, ⟨[], [], [6], [(.slot 8)]⟩, ⟨[6, 0], [], [7], [(.slot 9)]⟩, ⟨[7], [], [8], [(.slot 10)]⟩, ⟨[8, 0], [], [9], [(.slot 11)]⟩, ⟨[9, 0], [], [10], [(.slot 12)]⟩, ⟨[5, 10], [0], [11], [(.slot 13)]⟩, ⟨[11], [], [12], [(.slot 2)]⟩]) (es' := [(2, .v (.string s))]) (by kernel_rfl) rfl rfl
   ⟨st_plain rfl (op_move_name _ _ _ rfl),
   st_plain rfl (op_nilCheck_bld _ _ _ 0 rfl rfl (by decide)),
   st_plain rfl (op_fieldAddr _ _ _ _ 0 0 _ Tryd.underlying59 rfl sz37 rfl rfl (by decide)),
   st_plain rfl (op_load_bld _ _ _ 0 Tryd.underlying37 rfl rfl rfl),
   st_plain rfl (op_usd _ _ 0 Tryd.underlying74 rfl rfl),
   st_plain rfl (op_move_name _ _ _ rfl),
   st_plain rfl (op_nilCheck_bld _ _ _ 0 rfl rfl (by decide)),
   st_plain rfl (op_fieldAddr _ _ _ _ 0 0 _ Tryd.underlying59 rfl sz37 rfl rfl (by decide)),
   st_plain rfl (op_load_bld _ _ _ 0 Tryd.underlying37 rfl rfl rfl),
   st_plain rfl (op_len_bld _ _ 0 Tryd.underlying37 rfl rfl),
   st_plain rfl (op_ustr _ _ 0 Tryd.underlying74 (by kernel_rfl) rfl rfl h),
   st_plain rfl (op_assign _ _ _ _ rfl rfl),
   trivial⟩ ?_
  refine pt_then ?_
  refine ht_ret ?_
  exact pt_retP (es := [(2, .v (.string s))]) (posts := []) hio rfl rfl (.tmp _ _ .nil) rfl rfl hargs0 rfl
set_option maxHeartbeats 1000000 in
theorem ok_verb_format (mx : Int) (c : T_Cmd) (r : ByteArray) (h : Sh.verb_format c = some r) : FnG Tryd.prog (GL mx) 14 [.agg [.v (.int .i64 c.Kind), .v (.string c.Text), .v (.bool c.Path.Null), .v (.string c.Path.Local), .v (.string c.Path.Domain), .fl .shr 2 (List.flatten (List.map T_Param.enc c.Params))]] (.v (.string r)) := by
  unfold Sh.verb_format at h
  refine fn_okG Tryd.func14 rfl (Nat.le_of_ble_eq_true rfl) rfl rfl fun g0 hn hio => ?_
  refine ht_seq ?_
  refine ht_seqR hn (El := [_, _, (1, .box 26 [.v (.int .i64 c.Kind), .v (.string c.Text), .v (.bool c.Path.Null), .v (.string c.Path.Local), .v (.string c.Path.Domain), .fl .shr 2 (List.flatten (List.map T_Param.enc c.Params))]), (2, .v (.string (⟨#[]⟩ : ByteArray)))]) (init := [0, 1]) (fin := [1, 2]) (sps := [⟨[0], [], [2], [(.slot 1)]⟩, ⟨[], [], [3], [(.slot 2)]⟩]) (es' := [(_, _), (1, .box 26 [.v (.int .i64 c.Kind), .v (.string c.Text), .v (.bool c.Path.Null), .v (.string c.Path.Local), .v (.string c.Path.Domain), .fl .shr 2 (List.flatten (List.map T_Param.enc c.Params))])]) (by kernel_rfl) rfl rfl
   ⟨st_plain rfl (op_box _ _ _ _ rfl rfl rfl),
   st_plain rfl (op_assign _ _ _ _ rfl rfl),
   trivial⟩ ?_
  refine pt_then ?_
  refine ht_seq ?_
  refine ht_seq ?_
  refine ht_seqR hn (El := [_, _, (8, .ptr 1 0), (9, .v (.int .i64 c.Kind))]) (init := [0, 1]) (fin := [0, 1, 3]) (sps := [⟨[1], [], [2], [(.slot 8)]⟩, ⟨[2, 1], [], [3], [(.slot 9)]⟩]) (es' := [(_, _), (_, _), (9, .v (.int .i64 c.Kind))]) (by kernel_rfl) rfl rfl
   ⟨st_plain rfl (op_fieldAddr _ _ _ _ 1 0 _ Tryd.underlying26 rfl sz3 rfl rfl (by decide)),
   st_plain rfl (op_load _ _ _ _ _ _ Tryd.underlying3 rfl rfl rfl (Nat.le_of_ble_eq_true rfl) rfl rfl rfl),
   trivial⟩ ?_
  refine pt_then ?_
  refine ht_block ?_
  refine ht_seq ?_
  refine ht_seqR hn (El := [_, _, _, (11, .v (.bool (c.Kind == 1))), (10, .v (.bool (c.Kind == 1)))]) (init := [0, 1, 2]) (fin := [0, 1, 2, 4]) (sps := [⟨[2], [], [3], [(.slot 11)]⟩, ⟨[3], [], [4], [(.slot 10)]⟩]) (es' := [(_, _), (_, _), (_, _), (10, .v (.bool (c.Kind == 1)))]) (by kernel_rfl) rfl rfl
   ⟨st_plain rfl (op_bin _ _ _ _ _ rfl rfl rfl),
   st_plain rfl (op_assign _ _ _ _ rfl rfl),
   trivial⟩ ?_
  refine pt_then ?_
  refine ht_cond _ rfl (fun hb1 => ?_) (fun hb1 => ?_)
  ·have h := cond_t hb1 h
   refine ht_seq ?_
   obtain ⟨v2, hv2, h⟩ := bind_some h
   refine ht_seqR hn (El := [_, _, _, _, (12, .ptr 1 1), (13, .v (.string c.Text)), (14, .v (.string v2)), (2, .v (.string v2))]) (init := [0, 1, 2, 3]) (fin := [0, 7]) (sps := [⟨[1], [], [4], [(.slot 12)]⟩, ⟨[4, 1], [], [5], [(.slot 13)]⟩, ⟨[5], [], [6], [(.slot 14)]⟩, ⟨[6], [], [7], [(.slot 2)]⟩]) (es' := [(_, _), (2, .v (.string v2))]) (by kernel_rfl) rfl rfl
    ⟨st_plain rfl (op_fieldAddr _ _ _ _ 1 0 _ Tryd.underlying26 rfl sz9 rfl rfl (by decide)),
    st_plain rfl (op_load _ _ _ _ _ _ Tryd.underlying9 rfl rfl rfl (Nat.le_of_ble_eq_true rfl) rfl rfl rfl),
    st_plain rfl (op_bin _ _ _ _ _ rfl rfl (cat_ok hv2)),
    st_plain rfl (op_assign _ _ _ _ rfl rfl),
    trivial⟩ ?_
   refine pt_then ?_
   refine ht_ret ?_
   refine pt_pick [1] (by kernel_rfl) (es' := [(_, _)]) rfl ?_
   refine pt_r_in ?_
   refine pt_r_then ?_
   obtain rfl := Option.some.inj h
   exact pt_ret hio rfl (.tmp _ _ .nil) rfl rfl
  ·have h := cond_f hb1 h
   refine ht_seq ?_
   refine ht_joinS h (fun (s4 : Bool) => [(75, .glob (GL mx)), (1, .box 26 [.v (.int .i64 c.Kind), .v (.string c.Text), .v (.bool c.Path.Null), .v (.string c.Path.Local), .v (.string c.Path.Domain), .fl .shr 2 (List.flatten (List.map T_Param.enc c.Params))]), (9, .v (.int .i64 c.Kind)), (15, .v (.bool s4))]) ?_ ?_
   ·rintro s4 h
    refine pt_then ?_
    refine ht_cond _ rfl (fun hb9 => ?_) (fun hb9 => ?_)
    ·have h := cond_t hb9 h
     refine ht_seq ?_
     obtain ⟨v10, hv10, h⟩ := bind_some h
     refine ht_seqR hn (El := [_, _, _, _, (19, .ptr 1 2), (20, .agg [.v (.bool c.Path.Null), .v (.string c.Path.Local), .v (.string c.Path.Domain)]), (21, .tup [.v (.string v10.1), .v (.int .i64 v10.2)]), (18, .tup [.v (.string v10.1), .v (.int .i64 v10.2)]), (22, .v (.string v10.1)), (23, .v (.int .i64 v10.2)), (3, .v (.string v10.1)), (4, .v (.int .i64 v10.2))]) (init := [0, 1, 2, 3]) (fin := [0, 1, 10]) (sps := [⟨[1], [], [4], [(.slot 19)]⟩, ⟨[4, 1], [], [5], [(.slot 20)]⟩, ⟨[5, 0], [], [6], [(.slot 21)]⟩, ⟨[], [6], [7], [(.slot 18)]⟩, ⟨[7], [], [8], [(.slot 22)]⟩, ⟨[7], [], [9], [(.slot 23)]⟩, ⟨[8], [], [10], [(.slot 3)]⟩, ⟨[9], [], [11], [(.slot 4)]⟩]) (es' := [(_, _), (_, _), (3, .v (.string v10.1))]) (by kernel_rfl) rfl rfl
      ⟨st_plain rfl (op_fieldAddr _ _ _ _ 1 0 _ Tryd.underlying26 rfl sz23 rfl rfl (by decide)),
      st_plain rfl (op_loadA _ _ _ _ _ _ _ Tryd.underlying23 rfl sz23 rfl rfl (Nat.le_of_ble_eq_true rfl) rfl rfl),
      st_plain rfl (op_callG _ _ 75 25 _ _ rfl Tryd.call25 rfl rfl (fun _ h => h) (ok_path_Text mx (T_Path.mk c.Path.Null c.Path.Local c.Path.Domain) _ hv10) rfl rfl),
      st_plain rfl (op_move_take _ _ _ _ rfl),
      st_plain rfl (op_extract _ _ _ _ _ rfl rfl (Nat.le_of_ble_eq_true rfl) rfl rfl),
      st_plain rfl (op_extract _ _ _ _ _ rfl rfl (Nat.le_of_ble_eq_true rfl) rfl rfl),
      st_plain rfl (op_assign _ _ _ _ rfl rfl),
      st_plain rfl (op_assign _ _ _ _ rfl rfl),
      trivial⟩ ?_
     refine pt_then ?_
     refine ht_seq ?_
     refine ht_seqR hn (El := [_, _, _, (5, .hid (bldT 59 5 false (List.map (Value.int .u8) ([] : List Int))))]) (init := [0, 1, 2]) (fin := [0, 1, 2, 3]) (sps := [⟨[], [], [3], [(.slot 5)]⟩]) (es' := [(_, _), (_, _), (_, _), (5, .hid (bldT 59 5 false (List.map (Value.int .u8) ([] : List Int))))]) (by kernel_rfl) rfl rfl
      ⟨st_plain rfl (LOp.bld0 (op_alloc _ _ zr59)),
      trivial⟩ ?_
     refine pt_then ?_
     refine ht_seq ?_
     obtain ⟨v11, hv11, h⟩ := bind_some h
     obtain ⟨v12, hv12, h⟩ := bind_some h
     obtain ⟨v13, hv13, h⟩ := bind_some h
     refine ht_seqR hn (El := [_, _, _, _, (24, .ptr 1 0), (25, .v (.int .i64 c.Kind)), (26, .v (.string v11)), (27, .v (.string v10.1)), (28, .v (.string v12)), (29, .tup [.v (.int .i64 (v12.size : Int)), .v (.nilIface)]), (5, .hid (bldT 59 5 false (List.map (Value.int .u8) v13)))]) (init := [0, 1, 2, 3]) (fin := [0, 1, 10]) (sps := [⟨[1], [], [4], [(.slot 24)]⟩, ⟨[4, 1], [], [5], [(.slot 25)]⟩, ⟨[5], [], [6], [(.slot 26)]⟩, ⟨[2], [], [7], [(.slot 27)]⟩, ⟨[6, 7], [], [8], [(.slot 28)]⟩, ⟨[8], [3], [10, 9], [(.slot 29)]⟩]) (es' := [(_, _), (_, _), (5, .hid (bldT 59 5 false (List.map (Value.int .u8) v13)))]) (by kernel_rfl) rfl rfl
      ⟨st_plain rfl (op_fieldAddr _ _ _ _ 1 0 _ Tryd.underlying26 rfl sz3 rfl rfl (by decide)),
      st_plain rfl (op_load _ _ _ _ _ _ Tryd.underlying3 rfl rfl rfl (Nat.le_of_ble_eq_true rfl) rfl rfl rfl),
      st_plain rfl (op_call _ _ 27 _ _ rfl Tryd.call27 rfl (ok_verb_opening c.Kind _ hv11) rfl rfl),
      st_plain rfl (op_move _ _ _ _ rfl rfl),
      st_plain rfl (op_bin _ _ _ _ _ rfl rfl (cat_ok hv12)),
      st_plain rfl (op_callPS _ _ _ _ 29 26 [.tmp 5] [.tmp 28] _ _ _ rfl Tryd.call26 rfl rfl rfl (ok_strings_Builder_WriteString ([] : List Int) v12 _ hv13) (Nat.le_of_ble_eq_true rfl) rfl rfl rfl rfl rfl rfl rfl),
      trivial⟩ ?_
     refine pt_then ?_
     refine ht_seq ?_
     refine ht_seq ?_
     refine ht_seqR hn (El := [_, _, _, (30, .ptr 1 5), (31, .fl .shr 2 (List.flatten (List.map T_Param.enc c.Params))), (32, .v (.int .i64 (c.Params.length : Int))), (33, .v (.int .i64 0))]) (init := [0, 1, 2]) (fin := [0, 2, 4, 5, 6]) (sps := [⟨[1], [], [3], [(.slot 30)]⟩, ⟨[3, 1], [], [4], [(.slot 31)]⟩, ⟨[4], [], [5], [(.slot 32)]⟩, ⟨[], [], [6], [(.slot 33)]⟩]) (es' := [(_, _), (_, _), (31, .fl .shr 2 (List.flatten (List.map T_Param.enc c.Params))), (32, .v (.int .i64 (c.Params.length : Int))), (33, .v (.int .i64 0))]) (by kernel_rfl) rfl rfl
      ⟨st_plain rfl (op_fieldAddr _ _ _ _ 1 0 _ Tryd.underlying26 rfl sz24 rfl rfl (by decide)),
      st_plain rfl (op_load _ _ _ _ _ _ Tryd.underlying24 rfl rfl rfl (Nat.le_of_ble_eq_true rfl) rfl rfl rfl),
      st_plain rfl (op_len_fl _ _ _ Tryd.underlying24 rfl (by decide) (flat_len T_Param.len _)),
      st_plain rfl (op_move _ _ _ _ rfl rfl),
      trivial⟩ ?_
     refine pt_then ?_
     refine ht_loopS h (fun ((s25, s26) : (List Int) × Int) => [(75, .glob (GL mx)), (5, .hid (bldT 59 5 false (List.map (Value.int .u8) s25))), (31, .fl .shr 2 (List.flatten (List.map T_Param.enc c.Params))), (32, .v (.int .i64 (c.Params.length : Int))), (33, .v (.int .i64 s26))]) (fun (s28 : (List Int)) => [(75, .glob (GL mx)), (5, .hid (bldT 59 5 false (List.map (Value.int .u8) s28)))]) ?_ ?_
     ·rintro s28 h
      refine pt_then ?_
      refine ht_seq ?_
      obtain ⟨v36, hv36, h⟩ := bind_some h
      refine ht_seqR hn (El := [_, _, (46, .v (.string v36)), (2, .v (.string v36))]) (init := [0, 1]) (fin := [0, 3]) (sps := [⟨[], [1], [2], [(.slot 46)]⟩, ⟨[2], [], [3], [(.slot 2)]⟩]) (es' := [(_, _), (2, .v (.string v36))]) (by kernel_rfl) rfl rfl
       ⟨st_plain rfl (op_callPS _ _ _ _ 46 28 [.tmp 5] [] _ _ _ rfl Tryd.call28 rfl rfl rfl (ok_strings_Builder_String s28 _ hv36) (Nat.le_of_ble_eq_true rfl) rfl rfl rfl rfl rfl rfl rfl),
       st_plain rfl (op_assign _ _ _ _ rfl rfl),
       trivial⟩ ?_
      refine pt_then ?_
      refine ht_ret ?_
      refine pt_pick [1] (by kernel_rfl) (es' := [(_, _)]) rfl ?_
      refine pt_r_in ?_
      refine pt_r_then ?_
      obtain rfl := Option.some.inj h
      exact pt_ret hio rfl (.tmp _ _ .nil) rfl rfl
     ·rintro u29 hl30 hr31 ⟨s25, s26⟩ rr34 h ho32
      refine ht_seq ?_
      refine ht_seqR hn (El := [_, _, _, _, _, (34, .v (.bool ((decide (s26 < (c.Params.length : Int))))))]) (init := [0, 1, 2, 3, 4]) (fin := [0, 1, 2, 3, 4, 5]) (sps := [⟨[4, 3], [], [5], [(.slot 34)]⟩]) (es' := [(_, _), (_, _), (_, _), (_, _), (_, _), (34, .v (.bool ((decide (s26 < (c.Params.length : Int))))))]) (by kernel_rfl) rfl rfl
       ⟨st_plain rfl (op_bin _ _ _ _ _ rfl rfl rfl),
       trivial⟩ ?_
      refine pt_then ?_
      refine ht_seq ?_
      refine ht_cond _ rfl (fun hb35 => ?_) (fun hb35 => ?_)
      ·have h := cond_t hb35 h
       refine ht_skip ?_
       refine pt_then ?_
       refine ht_seq ?_
       refine ht_block ?_
       refine ht_seq ?_
       obtain ⟨v15, hv15, h⟩ := bind_some h
       obtain ⟨v16, hv16, h⟩ := bind_some h
       refine ht_seqR hn (El := [_, _, _, _, _, _, (35, .eref (.slot 31) (v15 * 2)), (36, .agg [.v (.string v16.Key), .v (.string v16.Val)]), (7, .box 46 [.v (.string (⟨#[]⟩ : ByteArray)), .v (.string (⟨#[]⟩ : ByteArray))]), (7, .box 46 [.v (.string v16.Key), .v (.string v16.Val)])]) (init := [0, 1, 2, 3, 4, 5]) (fin := [0, 1, 2, 3, 4, 9]) (sps := [⟨[2, 4], [], [6], [(.slot 35)]⟩, ⟨[6, 2], [], [7], [(.slot 36)]⟩, ⟨[], [], [8], [(.slot 7)]⟩, ⟨[7], [8], [9], [.cell 7 0, .cell 7 1]⟩]) (es' := [(_, _), (_, _), (_, _), (_, _), (_, _), (7, .box 46 [.v (.string v16.Key), .v (.string v16.Val)])]) (by kernel_rfl) rfl rfl
        ⟨st_plain rfl (op_ix _ _ _ _ _ _ _ _ Tryd.underlying24 sz46 (by decide) rfl rfl rfl (ix_ok hv15).1 (flat_lt T_Param.len (ix_ok hv15).2) rfl),
        st_plain rfl (op_load_eA _ _ _ _ _ _ _ Tryd.underlying46 rfl sz46 rfl rfl (flat_get T_Param.len hv16) rfl (by decide)),
        st_plain rfl (op_alloc _ _ zr46),
        st_plain rfl (op_store _ _ _ _ _ _ _ _ sz46 rfl rfl rfl rfl (Nat.le_of_ble_eq_true rfl) rfl rfl),
        trivial⟩ ?_
       refine pt_then ?_
       obtain ⟨v17, hv17, h⟩ := bind_some h
       obtain ⟨v18, hv18, h⟩ := bind_some h
       obtain ⟨v19, hv19, h⟩ := bind_some h
       obtain ⟨v20, hv20, h⟩ := bind_some h
       refine ht_seqR hn (El := (_ :: _ :: _ :: _ :: _ :: _ :: (37, .ptr 7 0) :: (38, .v (.string v16.Key)) :: (39, .v (.string v17)) :: (40, .v (.string v18)) :: (41, .ptr 7 1) :: (42, .v (.string v16.Val)) :: (43, .v (.string v19)) :: (44, .tup [.v (.int .i64 (v19.size : Int)), .v (.nilIface)]) :: (5, .hid (bldT 59 5 false (List.map (Value.int .u8) v20))) :: [])) (init := [0, 1, 2, 3, 4, 5]) (fin := [0, 14, 2, 3, 4]) (sps := [⟨[5], [], [6], [(.slot 37)]⟩, ⟨[6, 5], [], [7], [(.slot 38)]⟩, ⟨[7], [], [8], [(.slot 39)]⟩, ⟨[8], [], [9], [(.slot 40)]⟩, ⟨[5], [], [10], [(.slot 41)]⟩, ⟨[10, 5], [], [11], [(.slot 42)]⟩, ⟨[9, 11], [], [12], [(.slot 43)]⟩, ⟨[12], [1], [14, 13], [(.slot 44)]⟩]) (es' := [(_, _), (5, .hid (bldT 59 5 false (List.map (Value.int .u8) v20))), (_, _), (_, _), (_, _)]) (by kernel_rfl) rfl rfl
        ⟨st_plain rfl (op_fieldAddr _ _ _ _ 7 0 _ Tryd.underlying46 rfl sz9 rfl rfl (by decide)),
        st_plain rfl (op_load _ _ _ _ _ _ Tryd.underlying9 rfl rfl rfl (Nat.le_of_ble_eq_true rfl) rfl rfl rfl),
        st_plain rfl (op_bin _ _ _ _ _ rfl rfl (cat_ok hv17)),
        st_plain rfl (op_bin _ _ _ _ _ rfl rfl (cat_ok hv18)),
        st_plain rfl (op_fieldAddr _ _ _ _ 7 0 _ Tryd.underlying46 rfl sz9 rfl rfl (by decide)),
        st_plain rfl (op_load _ _ _ _ _ _ Tryd.underlying9 rfl rfl rfl (Nat.le_of_ble_eq_true rfl) rfl rfl rfl),
        st_plain rfl (op_bin _ _ _ _ _ rfl rfl (cat_ok hv19)),
        st_plain rfl (op_callPS _ _ _ _ 44 26 [.tmp 5] [.tmp 43] _ _ _ rfl Tryd.call26 rfl rfl rfl (ok_strings_Builder_WriteString s25 v19 _ hv20) (Nat.le_of_ble_eq_true rfl) rfl rfl rfl rfl rfl rfl rfl),
        trivial⟩ ?_
       refine pt_inb ?_
       refine pt_then ?_
       obtain ⟨v21, hv21, h⟩ := bind_some h
       refine ht_seqR hn (El := [_, _, _, _, _, (45, .v (.int .i64 v21)), (33, .v (.int .i64 v21))]) (init := [0, 1, 2, 3, 4]) (fin := [0, 1, 2, 3, 6]) (sps := [⟨[4], [], [5], [(.slot 45)]⟩, ⟨[5], [4], [6], [(.slot 33)]⟩]) (es' := [(_, _), (_, _), (_, _), (_, _), (33, .v (.int .i64 v21))]) (by kernel_rfl) rfl rfl
        ⟨st_plain rfl (op_bin _ _ _ _ _ rfl rfl (ibind (f := Value.int .i64) (Option.some.inj hv21))),
        st_plain rfl (LOp.drop [_] (op_move _ _ _ _ rfl rfl)),
        trivial⟩ ?_
       exact pt_next _ (Option.some.inj h).symm rfl
      ·have h := cond_f hb35 h
       refine ht_exit ?_
       refine pt_x_then ?_
       refine pt_x_then ?_
       refine pt_x_in ?_
       refine pt_pick [0, 1] (by kernel_rfl) (es' := [(_, _), (_, _)]) rfl ?_
       exact hl30 _ (ho32 _ (Option.some.inj h).symm).symm
    ·have h := cond_f hb9 h
     refine ht_seq ?_
     refine ht_seqR hn (El := [_, _, _, _, (48, .v (.bool (c.Kind == 4))), (47, .v (.bool (c.Kind == 4)))]) (init := [0, 1, 2, 3]) (fin := [0, 1, 2, 5]) (sps := [⟨[2], [], [4], [(.slot 48)]⟩, ⟨[4], [], [5], [(.slot 47)]⟩]) (es' := [(_, _), (_, _), (_, _), (47, .v (.bool (c.Kind == 4)))]) (by kernel_rfl) rfl rfl
      ⟨st_plain rfl (op_bin _ _ _ _ _ rfl rfl rfl),
      st_plain rfl (op_assign _ _ _ _ rfl rfl),
      trivial⟩ ?_
     refine pt_then ?_
     refine ht_cond _ rfl (fun hb37 => ?_) (fun hb37 => ?_)
     ·have h := cond_t hb37 h
      refine ht_seq ?_
      refine ht_seqR hn (El := [_, _, _, _, (2, .v (.string (⟨#[68, 65, 84, 65]⟩ : ByteArray)))]) (init := [0, 1, 2, 3]) (fin := [0, 4]) (sps := [⟨[], [], [4], [(.slot 2)]⟩]) (es' := [(_, _), (2, .v (.string (⟨#[68, 65, 84, 65]⟩ : ByteArray)))]) (by kernel_rfl) rfl rfl
       ⟨st_plain rfl (op_assign _ _ _ _ rfl rfl),
       trivial⟩ ?_
      refine pt_then ?_
      refine ht_ret ?_
      refine pt_pick [1] (by kernel_rfl) (es' := [(_, _)]) rfl ?_
      refine pt_r_in ?_
      refine pt_r_then ?_
      obtain rfl := Option.some.inj h
      exact pt_ret hio rfl (.tmp _ _ .nil) rfl rfl
     ·have h := cond_f hb37 h
      refine ht_seq ?_
      refine ht_seqR hn (El := [_, _, _, _, (50, .v (.bool (c.Kind == 5))), (49, .v (.bool (c.Kind == 5)))]) (init := [0, 1, 2, 3]) (fin := [0, 1, 2, 5]) (sps := [⟨[2], [], [4], [(.slot 50)]⟩, ⟨[4], [], [5], [(.slot 49)]⟩]) (es' := [(_, _), (_, _), (_, _), (49, .v (.bool (c.Kind == 5)))]) (by kernel_rfl) rfl rfl
       ⟨st_plain rfl (op_bin _ _ _ _ _ rfl rfl rfl),
       st_plain rfl (op_assign _ _ _ _ rfl rfl),
       trivial⟩ ?_
      refine pt_then ?_
      refine ht_cond _ rfl (fun hb38 => ?_) (fun hb38 => ?_)
      ·have h := cond_t hb38 h
       refine ht_seq ?_
       refine ht_seqR hn (El := [_, _, _, _, (2, .v (.string (⟨#[82, 83, 69, 84]⟩ : ByteArray)))]) (init := [0, 1, 2, 3]) (fin := [0, 4]) (sps := [⟨[], [], [4], [(.slot 2)]⟩]) (es' := [(_, _), (2, .v (.string (⟨#[82, 83, 69, 84]⟩ : ByteArray)))]) (by kernel_rfl) rfl rfl
        ⟨st_plain rfl (op_assign _ _ _ _ rfl rfl),
        trivial⟩ ?_
       refine pt_then ?_
       refine ht_ret ?_
       refine pt_pick [1] (by kernel_rfl) (es' := [(_, _)]) rfl ?_
       refine pt_r_in ?_
       refine pt_r_then ?_
       obtain rfl := Option.some.inj h
       exact pt_ret hio rfl (.tmp _ _ .nil) rfl rfl
      ·have h := cond_f hb38 h
       refine ht_seq ?_
       refine ht_seqR hn (El := [_, _, _, _, (52, .v (.bool (c.Kind == 6))), (51, .v (.bool (c.Kind == 6)))]) (init := [0, 1, 2, 3]) (fin := [0, 1, 2, 5]) (sps := [⟨[2], [], [4], [(.slot 52)]⟩, ⟨[4], [], [5], [(.slot 51)]⟩]) (es' := [(_, _), (_, _), (_, _), (51, .v (.bool (c.Kind == 6)))]) (by kernel_rfl) rfl rfl
        ⟨st_plain rfl (op_bin _ _ _ _ _ rfl rfl rfl),
        st_plain rfl (op_assign _ _ _ _ rfl rfl),
        trivial⟩ ?_
       refine pt_then ?_
       refine ht_cond _ rfl (fun hb39 => ?_) (fun hb39 => ?_)
       ·have h := cond_t hb39 h
        refine ht_seq ?_
        obtain ⟨v40, hv40, h⟩ := bind_some h
        refine ht_seqR hn (El := [_, _, _, _, (53, .ptr 1 1), (54, .v (.string c.Text)), (55, .v (.string v40)), (2, .v (.string v40))]) (init := [0, 1, 2, 3]) (fin := [0, 7]) (sps := [⟨[1], [], [4], [(.slot 53)]⟩, ⟨[4, 1], [], [5], [(.slot 54)]⟩, ⟨[5], [], [6], [(.slot 55)]⟩, ⟨[6], [], [7], [(.slot 2)]⟩]) (es' := [(_, _), (2, .v (.string v40))]) (by kernel_rfl) rfl rfl
         ⟨st_plain rfl (op_fieldAddr _ _ _ _ 1 0 _ Tryd.underlying26 rfl sz9 rfl rfl (by decide)),
         st_plain rfl (op_load _ _ _ _ _ _ Tryd.underlying9 rfl rfl rfl (Nat.le_of_ble_eq_true rfl) rfl rfl rfl),
         st_plain rfl (op_bin _ _ _ _ _ rfl rfl (cat_ok hv40)),
         st_plain rfl (op_assign _ _ _ _ rfl rfl),
         trivial⟩ ?_
        refine pt_then ?_
        refine ht_ret ?_
        refine pt_pick [1] (by kernel_rfl) (es' := [(_, _)]) rfl ?_
        refine pt_r_in ?_
        refine pt_r_then ?_
        obtain rfl := Option.some.inj h
        exact pt_ret hio rfl (.tmp _ _ .nil) rfl rfl
       ·have h := cond_f hb39 h
        refine ht_seq ?_
        refine ht_seqR hn (El := [_, _, _, _, (57, .v (.bool (c.Kind == 7))), (56, .v (.bool (c.Kind == 7)))]) (init := [0, 1, 2, 3]) (fin := [0, 1, 2, 5]) (sps := [⟨[2], [], [4], [(.slot 57)]⟩, ⟨[4], [], [5], [(.slot 56)]⟩]) (es' := [(_, _), (_, _), (_, _), (56, .v (.bool (c.Kind == 7)))]) (by kernel_rfl) rfl rfl
         ⟨st_plain rfl (op_bin _ _ _ _ _ rfl rfl rfl),
         st_plain rfl (op_assign _ _ _ _ rfl rfl),
         trivial⟩ ?_
        refine pt_then ?_
        refine ht_cond _ rfl (fun hb41 => ?_) (fun hb41 => ?_)
        ·have h := cond_t hb41 h
         refine ht_seq ?_
         refine ht_seqR hn (El := [_, _, _, _, (2, .v (.string (⟨#[78, 79, 79, 80]⟩ : ByteArray)))]) (init := [0, 1, 2, 3]) (fin := [0, 4]) (sps := [⟨[], [], [4], [(.slot 2)]⟩]) (es' := [(_, _), (2, .v (.string (⟨#[78, 79, 79, 80]⟩ : ByteArray)))]) (by kernel_rfl) rfl rfl
          ⟨st_plain rfl (op_assign _ _ _ _ rfl rfl),
          trivial⟩ ?_
         refine pt_then ?_
         refine ht_ret ?_
         refine pt_pick [1] (by kernel_rfl) (es' := [(_, _)]) rfl ?_
         refine pt_r_in ?_
         refine pt_r_then ?_
         obtain rfl := Option.some.inj h
         exact pt_ret hio rfl (.tmp _ _ .nil) rfl rfl
        ·have h := cond_f hb41 h
         refine ht_seq ?_
         refine ht_seqR hn (El := [_, _, _, _, (59, .v (.bool (c.Kind == 8))), (58, .v (.bool (c.Kind == 8)))]) (init := [0, 1, 2, 3]) (fin := [0, 1, 2, 5]) (sps := [⟨[2], [], [4], [(.slot 59)]⟩, ⟨[4], [], [5], [(.slot 58)]⟩]) (es' := [(_, _), (_, _), (_, _), (58, .v (.bool (c.Kind == 8)))]) (by kernel_rfl) rfl rfl
          ⟨st_plain rfl (op_bin _ _ _ _ _ rfl rfl rfl),
          st_plain rfl (op_assign _ _ _ _ rfl rfl),
          trivial⟩ ?_
         refine pt_then ?_
         refine ht_cond _ rfl (fun hb42 => ?_) (fun hb42 => ?_)
         ·have h := cond_t hb42 h
          refine ht_seq ?_
          refine ht_seqR hn (El := [_, _, _, _, (2, .v (.string (⟨#[81, 85, 73, 84]⟩ : ByteArray)))]) (init := [0, 1, 2, 3]) (fin := [0, 4]) (sps := [⟨[], [], [4], [(.slot 2)]⟩]) (es' := [(_, _), (2, .v (.string (⟨#[81, 85, 73, 84]⟩ : ByteArray)))]) (by kernel_rfl) rfl rfl
           ⟨st_plain rfl (op_assign _ _ _ _ rfl rfl),
           trivial⟩ ?_
          refine pt_then ?_
          refine ht_ret ?_
          refine pt_pick [1] (by kernel_rfl) (es' := [(_, _)]) rfl ?_
          refine pt_r_in ?_
          refine pt_r_then ?_
          obtain rfl := Option.some.inj h
          exact pt_ret hio rfl (.tmp _ _ .nil) rfl rfl
         ·have h := cond_f hb42 h
          refine ht_seq ?_
          refine ht_seqR hn (El := [_, _, _, _, (61, .v (.bool (c.Kind == 9))), (60, .v (.bool (c.Kind == 9)))]) (init := [0, 1, 2, 3]) (fin := [0, 1, 2, 5]) (sps := [⟨[2], [], [4], [(.slot 61)]⟩, ⟨[4], [], [5], [(.slot 60)]⟩]) (es' := [(_, _), (_, _), (_, _), (60, .v (.bool (c.Kind == 9)))]) (by kernel_rfl) rfl rfl
           ⟨st_plain rfl (op_bin _ _ _ _ _ rfl rfl rfl),
           st_plain rfl (op_assign _ _ _ _ rfl rfl),
           trivial⟩ ?_
          refine pt_then ?_
          refine ht_cond _ rfl (fun hb43 => ?_) (fun hb43 => ?_)
          ·have h := cond_t hb43 h
           refine ht_seq ?_
           obtain ⟨v44, hv44, h⟩ := bind_some h
           refine ht_seqR hn (El := [_, _, _, _, (62, .ptr 1 1), (63, .v (.string c.Text)), (64, .v (.string v44)), (2, .v (.string v44))]) (init := [0, 1, 2, 3]) (fin := [0, 7]) (sps := [⟨[1], [], [4], [(.slot 62)]⟩, ⟨[4, 1], [], [5], [(.slot 63)]⟩, ⟨[5], [], [6], [(.slot 64)]⟩, ⟨[6], [], [7], [(.slot 2)]⟩]) (es' := [(_, _), (2, .v (.string v44))]) (by kernel_rfl) rfl rfl
            ⟨st_plain rfl (op_fieldAddr _ _ _ _ 1 0 _ Tryd.underlying26 rfl sz9 rfl rfl (by decide)),
            st_plain rfl (op_load _ _ _ _ _ _ Tryd.underlying9 rfl rfl rfl (Nat.le_of_ble_eq_true rfl) rfl rfl rfl),
            st_plain rfl (op_bin _ _ _ _ _ rfl rfl (cat_ok hv44)),
            st_plain rfl (op_assign _ _ _ _ rfl rfl),
            trivial⟩ ?_
           refine pt_then ?_
           refine ht_ret ?_
           refine pt_pick [1] (by kernel_rfl) (es' := [(_, _)]) rfl ?_
           refine pt_r_in ?_
           refine pt_r_then ?_
           obtain rfl := Option.some.inj h
           exact pt_ret hio rfl (.tmp _ _ .nil) rfl rfl
          ·have h := cond_f hb43 h
           refine ht_seq ?_
           refine ht_seqR hn (El := [_, _, _, _, (66, .v (.bool (c.Kind == 10))), (65, .v (.bool (c.Kind == 10)))]) (init := [0, 1, 2, 3]) (fin := [0, 1, 2, 5]) (sps := [⟨[2], [], [4], [(.slot 66)]⟩, ⟨[4], [], [5], [(.slot 65)]⟩]) (es' := [(_, _), (_, _), (_, _), (65, .v (.bool (c.Kind == 10)))]) (by kernel_rfl) rfl rfl
            ⟨st_plain rfl (op_bin _ _ _ _ _ rfl rfl rfl),
            st_plain rfl (op_assign _ _ _ _ rfl rfl),
            trivial⟩ ?_
           refine pt_then ?_
           refine ht_cond _ rfl (fun hb45 => ?_) (fun hb45 => ?_)
           ·have h := cond_t hb45 h
            refine ht_seq ?_
            refine ht_seqR hn (El := [_, _, _, _, (2, .v (.string (⟨#[65, 85, 84, 72, 32, 67, 82, 65, 77, 45, 77, 68, 53]⟩ : ByteArray)))]) (init := [0, 1, 2, 3]) (fin := [0, 4]) (sps := [⟨[], [], [4], [(.slot 2)]⟩]) (es' := [(_, _), (2, .v (.string (⟨#[65, 85, 84, 72, 32, 67, 82, 65, 77, 45, 77, 68, 53]⟩ : ByteArray)))]) (by kernel_rfl) rfl rfl
             ⟨st_plain rfl (op_assign _ _ _ _ rfl rfl),
             trivial⟩ ?_
            refine pt_then ?_
            refine ht_ret ?_
            refine pt_pick [1] (by kernel_rfl) (es' := [(_, _)]) rfl ?_
            refine pt_r_in ?_
            refine pt_r_then ?_
            obtain rfl := Option.some.inj h
            exact pt_ret hio rfl (.tmp _ _ .nil) rfl rfl
           ·have h := cond_f hb45 h
            refine ht_seq ?_
            refine ht_seqR hn (El := [_, _, _, _, (68, .v (.bool (c.Kind == 11))), (67, .v (.bool (c.Kind == 11)))]) (init := [0, 1, 2, 3]) (fin := [0, 1, 5]) (sps := [⟨[2], [], [4], [(.slot 68)]⟩, ⟨[4], [], [5], [(.slot 67)]⟩]) (es' := [(_, _), (_, _), (67, .v (.bool (c.Kind == 11)))]) (by kernel_rfl) rfl rfl
             ⟨st_plain rfl (op_bin _ _ _ _ _ rfl rfl rfl),
             st_plain rfl (op_assign _ _ _ _ rfl rfl),
             trivial⟩ ?_
            refine pt_then ?_
            refine ht_cond _ rfl (fun hb46 => ?_) (fun hb46 => ?_)
            ·have h := cond_t hb46 h
             refine ht_seq ?_
             refine ht_seq ?_
             refine ht_seqR hn (El := [_, _, _, (69, .ptr 1 1), (70, .v (.string c.Text)), (71, .v (.bool ((c.Text.toList == (⟨#[]⟩ : ByteArray).toList))))]) (init := [0, 1, 2]) (fin := [0, 1, 5]) (sps := [⟨[1], [], [3], [(.slot 69)]⟩, ⟨[3, 1], [], [4], [(.slot 70)]⟩, ⟨[4], [], [5], [(.slot 71)]⟩]) (es' := [(_, _), (_, _), (71, .v (.bool ((c.Text.toList == (⟨#[]⟩ : ByteArray).toList))))]) (by kernel_rfl) rfl rfl
              ⟨st_plain rfl (op_fieldAddr _ _ _ _ 1 0 _ Tryd.underlying26 rfl sz9 rfl rfl (by decide)),
              st_plain rfl (op_load _ _ _ _ _ _ Tryd.underlying9 rfl rfl rfl (Nat.le_of_ble_eq_true rfl) rfl rfl rfl),
              st_plain rfl (op_bin _ _ _ _ _ rfl rfl rfl),
              trivial⟩ ?_
             refine pt_then ?_
             refine ht_cond _ rfl (fun hb47 => ?_) (fun hb47 => ?_)
             ·have h := cond_t hb47 h
              refine ht_seq ?_
              refine ht_seqR hn (El := [_, _, _, (2, .v (.string (⟨#[65, 84, 82, 78]⟩ : ByteArray)))]) (init := [0, 1, 2]) (fin := [0, 3]) (sps := [⟨[], [], [3], [(.slot 2)]⟩]) (es' := [(_, _), (2, .v (.string (⟨#[65, 84, 82, 78]⟩ : ByteArray)))]) (by kernel_rfl) rfl rfl
               ⟨st_plain rfl (op_assign _ _ _ _ rfl rfl),
               trivial⟩ ?_
              refine pt_then ?_
              refine ht_ret ?_
              refine pt_pick [1] (by kernel_rfl) (es' := [(_, _)]) rfl ?_
              refine pt_r_then ?_
              refine pt_r_in ?_
              refine pt_r_then ?_
              obtain rfl := Option.some.inj h
              exact pt_ret hio rfl (.tmp _ _ .nil) rfl rfl
             ·have h := cond_f hb47 h
              refine ht_skip ?_
              refine pt_then ?_
              refine ht_seq ?_
              obtain ⟨v48, hv48, h⟩ := bind_some h
              refine ht_seqR hn (El := [_, _, _, (72, .ptr 1 1), (73, .v (.string c.Text)), (74, .v (.string v48)), (2, .v (.string v48))]) (init := [0, 1, 2]) (fin := [0, 6]) (sps := [⟨[1], [], [3], [(.slot 72)]⟩, ⟨[3, 1], [], [4], [(.slot 73)]⟩, ⟨[4], [], [5], [(.slot 74)]⟩, ⟨[5], [], [6], [(.slot 2)]⟩]) (es' := [(_, _), (2, .v (.string v48))]) (by kernel_rfl) rfl rfl
               ⟨st_plain rfl (op_fieldAddr _ _ _ _ 1 0 _ Tryd.underlying26 rfl sz9 rfl rfl (by decide)),
               st_plain rfl (op_load _ _ _ _ _ _ Tryd.underlying9 rfl rfl rfl (Nat.le_of_ble_eq_true rfl) rfl rfl rfl),
               st_plain rfl (op_bin _ _ _ _ _ rfl rfl (cat_ok hv48)),
               st_plain rfl (op_assign _ _ _ _ rfl rfl),
               trivial⟩ ?_
              refine pt_then ?_
              refine ht_ret ?_
              refine pt_pick [1] (by kernel_rfl) (es' := [(_, _)]) rfl ?_
              refine pt_r_in ?_
              refine pt_r_then ?_
              obtain rfl := Option.some.inj h
              exact pt_ret hio rfl (.tmp _ _ .nil) rfl rfl
            ·have h := cond_f hb46 h
             refine ht_skip ?_
             refine pt_inb ?_
             refine pt_then ?_
             refine ht_seq ?_
             refine ht_seqR hn (El := [_, _, _, (2, .v (.string (⟨#[]⟩ : ByteArray)))]) (init := [0, 1, 2]) (fin := [0, 3]) (sps := [⟨[], [], [3], [(.slot 2)]⟩]) (es' := [(_, _), (2, .v (.string (⟨#[]⟩ : ByteArray)))]) (by kernel_rfl) rfl rfl
              ⟨st_plain rfl (op_assign _ _ _ _ rfl rfl),
              trivial⟩ ?_
             refine pt_then ?_
             refine ht_ret ?_
             refine pt_pick [1] (by kernel_rfl) (es' := [(_, _)]) rfl ?_
             obtain rfl := Option.some.inj h
             exact pt_ret hio rfl (.tmp _ _ .nil) rfl rfl
   ·intro u5 h hl6 hr7
    refine ht_seq ?_
    refine ht_seqR hn (El := [_, _, _, _, (16, .v (.bool (c.Kind == 2))), (15, .v (.bool (c.Kind == 2)))]) (init := [0, 1, 2, 3]) (fin := [0, 1, 2, 5]) (sps := [⟨[2], [], [4], [(.slot 16)]⟩, ⟨[4], [], [5], [(.slot 15)]⟩]) (es' := [(_, _), (_, _), (_, _), (15, .v (.bool (c.Kind == 2)))]) (by kernel_rfl) rfl rfl
     ⟨st_plain rfl (op_bin _ _ _ _ _ rfl rfl rfl),
     st_plain rfl (op_assign _ _ _ _ rfl rfl),
     trivial⟩ ?_
    refine pt_then ?_
    refine ht_cond _ rfl (fun hb8 => ?_) (fun hb8 => ?_)
    ·have h := cond_t hb8 h
     refine ht_skip ?_
     exact hl6 _ (Option.some.inj h).symm
    ·have h := cond_f hb8 h
     refine ht_seqR hn (El := [_, _, _, _, (17, .v (.bool (c.Kind == 3))), (15, .v (.bool (c.Kind == 3)))]) (init := [0, 1, 2, 3]) (fin := [0, 1, 2, 5]) (sps := [⟨[2], [], [4], [(.slot 17)]⟩, ⟨[4], [3], [5], [(.slot 15)]⟩]) (es' := [(_, _), (_, _), (_, _), (15, .v (.bool (c.Kind == 3)))]) (by kernel_rfl) rfl rfl
      ⟨st_plain rfl (op_bin _ _ _ _ _ rfl rfl rfl),
      st_plain rfl (LOp.drop [_] (op_assign _ _ _ _ rfl rfl)),
      trivial⟩ ?_
     exact hl6 _ (Option.some.inj h).symm
set_option maxHeartbeats 1000000 in
theorem ok_slices_Equal_api_Param_api_Param (p_s1 : (List T_Param)) (p_s2 : (List T_Param)) (r : Bool) (h : Sh.slices_Equal_api_Param_api_Param p_s1 p_s2 = some r) : FnOK Tryd.prog 29 [.fl .shr 2 (List.flatten (List.map T_Param.enc p_s1)), .fl .shr 2 (List.flatten (List.map T_Param.enc p_s2))] (.v (.bool r)) := by
  unfold Sh.slices_Equal_api_Param_api_Param at h
  refine fn_ok Tryd.func29 rfl (Nat.le_of_ble_eq_true rfl) rfl rfl fun g0 hn hio => ?_
  refine ht_seq ?_
  refine ht_seqR hn (El := [_, _, (4, .v (.bool false))]) (init := [0, 1]) (fin := [0, 1]) (sps := [⟨[], [], [2], [(.slot 4)]⟩]) (es' := [(_, _), (_, _)]) (by kernel_rfl) rfl rfl
   ⟨st_plain rfl (op_assign _ _ _ _ rfl rfl),
   trivial⟩ ?_
  refine pt_then ?_
  refine ht_seq ?_
  refine ht_seq ?_
  refine ht_seqR hn (El := [_, _, (6, .fl .shr 2 (List.flatten (List.map T_Param.enc p_s1))), (7, .v (.int .i64 (p_s1.length : Int))), (8, .fl .shr 2 (List.flatten (List.map T_Param.enc p_s2))), (9, .v (.int .i64 (p_s2.length : Int))), (10, .v (.bool (((p_s1.length : Int) != (p_s2.length : Int)))))]) (init := [0, 1]) (fin := [0, 1, 6]) (sps := [⟨[0], [], [2], [(.slot 6)]⟩, ⟨[2], [], [3], [(.slot 7)]⟩, ⟨[1], [], [4], [(.slot 8)]⟩, ⟨[4], [], [5], [(.slot 9)]⟩, ⟨[3, 5], [], [6], [(.slot 10)]⟩]) (es' := [(_, _), (_, _), (10, .v (.bool (((p_s1.length : Int) != (p_s2.length : Int)))))]) (by kernel_rfl) rfl rfl
   ⟨st_plain rfl (op_move _ _ _ _ rfl rfl),
   st_plain rfl (op_len_fl _ _ _ Tryd.underlying24 rfl (by decide) (flat_len T_Param.len _)),
   st_plain rfl (op_move _ _ _ _ rfl rfl),
   st_plain rfl (op_len_fl _ _ _ Tryd.underlying24 rfl (by decide) (flat_len T_Param.len _)),
   st_plain rfl (op_bin _ _ _ _ _ rfl rfl rfl),
   trivial⟩ ?_
  refine pt_then ?_
  refine ht_cond _ rfl (fun hb1 => ?_) (fun hb1 => ?_)
  ·have h := cond_t hb1 h
   refine ht_seq ?_
   refine ht_seqR hn (El := [_, _, _, (4, .v (.bool false))]) (init := [0, 1, 2]) (fin := [3]) (sps := [⟨[], [], [3], [(.slot 4)]⟩]) (es' := [(4, .v (.bool false))]) (by kernel_rfl) rfl rfl
    ⟨st_plain rfl (op_assign _ _ _ _ rfl rfl),
    trivial⟩ ?_
   refine pt_then ?_
   refine ht_ret ?_
   refine pt_r_then ?_
   obtain rfl := Option.some.inj h
   exact pt_ret hio rfl (.tmp _ _ .nil) rfl rfl
  ·have h := cond_f hb1 h
   refine ht_skip ?_
   refine pt_then ?_
   refine ht_seq ?_
   refine ht_seq ?_
   refine ht_seqR hn (El := [_, _, _, (11, .fl .shr 2 (List.flatten (List.map T_Param.enc p_s1))), (12, .v (.int .i64 (p_s1.length : Int))), (13, .v (.int .i64 0))]) (init := [0, 1, 2]) (fin := [0, 1, 4, 5]) (sps := [⟨[0], [], [3], [(.slot 11)]⟩, ⟨[3], [], [4], [(.slot 12)]⟩, ⟨[], [], [5], [(.slot 13)]⟩]) (es' := [(_, _), (_, _), (12, .v (.int .i64 (p_s1.length : Int))), (13, .v (.int .i64 0))]) (by kernel_rfl) rfl rfl
    ⟨st_plain rfl (op_move _ _ _ _ rfl rfl),
    st_plain rfl (op_len_fl _ _ _ Tryd.underlying24 rfl (by decide) (flat_len T_Param.len _)),
    st_plain rfl (op_move _ _ _ _ rfl rfl),
    trivial⟩ ?_
   refine pt_then ?_
   refine ht_loopS h (fun (s12 : Int) => [(0, .fl .shr 2 (List.flatten (List.map T_Param.enc p_s1))), (1, .fl .shr 2 (List.flatten (List.map T_Param.enc p_s2))), (12, .v (.int .i64 (p_s1.length : Int))), (13, .v (.int .i64 s12))]) (fun (() : Unit) => []) ?_ ?_
   ·rintro ⟨⟩ h
    refine pt_then ?_
    refine ht_seq ?_
    refine ht_seqR hn (El := [(4, .v (.bool true))]) (init := []) (fin := [0]) (sps := [⟨[], [], [0], [(.slot 4)]⟩]) (es' := [(4, .v (.bool true))]) (by kernel_rfl) rfl rfl
     ⟨st_plain rfl (op_assign _ _ _ _ rfl rfl),
     trivial⟩ ?_
    refine pt_then ?_
    refine ht_ret ?_
    obtain rfl := Option.some.inj h
    exact pt_ret hio rfl (.tmp _ _ .nil) rfl rfl
   ·rintro u15 hl16 hr17 s12 rr20 h ho18
    refine ht_seq ?_
    refine ht_seqR hn (El := [_, _, _, _, (14, .v (.bool ((decide (s12 < (p_s1.length : Int))))))]) (init := [0, 1, 2, 3]) (fin := [0, 1, 2, 3, 4]) (sps := [⟨[3, 2], [], [4], [(.slot 14)]⟩]) (es' := [(_, _), (_, _), (_, _), (_, _), (14, .v (.bool ((decide (s12 < (p_s1.length : Int))))))]) (by kernel_rfl) rfl rfl
     ⟨st_plain rfl (op_bin _ _ _ _ _ rfl rfl rfl),
     trivial⟩ ?_
    refine pt_then ?_
    refine ht_seq ?_
    refine ht_cond _ rfl (fun hb21 => ?_) (fun hb21 => ?_)
    ·have h := cond_t hb21 h
     refine ht_skip ?_
     refine pt_then ?_
     refine ht_seq ?_
     refine ht_block ?_
     refine ht_seq ?_
     refine ht_seqR hn (El := [_, _, _, _, _, (15, .v (.int .i64 s12)), (5, .v (.int .i64 s12))]) (init := [0, 1, 2, 3, 4]) (fin := [0, 1, 2, 3, 6]) (sps := [⟨[3], [], [5], [(.slot 15)]⟩, ⟨[5], [], [6], [(.slot 5)]⟩]) (es' := [(_, _), (_, _), (_, _), (_, _), (5, .v (.int .i64 s12))]) (by kernel_rfl) rfl rfl
      ⟨st_plain rfl (op_move _ _ _ _ rfl rfl),
      st_plain rfl (op_assign _ _ _ _ rfl rfl),
      trivial⟩ ?_
     refine pt_then ?_
     refine ht_seq ?_
     obtain ⟨v3, hv3, h⟩ := bind_some h
     obtain ⟨v4, hv4, h⟩ := bind_some h
     obtain ⟨v5, hv5, h⟩ := bind_some h
     obtain ⟨v6, hv6, h⟩ := bind_some h
     refine ht_anyR (by kernel_rfl) hn (El := [_, _, _, _, _, (16, .fl .shr 2 (List.flatten (List.map T_Param.enc p_s1))), (17, .v (.int .i64 s12)), (18, .eref (.slot 16) (v3 * 2)), (19, .agg [.v (.string v4.Key), .v (.string v4.Val)]), (20, .fl .shr 2 (List.flatten (List.map T_Param.enc p_s2))), (21, .v (.int .i64 s12)), (22, .eref (.slot 20) (v5 * 2)), (23, .agg [.v (.string v6.Key), .v (.string v6.Val)]), (24, .v (.bool ((!((v4.Key.toList == v6.Key.toList) && ((v4.Val.toList == v6.Val.toList) && true))))))]) (init := [0, 1, 2, 3, 4]) (fin := [0, 1, 2, 3, 13]) (sps := [⟨[0], [], [5], [(.slot 16)]⟩, ⟨[4], [], [6], [(.slot 17)]⟩, ⟨[5, 6], [], [7], [(.slot 18)]⟩, ⟨[7, 5], [], [8], [(.slot 19)]⟩, ⟨[1], [], [9], [(.slot 20)]⟩, ⟨[4], [], [10], [(.slot 21)]⟩, ⟨[9, 10], [], [11], [(.slot 22)]⟩, ⟨[11, 9], [], [12], [(.slot 23)]⟩, ⟨[8, 12], [], [13], [(.slot 24)]⟩]) (es' := [(_, _), (_, _), (_, _), (_, _), (24, .v (.bool ((!((v4.Key.toList == v6.Key.toList) && ((v4.Val.toList == v6.Val.toList) && true))))))]) (by kernel_rfl) rfl rfl
      ⟨st_plain rfl (op_move _ _ _ _ rfl rfl),
      st_plain rfl (op_move _ _ _ _ rfl rfl),
      st_plain rfl (op_ix _ _ _ _ _ _ _ _ Tryd.underlying24 sz46 (by decide) rfl rfl rfl (ix_ok hv3).1 (flat_lt T_Param.len (ix_ok hv3).2) rfl),
      st_plain rfl (op_load_eA _ _ _ _ _ _ _ Tryd.underlying46 rfl sz46 rfl rfl (flat_get T_Param.len hv4) rfl (by decide)),
      st_plain rfl (op_move _ _ _ _ rfl rfl),
      st_plain rfl (op_move _ _ _ _ rfl rfl),
      st_plain rfl (op_ix _ _ _ _ _ _ _ _ Tryd.underlying24 sz46 (by decide) rfl rfl rfl (ix_ok hv5).1 (flat_lt T_Param.len (ix_ok hv5).2) rfl),
      st_plain rfl (op_load_eA _ _ _ _ _ _ _ Tryd.underlying46 rfl sz46 rfl rfl (flat_get T_Param.len hv6) rfl (by decide)),
      st_plain rfl (op_eq_st _ _ [.string v4.Key, .string v4.Val] [.string v6.Key, .string v6.Val] (((v4.Key.toList == v6.Key.toList) && ((v4.Val.toList == v6.Val.toList) && true))) _ true (by kernel_rfl) (by kernel_rfl) (by kernel_rfl) (by kernel_rfl) (by kernel_rfl) rfl rfl rfl rfl (by kernel_rfl) rfl),
      trivial⟩ ?_
     refine pt_then ?_
     refine ht_cond _ rfl (fun hb22 => ?_) (fun hb22 => ?_)
     ·have h := cond_t hb22 h
      refine ht_seq ?_
      refine ht_seqR hn (El := [_, _, _, _, _, (4, .v (.bool false))]) (init := [0, 1, 2, 3, 4]) (fin := [5]) (sps := [⟨[], [], [5], [(.slot 4)]⟩]) (es' := [(4, .v (.bool false))]) (by kernel_rfl) rfl rfl
       ⟨st_plain rfl (op_assign _ _ _ _ rfl rfl),
       trivial⟩ ?_
      refine pt_then ?_
      refine ht_ret ?_
      refine pt_r_in ?_
      refine pt_r_then ?_
      refine pt_r_then ?_
      refine pt_r_in ?_
      refine pt_r_then ?_
      have h := hr17 _ (ho18 _ (Option.some.inj h).symm).symm
      obtain rfl := Option.some.inj h
      exact pt_ret hio rfl (.tmp _ _ .nil) rfl rfl
     ·have h := cond_f hb22 h
      refine ht_skip ?_
      refine pt_inb ?_
      refine pt_then ?_
      obtain ⟨v8, hv8, h⟩ := bind_some h
      refine ht_seqR hn (El := [_, _, _, _, _, (25, .v (.int .i64 v8)), (13, .v (.int .i64 v8))]) (init := [0, 1, 2, 3, 4]) (fin := [0, 1, 2, 6]) (sps := [⟨[3], [], [5], [(.slot 25)]⟩, ⟨[5], [3], [6], [(.slot 13)]⟩]) (es' := [(_, _), (_, _), (_, _), (13, .v (.int .i64 v8))]) (by kernel_rfl) rfl rfl
       ⟨st_plain rfl (op_bin _ _ _ _ _ rfl rfl (ibind (f := Value.int .i64) (Option.some.inj hv8))),
       st_plain rfl (LOp.drop [_] (op_move _ _ _ _ rfl rfl)),
       trivial⟩ ?_
      exact pt_next _ (Option.some.inj h).symm rfl
    ·have h := cond_f hb21 h
     refine ht_exit ?_
     refine pt_x_then ?_
     refine pt_x_then ?_
     refine pt_x_in ?_
     refine pt_pick [] (by kernel_rfl) (es' := []) rfl ?_
     exact hl16 _ (ho18 _ (Option.some.inj h).symm).symm
set_option maxHeartbeats 1000000 in
theorem ok_verb_same (a : T_Cmd) (b : T_Cmd) (r : Bool) (h : Sh.verb_same a b = some r) : FnOK Tryd.prog 15 [.agg [.v (.int .i64 a.Kind), .v (.string a.Text), .v (.bool a.Path.Null), .v (.string a.Path.Local), .v (.string a.Path.Domain), .fl .shr 2 (List.flatten (List.map T_Param.enc a.Params))], .agg [.v (.int .i64 b.Kind), .v (.string b.Text), .v (.bool b.Path.Null), .v (.string b.Path.Local), .v (.string b.Path.Domain), .fl .shr 2 (List.flatten (List.map T_Param.enc b.Params))]] (.v (.bool r)) := by
  unfold Sh.verb_same at h
  refine fn_ok Tryd.func15 rfl (Nat.le_of_ble_eq_true rfl) rfl rfl fun g0 hn hio => ?_
  refine ht_seq ?_
  refine ht_seqR hn (El := [_, _, (2, .box 26 [.v (.int .i64 a.Kind), .v (.string a.Text), .v (.bool a.Path.Null), .v (.string a.Path.Local), .v (.string a.Path.Domain), .fl .shr 2 (List.flatten (List.map T_Param.enc a.Params))]), (3, .box 26 [.v (.int .i64 b.Kind), .v (.string b.Text), .v (.bool b.Path.Null), .v (.string b.Path.Local), .v (.string b.Path.Domain), .fl .shr 2 (List.flatten (List.map T_Param.enc b.Params))]), (4, .v (.bool false))]) (init := [0, 1]) (fin := [2, 3]) (sps := [⟨[0], [], [2], [(.slot 2)]⟩, ⟨[1], [], [3], [(.slot 3)]⟩, ⟨[], [], [4], [(.slot 4)]⟩]) (es' := [(2, .box 26 [.v (.int .i64 a.Kind), .v (.string a.Text), .v (.bool a.Path.Null), .v (.string a.Path.Local), .v (.string a.Path.Domain), .fl .shr 2 (List.flatten (List.map T_Param.enc a.Params))]), (3, .box 26 [.v (.int .i64 b.Kind), .v (.string b.Text), .v (.bool b.Path.Null), .v (.string b.Path.Local), .v (.string b.Path.Domain), .fl .shr 2 (List.flatten (List.map T_Param.enc b.Params))])]) (by kernel_rfl) rfl rfl
   ⟨st_plain rfl (op_box _ _ _ _ rfl rfl rfl),
   st_plain rfl (op_box _ _ _ _ rfl rfl rfl),
   st_plain rfl (op_assign _ _ _ _ rfl rfl),
   trivial⟩ ?_
  refine pt_then ?_
  refine ht_seq ?_
  refine ht_joinS h (fun (s2 : Bool) => [(4, .v (.bool s2))]) ?_ ?_
  ·rintro s2 h
   refine pt_then ?_
   refine ht_ret ?_
   obtain rfl := Option.some.inj h
   exact pt_ret hio rfl (.tmp _ _ .nil) rfl rfl
  ·intro u3 h hl4 hr5
   refine cond_some h (fun hg1_5 h => ?_) (fun hg1_5 h => ?_)
   ·refine cond_some h (fun hg1_12 h => ?_) (fun hg1_12 h => ?_)
    ·refine cond_some h (fun hg1_19 h => ?_) (fun hg1_19 h => ?_)
     ·obtain ⟨v1, hv1, h⟩ := bind_some h
      refine ht_seqR hn (El := (_ :: _ :: (5, .ptr 2 0) :: (6, .v (.int .i64 a.Kind)) :: (7, .ptr 3 0) :: (8, .v (.int .i64 b.Kind)) :: (9, .v (.bool (a.Kind == b.Kind))) :: (10, .v (.bool true)) :: (11, .ptr 2 1) :: (12, .v (.string a.Text)) :: (13, .ptr 3 1) :: (14, .v (.string b.Text)) :: (15, .v (.bool (a.Text.toList == b.Text.toList))) :: (16, .v (.bool (a.Text.toList == b.Text.toList))) :: (17, .v (.bool true)) :: (18, .ptr 2 2) :: (19, .agg [.v (.bool a.Path.Null), .v (.string a.Path.Local), .v (.string a.Path.Domain)]) :: (20, .ptr 3 2) :: (21, .agg [.v (.bool b.Path.Null), .v (.string b.Path.Local), .v (.string b.Path.Domain)]) :: (22, .v (.bool (((a.Path.Null == b.Path.Null) && ((a.Path.Local.toList == b.Path.Local.toList) && ((a.Path.Domain.toList == b.Path.Domain.toList) && true)))))) :: (23, .v (.bool (((a.Path.Null == b.Path.Null) && ((a.Path.Local.toList == b.Path.Local.toList) && ((a.Path.Domain.toList == b.Path.Domain.toList) && true)))))) :: (24, .v (.bool true)) :: (25, .ptr 2 5) :: (26, .fl .shr 2 (List.flatten (List.map T_Param.enc a.Params))) :: (27, .ptr 3 5) :: (28, .fl .shr 2 (List.flatten (List.map T_Param.enc b.Params))) :: (29, .v (.bool v1)) :: (30, .v (.bool v1)) :: (4, .v (.bool v1)) :: [])) (init := [0, 1]) (fin := [28]) (sps := (⟨[0], [], [2], [(.slot 5)]⟩ :: ⟨[2, 0], [], [3], [(.slot 6)]⟩ :: ⟨[1], [], [4], [(.slot 7)]⟩ :: ⟨[4, 1], [], [5], [(.slot 8)]⟩ :: ⟨[3, 5], [], [6], [(.slot 9)]⟩ :: ⟨[6], [], [7], [(.slot 10)]⟩ :: ⟨[7, 0], [], [8], [(.slot 11)]⟩ :: ⟨[7, 8, 0], [], [9], [(.slot 12)]⟩ :: ⟨[7, 1], [], [10], [(.slot 13)]⟩ :: ⟨[7, 10, 1], [], [11], [(.slot 14)]⟩ :: ⟨[7, 9, 11], [], [12], [(.slot 15)]⟩ :: ⟨[7, 12], [], [13], [(.slot 16)]⟩ :: ⟨[13], [], [14], [(.slot 17)]⟩ :: ⟨[14, 0], [], [15], [(.slot 18)]⟩ :: ⟨[14, 15, 0], [], [16], [(.slot 19)]⟩ :: ⟨[14, 1], [], [17], [(.slot 20)]⟩ :: ⟨[14, 17, 1], [], [18], [(.slot 21)]⟩ :: ⟨[14, 16, 18], [], [19], [(.slot 22)]⟩ :: ⟨[14, 19], [], [20], [(.slot 23)]⟩ :: ⟨[20], [], [21], [(.slot 24)]⟩ :: ⟨[21, 0], [], [22], [(.slot 25)]⟩ :: ⟨[21, 22, 0], [], [23], [(.slot 26)]⟩ :: ⟨[21, 1], [], [24], [(.slot 27)]⟩ :: ⟨[21, 24, 1], [], [25], [(.slot 28)]⟩ :: ⟨[21, 23, 25], [], [26], [(.slot 29)]⟩ :: ⟨[21, 26], [], [27], [(.slot 30)]⟩ :: ⟨[27], [], [28], [(.slot 4)]⟩ :: [])) (es' := [(4, .v (.bool v1))]) (by kernel_rfl) rfl rfl
       ⟨st_plain rfl (op_fieldAddr _ _ _ _ 2 0 _ Tryd.underlying26 rfl sz3 rfl rfl (by decide)),
       st_plain rfl (op_load _ _ _ _ _ _ Tryd.underlying3 rfl rfl rfl (Nat.le_of_ble_eq_true rfl) rfl rfl rfl),
       st_plain rfl (op_fieldAddr _ _ _ _ 3 0 _ Tryd.underlying26 rfl sz3 rfl rfl (by decide)),
       st_plain rfl (op_load _ _ _ _ _ _ Tryd.underlying3 rfl rfl rfl (Nat.le_of_ble_eq_true rfl) rfl rfl rfl),
       st_plain rfl (op_bin _ _ _ _ _ rfl rfl rfl),
       st_plain rfl (op_move _ _ _ _ (congrArg (fun b => AV.v (Value.bool b)) hg1_5) rfl),
       st_run 5 10 true rfl rfl rfl (List.Mem.head _) (op_fieldAddr _ _ _ _ 2 0 _ Tryd.underlying26 rfl sz9 rfl rfl (by decide)),
       st_run 5 10 true rfl rfl rfl (List.Mem.head _) (op_load _ _ _ _ _ _ Tryd.underlying9 rfl rfl rfl (Nat.le_of_ble_eq_true rfl) rfl rfl rfl),
       st_run 5 10 true rfl rfl rfl (List.Mem.head _) (op_fieldAddr _ _ _ _ 3 0 _ Tryd.underlying26 rfl sz9 rfl rfl (by decide)),
       st_run 5 10 true rfl rfl rfl (List.Mem.head _) (op_load _ _ _ _ _ _ Tryd.underlying9 rfl rfl rfl (Nat.le_of_ble_eq_true rfl) rfl rfl rfl),
       st_run 5 10 true rfl rfl rfl (List.Mem.head _) (op_bin _ _ _ _ _ rfl rfl rfl),
       st_plain rfl (op_pick _ _ true _ rfl rfl),
       st_plain rfl (op_move _ _ _ _ (congrArg (fun b => AV.v (Value.bool b)) hg1_12) rfl),
       st_run 12 17 true rfl rfl rfl (List.Mem.head _) (op_fieldAddr _ _ _ _ 2 0 _ Tryd.underlying26 rfl sz23 rfl rfl (by decide)),
       st_run 12 17 true rfl rfl rfl (List.Mem.head _) (op_loadA _ _ _ _ _ _ _ Tryd.underlying23 rfl sz23 rfl rfl (Nat.le_of_ble_eq_true rfl) rfl rfl),
       st_run 12 17 true rfl rfl rfl (List.Mem.head _) (op_fieldAddr _ _ _ _ 3 0 _ Tryd.underlying26 rfl sz23 rfl rfl (by decide)),
       st_run 12 17 true rfl rfl rfl (List.Mem.head _) (op_loadA _ _ _ _ _ _ _ Tryd.underlying23 rfl sz23 rfl rfl (Nat.le_of_ble_eq_true rfl) rfl rfl),
       st_run 12 17 true rfl rfl rfl (List.Mem.head _) (op_eq_st _ _ [.bool a.Path.Null, .string a.Path.Local, .string a.Path.Domain] [.bool b.Path.Null, .string b.Path.Local, .string b.Path.Domain] (((a.Path.Null == b.Path.Null) && ((a.Path.Local.toList == b.Path.Local.toList) && ((a.Path.Domain.toList == b.Path.Domain.toList) && true)))) _ false (by kernel_rfl) (by kernel_rfl) (by kernel_rfl) (by kernel_rfl) (by kernel_rfl) rfl rfl rfl rfl (by kernel_rfl) rfl),
       st_plain rfl (op_pick _ _ true _ rfl rfl),
       st_plain rfl (op_move _ _ _ _ (congrArg (fun b => AV.v (Value.bool b)) hg1_19) rfl),
       st_run 19 24 true rfl rfl rfl (List.Mem.head _) (op_fieldAddr _ _ _ _ 2 0 _ Tryd.underlying26 rfl sz24 rfl rfl (by decide)),
       st_run 19 24 true rfl rfl rfl (List.Mem.head _) (op_load _ _ _ _ _ _ Tryd.underlying24 rfl rfl rfl (Nat.le_of_ble_eq_true rfl) rfl rfl rfl),
       st_run 19 24 true rfl rfl rfl (List.Mem.head _) (op_fieldAddr _ _ _ _ 3 0 _ Tryd.underlying26 rfl sz24 rfl rfl (by decide)),
       st_run 19 24 true rfl rfl rfl (List.Mem.head _) (op_load _ _ _ _ _ _ Tryd.underlying24 rfl rfl rfl (Nat.le_of_ble_eq_true rfl) rfl rfl rfl),
       st_run 19 24 true rfl rfl rfl (List.Mem.head _) (op_call _ _ 29 _ _ rfl Tryd.call29 rfl (ok_slices_Equal_api_Param_api_Param a.Params b.Params _ hv1) rfl rfl),
       st_plain rfl (op_pick _ _ true _ rfl rfl),
       st_plain rfl (op_assign _ _ _ _ rfl rfl),
       trivial⟩ ?_
      exact hl4 _ (Option.some.inj h).symm
     ·refine ht_seqR hn (El := (_ :: _ :: (5, .ptr 2 0) :: (6, .v (.int .i64 a.Kind)) :: (7, .ptr 3 0) :: (8, .v (.int .i64 b.Kind)) :: (9, .v (.bool (a.Kind == b.Kind))) :: (10, .v (.bool true)) :: (11, .ptr 2 1) :: (12, .v (.string a.Text)) :: (13, .ptr 3 1) :: (14, .v (.string b.Text)) :: (15, .v (.bool (a.Text.toList == b.Text.toList))) :: (16, .v (.bool (a.Text.toList == b.Text.toList))) :: (17, .v (.bool true)) :: (18, .ptr 2 2) :: (19, .agg [.v (.bool a.Path.Null), .v (.string a.Path.Local), .v (.string a.Path.Domain)]) :: (20, .ptr 3 2) :: (21, .agg [.v (.bool b.Path.Null), .v (.string b.Path.Local), .v (.string b.Path.Domain)]) :: (22, .v (.bool (((a.Path.Null == b.Path.Null) && ((a.Path.Local.toList == b.Path.Local.toList) && ((a.Path.Domain.toList == b.Path.Domain.toList) && true)))))) :: (23, .v (.bool (((a.Path.Null == b.Path.Null) && ((a.Path.Local.toList == b.Path.Local.toList) && ((a.Path.Domain.toList == b.Path.Domain.toList) && true)))))) :: (24, .v (.bool false)) :: (25, .v undef) :: (26, .v undef) :: (27, .v undef) :: (28, .v undef) :: (29, .v undef) :: (30, .v (.bool false)) :: (4, .v (.bool false)) :: [])) (init := [0, 1]) (fin := [28]) (sps := (⟨[0], [], [2], [(.slot 5)]⟩ :: ⟨[2, 0], [], [3], [(.slot 6)]⟩ :: ⟨[1], [], [4], [(.slot 7)]⟩ :: ⟨[4, 1], [], [5], [(.slot 8)]⟩ :: ⟨[3, 5], [], [6], [(.slot 9)]⟩ :: ⟨[6], [], [7], [(.slot 10)]⟩ :: ⟨[7, 0], [], [8], [(.slot 11)]⟩ :: ⟨[7, 8, 0], [], [9], [(.slot 12)]⟩ :: ⟨[7, 1], [], [10], [(.slot 13)]⟩ :: ⟨[7, 10, 1], [], [11], [(.slot 14)]⟩ :: ⟨[7, 9, 11], [], [12], [(.slot 15)]⟩ :: ⟨[7, 12], [], [13], [(.slot 16)]⟩ :: ⟨[13], [], [14], [(.slot 17)]⟩ :: ⟨[14, 0], [], [15], [(.slot 18)]⟩ :: ⟨[14, 15, 0], [], [16], [(.slot 19)]⟩ :: ⟨[14, 1], [], [17], [(.slot 20)]⟩ :: ⟨[14, 17, 1], [], [18], [(.slot 21)]⟩ :: ⟨[14, 16, 18], [], [19], [(.slot 22)]⟩ :: ⟨[14, 19], [], [20], [(.slot 23)]⟩ :: ⟨[20], [], [21], [(.slot 24)]⟩ :: ⟨[21], [], [22], [(.slot 25)]⟩ :: ⟨[21], [], [23], [(.slot 26)]⟩ :: ⟨[21], [], [24], [(.slot 27)]⟩ :: ⟨[21], [], [25], [(.slot 28)]⟩ :: ⟨[21], [], [26], [(.slot 29)]⟩ :: ⟨[21], [], [27], [(.slot 30)]⟩ :: ⟨[27], [], [28], [(.slot 4)]⟩ :: [])) (es' := [(4, .v (.bool false))]) (by kernel_rfl) rfl rfl
       ⟨st_plain rfl (op_fieldAddr _ _ _ _ 2 0 _ Tryd.underlying26 rfl sz3 rfl rfl (by decide)),
       st_plain rfl (op_load _ _ _ _ _ _ Tryd.underlying3 rfl rfl rfl (Nat.le_of_ble_eq_true rfl) rfl rfl rfl),
       st_plain rfl (op_fieldAddr _ _ _ _ 3 0 _ Tryd.underlying26 rfl sz3 rfl rfl (by decide)),
       st_plain rfl (op_load _ _ _ _ _ _ Tryd.underlying3 rfl rfl rfl (Nat.le_of_ble_eq_true rfl) rfl rfl rfl),
       st_plain rfl (op_bin _ _ _ _ _ rfl rfl rfl),
       st_plain rfl (op_move _ _ _ _ (congrArg (fun b => AV.v (Value.bool b)) hg1_5) rfl),
       st_run 5 10 true rfl rfl rfl (List.Mem.head _) (op_fieldAddr _ _ _ _ 2 0 _ Tryd.underlying26 rfl sz9 rfl rfl (by decide)),
       st_run 5 10 true rfl rfl rfl (List.Mem.head _) (op_load _ _ _ _ _ _ Tryd.underlying9 rfl rfl rfl (Nat.le_of_ble_eq_true rfl) rfl rfl rfl),
       st_run 5 10 true rfl rfl rfl (List.Mem.head _) (op_fieldAddr _ _ _ _ 3 0 _ Tryd.underlying26 rfl sz9 rfl rfl (by decide)),
       st_run 5 10 true rfl rfl rfl (List.Mem.head _) (op_load _ _ _ _ _ _ Tryd.underlying9 rfl rfl rfl (Nat.le_of_ble_eq_true rfl) rfl rfl rfl),
       st_run 5 10 true rfl rfl rfl (List.Mem.head _) (op_bin _ _ _ _ _ rfl rfl rfl),
       st_plain rfl (op_pick _ _ true _ rfl rfl),
       st_plain rfl (op_move _ _ _ _ (congrArg (fun b => AV.v (Value.bool b)) hg1_12) rfl),
       st_run 12 17 true rfl rfl rfl (List.Mem.head _) (op_fieldAddr _ _ _ _ 2 0 _ Tryd.underlying26 rfl sz23 rfl rfl (by decide)),
       st_run 12 17 true rfl rfl rfl (List.Mem.head _) (op_loadA _ _ _ _ _ _ _ Tryd.underlying23 rfl sz23 rfl rfl (Nat.le_of_ble_eq_true rfl) rfl rfl),
       st_run 12 17 true rfl rfl rfl (List.Mem.head _) (op_fieldAddr _ _ _ _ 3 0 _ Tryd.underlying26 rfl sz23 rfl rfl (by decide)),
       st_run 12 17 true rfl rfl rfl (List.Mem.head _) (op_loadA _ _ _ _ _ _ _ Tryd.underlying23 rfl sz23 rfl rfl (Nat.le_of_ble_eq_true rfl) rfl rfl),
       st_run 12 17 true rfl rfl rfl (List.Mem.head _) (op_eq_st _ _ [.bool a.Path.Null, .string a.Path.Local, .string a.Path.Domain] [.bool b.Path.Null, .string b.Path.Local, .string b.Path.Domain] (((a.Path.Null == b.Path.Null) && ((a.Path.Local.toList == b.Path.Local.toList) && ((a.Path.Domain.toList == b.Path.Domain.toList) && true)))) _ false (by kernel_rfl) (by kernel_rfl) (by kernel_rfl) (by kernel_rfl) (by kernel_rfl) rfl rfl rfl rfl (by kernel_rfl) rfl),
       st_plain rfl (op_pick _ _ true _ rfl rfl),
       st_plain rfl (op_move _ _ _ _ (congrArg (fun b => AV.v (Value.bool b)) hg1_19) rfl),
       st_skip 19 24 _ true rfl rfl rfl rfl (List.Mem.head _),
       st_skip 19 24 _ true rfl rfl rfl rfl (List.Mem.head _),
       st_skip 19 24 _ true rfl rfl rfl rfl (List.Mem.head _),
       st_skip 19 24 _ true rfl rfl rfl rfl (List.Mem.head _),
       st_skip 19 24 _ true rfl rfl rfl rfl (List.Mem.head _),
       st_plain rfl (op_pick _ _ false _ rfl rfl),
       st_plain rfl (op_assign _ _ _ _ rfl rfl),
       trivial⟩ ?_
      exact hl4 _ (Option.some.inj h).symm
    ·refine ht_seqR hn (El := (_ :: _ :: (5, .ptr 2 0) :: (6, .v (.int .i64 a.Kind)) :: (7, .ptr 3 0) :: (8, .v (.int .i64 b.Kind)) :: (9, .v (.bool (a.Kind == b.Kind))) :: (10, .v (.bool true)) :: (11, .ptr 2 1) :: (12, .v (.string a.Text)) :: (13, .ptr 3 1) :: (14, .v (.string b.Text)) :: (15, .v (.bool (a.Text.toList == b.Text.toList))) :: (16, .v (.bool (a.Text.toList == b.Text.toList))) :: (17, .v (.bool false)) :: (18, .v undef) :: (19, .v undef) :: (20, .v undef) :: (21, .v undef) :: (22, .v undef) :: (23, .v (.bool false)) :: (24, .v (.bool false)) :: (25, .v undef) :: (26, .v undef) :: (27, .v undef) :: (28, .v undef) :: (29, .v undef) :: (30, .v (.bool false)) :: (4, .v (.bool false)) :: [])) (init := [0, 1]) (fin := [28]) (sps := (⟨[0], [], [2], [(.slot 5)]⟩ :: ⟨[2, 0], [], [3], [(.slot 6)]⟩ :: ⟨[1], [], [4], [(.slot 7)]⟩ :: ⟨[4, 1], [], [5], [(.slot 8)]⟩ :: ⟨[3, 5], [], [6], [(.slot 9)]⟩ :: ⟨[6], [], [7], [(.slot 10)]⟩ :: ⟨[7, 0], [], [8], [(.slot 11)]⟩ :: ⟨[7, 8, 0], [], [9], [(.slot 12)]⟩ :: ⟨[7, 1], [], [10], [(.slot 13)]⟩ :: ⟨[7, 10, 1], [], [11], [(.slot 14)]⟩ :: ⟨[7, 9, 11], [], [12], [(.slot 15)]⟩ :: ⟨[7, 12], [], [13], [(.slot 16)]⟩ :: ⟨[13], [], [14], [(.slot 17)]⟩ :: ⟨[14], [], [15], [(.slot 18)]⟩ :: ⟨[14], [], [16], [(.slot 19)]⟩ :: ⟨[14], [], [17], [(.slot 20)]⟩ :: ⟨[14], [], [18], [(.slot 21)]⟩ :: ⟨[14], [], [19], [(.slot 22)]⟩ :: ⟨[14], [], [20], [(.slot 23)]⟩ :: ⟨[20], [], [21], [(.slot 24)]⟩ :: ⟨[21], [], [22], [(.slot 25)]⟩ :: ⟨[21], [], [23], [(.slot 26)]⟩ :: ⟨[21], [], [24], [(.slot 27)]⟩ :: ⟨[21], [], [25], [(.slot 28)]⟩ :: ⟨[21], [], [26], [(.slot 29)]⟩ :: ⟨[21], [], [27], [(.slot 30)]⟩ :: ⟨[27], [], [28], [(.slot 4)]⟩ :: [])) (es' := [(4, .v (.bool false))]) (by kernel_rfl) rfl rfl
      ⟨st_plain rfl (op_fieldAddr _ _ _ _ 2 0 _ Tryd.underlying26 rfl sz3 rfl rfl (by decide)),
      st_plain rfl (op_load _ _ _ _ _ _ Tryd.underlying3 rfl rfl rfl (Nat.le_of_ble_eq_true rfl) rfl rfl rfl),
      st_plain rfl (op_fieldAddr _ _ _ _ 3 0 _ Tryd.underlying26 rfl sz3 rfl rfl (by decide)),
      st_plain rfl (op_load _ _ _ _ _ _ Tryd.underlying3 rfl rfl rfl (Nat.le_of_ble_eq_true rfl) rfl rfl rfl),
      st_plain rfl (op_bin _ _ _ _ _ rfl rfl rfl),
      st_plain rfl (op_move _ _ _ _ (congrArg (fun b => AV.v (Value.bool b)) hg1_5) rfl),
      st_run 5 10 true rfl rfl rfl (List.Mem.head _) (op_fieldAddr _ _ _ _ 2 0 _ Tryd.underlying26 rfl sz9 rfl rfl (by decide)),
      st_run 5 10 true rfl rfl rfl (List.Mem.head _) (op_load _ _ _ _ _ _ Tryd.underlying9 rfl rfl rfl (Nat.le_of_ble_eq_true rfl) rfl rfl rfl),
      st_run 5 10 true rfl rfl rfl (List.Mem.head _) (op_fieldAddr _ _ _ _ 3 0 _ Tryd.underlying26 rfl sz9 rfl rfl (by decide)),
      st_run 5 10 true rfl rfl rfl (List.Mem.head _) (op_load _ _ _ _ _ _ Tryd.underlying9 rfl rfl rfl (Nat.le_of_ble_eq_true rfl) rfl rfl rfl),
      st_run 5 10 true rfl rfl rfl (List.Mem.head _) (op_bin _ _ _ _ _ rfl rfl rfl),
      st_plain rfl (op_pick _ _ true _ rfl rfl),
      st_plain rfl (op_move _ _ _ _ (congrArg (fun b => AV.v (Value.bool b)) hg1_12) rfl),
      st_skip 12 17 _ true rfl rfl rfl rfl (List.Mem.head _),
      st_skip 12 17 _ true rfl rfl rfl rfl (List.Mem.head _),
      st_skip 12 17 _ true rfl rfl rfl rfl (List.Mem.head _),
      st_skip 12 17 _ true rfl rfl rfl rfl (List.Mem.head _),
      st_skip 12 17 _ true rfl rfl rfl rfl (List.Mem.head _),
      st_plain rfl (op_pick _ _ false _ rfl rfl),
      st_plain rfl (op_move _ _ _ _ rfl rfl),
      st_skip 19 24 _ true rfl rfl rfl rfl (List.Mem.head _),
      st_skip 19 24 _ true rfl rfl rfl rfl (List.Mem.head _),
      st_skip 19 24 _ true rfl rfl rfl rfl (List.Mem.head _),
      st_skip 19 24 _ true rfl rfl rfl rfl (List.Mem.head _),
      st_skip 19 24 _ true rfl rfl rfl rfl (List.Mem.head _),
      st_plain rfl (op_pick _ _ false _ rfl rfl),
      st_plain rfl (op_assign _ _ _ _ rfl rfl),
      trivial⟩ ?_
     exact hl4 _ (Option.some.inj h).symm
   ·refine ht_seqR hn (El := (_ :: _ :: (5, .ptr 2 0) :: (6, .v (.int .i64 a.Kind)) :: (7, .ptr 3 0) :: (8, .v (.int .i64 b.Kind)) :: (9, .v (.bool (a.Kind == b.Kind))) :: (10, .v (.bool false)) :: (11, .v undef) :: (12, .v undef) :: (13, .v undef) :: (14, .v undef) :: (15, .v undef) :: (16, .v (.bool false)) :: (17, .v (.bool false)) :: (18, .v undef) :: (19, .v undef) :: (20, .v undef) :: (21, .v undef) :: (22, .v undef) :: (23, .v (.bool false)) :: (24, .v (.bool false)) :: (25, .v undef) :: (26, .v undef) :: (27, .v undef) :: (28, .v undef) :: (29, .v undef) :: (30, .v (.bool false)) :: (4, .v (.bool false)) :: [])) (init := [0, 1]) (fin := [28]) (sps := (⟨[0], [], [2], [(.slot 5)]⟩ :: ⟨[2, 0], [], [3], [(.slot 6)]⟩ :: ⟨[1], [], [4], [(.slot 7)]⟩ :: ⟨[4, 1], [], [5], [(.slot 8)]⟩ :: ⟨[3, 5], [], [6], [(.slot 9)]⟩ :: ⟨[6], [], [7], [(.slot 10)]⟩ :: ⟨[7], [], [8], [(.slot 11)]⟩ :: ⟨[7], [], [9], [(.slot 12)]⟩ :: ⟨[7], [], [10], [(.slot 13)]⟩ :: ⟨[7], [], [11], [(.slot 14)]⟩ :: ⟨[7], [], [12], [(.slot 15)]⟩ :: ⟨[7], [], [13], [(.slot 16)]⟩ :: ⟨[13], [], [14], [(.slot 17)]⟩ :: ⟨[14], [], [15], [(.slot 18)]⟩ :: ⟨[14], [], [16], [(.slot 19)]⟩ :: ⟨[14], [], [17], [(.slot 20)]⟩ :: ⟨[14], [], [18], [(.slot 21)]⟩ :: ⟨[14], [], [19], [(.slot 22)]⟩ :: ⟨[14], [], [20], [(.slot 23)]⟩ :: ⟨[20], [], [21], [(.slot 24)]⟩ :: ⟨[21], [], [22], [(.slot 25)]⟩ :: ⟨[21], [], [23], [(.slot 26)]⟩ :: ⟨[21], [], [24], [(.slot 27)]⟩ :: ⟨[21], [], [25], [(.slot 28)]⟩ :: ⟨[21], [], [26], [(.slot 29)]⟩ :: ⟨[21], [], [27], [(.slot 30)]⟩ :: ⟨[27], [], [28], [(.slot 4)]⟩ :: [])) (es' := [(4, .v (.bool false))]) (by kernel_rfl) rfl rfl
     ⟨st_plain rfl (op_fieldAddr _ _ _ _ 2 0 _ Tryd.underlying26 rfl sz3 rfl rfl (by decide)),
     st_plain rfl (op_load _ _ _ _ _ _ Tryd.underlying3 rfl rfl rfl (Nat.le_of_ble_eq_true rfl) rfl rfl rfl),
     st_plain rfl (op_fieldAddr _ _ _ _ 3 0 _ Tryd.underlying26 rfl sz3 rfl rfl (by decide)),
     st_plain rfl (op_load _ _ _ _ _ _ Tryd.underlying3 rfl rfl rfl (Nat.le_of_ble_eq_true rfl) rfl rfl rfl),
     st_plain rfl (op_bin _ _ _ _ _ rfl rfl rfl),
     st_plain rfl (op_move _ _ _ _ (congrArg (fun b => AV.v (Value.bool b)) hg1_5) rfl),
     st_skip 5 10 _ true rfl rfl rfl rfl (List.Mem.head _),
     st_skip 5 10 _ true rfl rfl rfl rfl (List.Mem.head _),
     st_skip 5 10 _ true rfl rfl rfl rfl (List.Mem.head _),
     st_skip 5 10 _ true rfl rfl rfl rfl (List.Mem.head _),
     st_skip 5 10 _ true rfl rfl rfl rfl (List.Mem.head _),
     st_plain rfl (op_pick _ _ false _ rfl rfl),
     st_plain rfl (op_move _ _ _ _ rfl rfl),
     st_skip 12 17 _ true rfl rfl rfl rfl (List.Mem.head _),
     st_skip 12 17 _ true rfl rfl rfl rfl (List.Mem.head _),
     st_skip 12 17 _ true rfl rfl rfl rfl (List.Mem.head _),
     st_skip 12 17 _ true rfl rfl rfl rfl (List.Mem.head _),
     st_skip 12 17 _ true rfl rfl rfl rfl (List.Mem.head _),
     st_plain rfl (op_pick _ _ false _ rfl rfl),
     st_plain rfl (op_move _ _ _ _ rfl rfl),
     st_skip 19 24 _ true rfl rfl rfl rfl (List.Mem.head _),
     st_skip 19 24 _ true rfl rfl rfl rfl (List.Mem.head _),
     st_skip 19 24 _ true rfl rfl rfl rfl (List.Mem.head _),
     st_skip 19 24 _ true rfl rfl rfl rfl (List.Mem.head _),
     st_skip 19 24 _ true rfl rfl rfl rfl (List.Mem.head _),
     st_plain rfl (op_pick _ _ false _ rfl rfl),
     st_plain rfl (op_assign _ _ _ _ rfl rfl),
     trivial⟩ ?_
    exact hl4 _ (Option.some.inj h).symm
set_option maxHeartbeats 1000000 in
theorem ok_verb_Text (mx : Int) (c : T_Cmd) (r : (ByteArray × Int)) (h : Sh.verb_Text c = some r) : FnG Tryd.prog (GL mx) 9 [.agg [.v (.int .i64 c.Kind), .v (.string c.Text), .v (.bool c.Path.Null), .v (.string c.Path.Local), .v (.string c.Path.Domain), .fl .shr 2 (List.flatten (List.map T_Param.enc c.Params))]] (.tup [.v (.string r.1), .v (.int .i64 r.2)]) := by
  unfold Sh.verb_Text at h
  refine fn_okG Tryd.func9 rfl (Nat.le_of_ble_eq_true rfl) rfl rfl fun g0 hn hio => ?_
  refine ht_seq ?_
  refine ht_seqR hn (El := [_, _, (1, .box 26 [.v (.int .i64 c.Kind), .v (.string c.Text), .v (.bool c.Path.Null), .v (.string c.Path.Local), .v (.string c.Path.Domain), .fl .shr 2 (List.flatten (List.map T_Param.enc c.Params))]), (2, .v (.string (⟨#[]⟩ : ByteArray))), (3, .v (.int .i64 0))]) (init := [0, 1]) (fin := [1, 2]) (sps := [⟨[0], [], [2], [(.slot 1)]⟩, ⟨[], [], [3], [(.slot 2)]⟩, ⟨[], [], [4], [(.slot 3)]⟩]) (es' := [(_, _), (1, .box 26 [.v (.int .i64 c.Kind), .v (.string c.Text), .v (.bool c.Path.Null), .v (.string c.Path.Local), .v (.string c.Path.Domain), .fl .shr 2 (List.flatten (List.map T_Param.enc c.Params))])]) (by kernel_rfl) rfl rfl
   ⟨st_plain rfl (op_box _ _ _ _ rfl rfl rfl),
   st_plain rfl (op_assign _ _ _ _ rfl rfl),
   st_plain rfl (op_assign _ _ _ _ rfl rfl),
   trivial⟩ ?_
  refine pt_then ?_
  refine ht_seq ?_
  obtain ⟨v1, hv1, h⟩ := bind_some h
  refine ht_seqR hn (El := [_, _, (7, .agg [.v (.int .i64 c.Kind), .v (.string c.Text), .v (.bool c.Path.Null), .v (.string c.Path.Local), .v (.string c.Path.Domain), .fl .shr 2 (List.flatten (List.map T_Param.enc c.Params))]), (8, .v (.string v1)), (4, .v (.string v1))]) (init := [0, 1]) (fin := [0, 1, 4]) (sps := [⟨[1], [], [2], [(.slot 7)]⟩, ⟨[2, 0], [], [3], [(.slot 8)]⟩, ⟨[3], [], [4], [(.slot 4)]⟩]) (es' := [(_, _), (_, _), (4, .v (.string v1))]) (by kernel_rfl) rfl rfl
   ⟨st_plain rfl (op_loadA _ _ _ _ _ _ _ Tryd.underlying26 rfl sz26 rfl rfl (Nat.le_of_ble_eq_true rfl) rfl rfl),
   st_plain rfl (op_callG _ _ 23 14 _ _ rfl Tryd.call14 rfl rfl (fun _ h => h) (ok_verb_format mx ((T_Cmd.mk c.Kind c.Text (T_Path.mk c.Path.Null c.Path.Local c.Path.Domain) c.Params)) _ hv1) rfl rfl),
   st_plain rfl (op_assign _ _ _ _ rfl rfl),
   trivial⟩ ?_
  refine pt_then ?_
  refine ht_seq ?_
  obtain ⟨v2, hv2, h⟩ := bind_some h
  refine ht_seqR hn (El := [_, _, _, (10, .v (.string v1)), (11, .tup [.agg [.v (.int .i64 v2.1.Kind), .v (.string v2.1.Text), .v (.bool v2.1.Path.Null), .v (.string v2.1.Path.Local), .v (.string v2.1.Path.Domain), .fl .ro 2 (List.flatten (List.map T_Param.enc v2.1.Params))], .v (.int .i64 v2.2)]), (9, .tup [.agg [.v (.int .i64 v2.1.Kind), .v (.string v2.1.Text), .v (.bool v2.1.Path.Null), .v (.string v2.1.Path.Local), .v (.string v2.1.Path.Domain), .fl .ro 2 (List.flatten (List.map T_Param.enc v2.1.Params))], .v (.int .i64 v2.2)]), (12, .agg [.v (.int .i64 v2.1.Kind), .v (.string v2.1.Text), .v (.bool v2.1.Path.Null), .v (.string v2.1.Path.Local), .v (.string v2.1.Path.Domain), .fl .ro 2 (List.flatten (List.map T_Param.enc v2.1.Params))]), (13, .v (.int .i64 v2.2)), (5, .box 26 [.v (.int .i64 0), .v (.string (⟨#[]⟩ : ByteArray)), .v (.bool false), .v (.string (⟨#[]⟩ : ByteArray)), .v (.string (⟨#[]⟩ : ByteArray)), .v (.slice none 0 0)]), (5, .box 26 [.v (.int .i64 v2.1.Kind), .v (.string v2.1.Text), .v (.bool v2.1.Path.Null), .v (.string v2.1.Path.Local), .v (.string v2.1.Path.Domain), .fl .ro 2 (List.flatten (List.map T_Param.enc v2.1.Params))]), (6, .v (.int .i64 v2.2))]) (init := [0, 1, 2]) (fin := [0, 1, 2, 9, 10]) (sps := [⟨[2], [], [3], [(.slot 10)]⟩, ⟨[3, 0], [], [4], [(.slot 11)]⟩, ⟨[], [4], [5], [(.slot 9)]⟩, ⟨[5], [], [6], [(.slot 12)]⟩, ⟨[5], [], [7], [(.slot 13)]⟩, ⟨[], [], [8], [(.slot 5)]⟩, ⟨[6], [8], [9], [.cell 5 0, .cell 5 1, .cell 5 2, .cell 5 3, .cell 5 4, .cell 5 5]⟩, ⟨[7], [], [10], [(.slot 6)]⟩]) (es' := [(_, _), (_, _), (_, _), (5, .box 26 [.v (.int .i64 v2.1.Kind), .v (.string v2.1.Text), .v (.bool v2.1.Path.Null), .v (.string v2.1.Path.Local), .v (.string v2.1.Path.Domain), .fl .ro 2 (List.flatten (List.map T_Param.enc v2.1.Params))]), (6, .v (.int .i64 v2.2))]) (by kernel_rfl) rfl rfl
   ⟨st_plain rfl (op_move _ _ _ _ rfl rfl),
   st_plain rfl (op_callG _ _ 23 10 _ _ rfl Tryd.call10 rfl rfl (fun _ h => h) (ok_verb_Parse mx v1 _ hv2) rfl rfl),
   st_plain rfl (op_move_take _ _ _ _ rfl),
   st_plain rfl (op_extract_no _ _ _ _ _ _ rfl rfl (Nat.le_of_ble_eq_true rfl) rfl rfl),
   st_plain rfl (op_extract _ _ _ _ _ rfl rfl (Nat.le_of_ble_eq_true rfl) rfl rfl),
   st_plain rfl (op_alloc _ _ zr26),
   st_plain rfl (op_store _ _ _ _ _ _ _ _ sz26 rfl rfl rfl rfl (Nat.le_of_ble_eq_true rfl) rfl rfl),
   st_plain rfl (op_assign _ _ _ _ rfl rfl),
   trivial⟩ ?_
  refine pt_then ?_
  refine ht_seq ?_
  refine ht_seq ?_
  refine ht_joinS h (fun (s4 : Bool) => [(23, .glob (GL mx)), (4, .v (.string v1)), (21, .v (.bool s4))]) ?_ ?_
  ·rintro s4 h
   refine pt_then ?_
   refine ht_cond _ rfl (fun hb8 => ?_) (fun hb8 => ?_)
   ·have h := cond_t hb8 h
    refine ht_seq ?_
    refine ht_seqR hn (El := [_, _, _, (2, .v (.string (⟨#[]⟩ : ByteArray))), (3, .v (.int .i64 5))]) (init := [0, 1, 2]) (fin := [0, 3, 4]) (sps := [⟨[], [], [3], [(.slot 2)]⟩, ⟨[], [], [4], [(.slot 3)]⟩]) (es' := [(_, _), (2, .v (.string (⟨#[]⟩ : ByteArray))), (3, .v (.int .i64 5))]) (by kernel_rfl) rfl rfl
     ⟨st_plain rfl (op_assign _ _ _ _ rfl rfl),
     st_plain rfl (op_assign _ _ _ _ rfl rfl),
     trivial⟩ ?_
    refine pt_then ?_
    refine ht_ret ?_
    refine pt_pick [1, 2] (by kernel_rfl) (es' := [(_, _), (_, _)]) rfl ?_
    refine pt_r_then ?_
    obtain rfl := Option.some.inj h
    exact pt_ret hio rfl (.tmp _ _ (.tmp _ _ .nil)) rfl rfl
   ·have h := cond_f hb8 h
    refine ht_skip ?_
    refine pt_then ?_
    refine ht_seq ?_
    refine ht_seqR hn (El := [_, _, _, (22, .v (.string v1)), (2, .v (.string v1)), (3, .v (.int .i64 0))]) (init := [0, 1, 2]) (fin := [0, 4, 5]) (sps := [⟨[1], [], [3], [(.slot 22)]⟩, ⟨[3], [], [4], [(.slot 2)]⟩, ⟨[], [], [5], [(.slot 3)]⟩]) (es' := [(_, _), (2, .v (.string v1)), (3, .v (.int .i64 0))]) (by kernel_rfl) rfl rfl
     ⟨st_plain rfl (op_move _ _ _ _ rfl rfl),
     st_plain rfl (op_assign _ _ _ _ rfl rfl),
     st_plain rfl (op_assign _ _ _ _ rfl rfl),
     trivial⟩ ?_
    refine pt_then ?_
    refine ht_ret ?_
    refine pt_pick [1, 2] (by kernel_rfl) (es' := [(_, _), (_, _)]) rfl ?_
    obtain rfl := Option.some.inj h
    exact pt_ret hio rfl (.tmp _ _ (.tmp _ _ .nil)) rfl rfl
  ·intro u5 h hl6 hr7
   refine cond_some h (fun hg3_2 h => ?_) (fun hg3_2 h => ?_)
   ·refine ht_seqR hn (El := [_, _, _, _, _, (14, .v (.int .i64 v2.2)), (15, .v (.bool (v2.2 != 0))), (16, .v (.bool true)), (17, .v undef), (18, .v undef), (19, .v undef), (20, .v undef), (21, .v (.bool true))]) (init := [0, 1, 2, 3, 4]) (fin := [0, 2, 12]) (sps := [⟨[4], [], [5], [(.slot 14)]⟩, ⟨[5], [], [6], [(.slot 15)]⟩, ⟨[6], [], [7], [(.slot 16)]⟩, ⟨[7], [], [8], [(.slot 17)]⟩, ⟨[7], [], [9], [(.slot 18)]⟩, ⟨[7], [], [10], [(.slot 19)]⟩, ⟨[7], [], [11], [(.slot 20)]⟩, ⟨[7], [], [12], [(.slot 21)]⟩]) (es' := [(_, _), (_, _), (21, .v (.bool true))]) (by kernel_rfl) rfl rfl
     ⟨st_plain rfl (op_move _ _ _ _ rfl rfl),
     st_plain rfl (op_bin _ _ _ _ _ rfl rfl rfl),
     st_plain rfl (op_move _ _ _ _ (congrArg (fun b => AV.v (Value.bool b)) hg3_2) rfl),
     st_skip 2 16 _ false rfl rfl rfl rfl (List.Mem.head _),
     st_skip 2 16 _ false rfl rfl rfl rfl (List.Mem.head _),
     st_skip 2 16 _ false rfl rfl rfl rfl (List.Mem.head _),
     st_skip 2 16 _ false rfl rfl rfl rfl (List.Mem.head _),
     st_plain rfl (op_pick _ _ true _ rfl rfl),
     trivial⟩ ?_
    exact hl6 _ (Option.some.inj h).symm
   ·obtain ⟨v3, hv3, h⟩ := bind_some h
    refine ht_seqR hn (El := [_, _, _, _, _, (14, .v (.int .i64 v2.2)), (15, .v (.bool (v2.2 != 0))), (16, .v (.bool false)), (17, .agg [.v (.int .i64 c.Kind), .v (.string c.Text), .v (.bool c.Path.Null), .v (.string c.Path.Local), .v (.string c.Path.Domain), .fl .shr 2 (List.flatten (List.map T_Param.enc c.Params))]), (18, .agg [.v (.int .i64 v2.1.Kind), .v (.string v2.1.Text), .v (.bool v2.1.Path.Null), .v (.string v2.1.Path.Local), .v (.string v2.1.Path.Domain), .fl .ro 2 (List.flatten (List.map T_Param.enc v2.1.Params))]), (19, .v (.bool v3)), (20, .v (.bool (!v3))), (21, .v (.bool (!v3)))]) (init := [0, 1, 2, 3, 4]) (fin := [0, 2, 12]) (sps := [⟨[4], [], [5], [(.slot 14)]⟩, ⟨[5], [], [6], [(.slot 15)]⟩, ⟨[6], [], [7], [(.slot 16)]⟩, ⟨[7, 1], [], [8], [(.slot 17)]⟩, ⟨[7, 3], [], [9], [(.slot 18)]⟩, ⟨[7, 8, 9], [], [10], [(.slot 19)]⟩, ⟨[7, 10], [], [11], [(.slot 20)]⟩, ⟨[7, 11], [], [12], [(.slot 21)]⟩]) (es' := [(_, _), (_, _), (21, .v (.bool (!v3)))]) (by kernel_rfl) rfl rfl
     ⟨st_plain rfl (op_move _ _ _ _ rfl rfl),
     st_plain rfl (op_bin _ _ _ _ _ rfl rfl rfl),
     st_plain rfl (op_move _ _ _ _ (congrArg (fun b => AV.v (Value.bool b)) hg3_2) rfl),
     st_run 2 16 false rfl rfl rfl (List.Mem.head _) (op_loadA _ _ _ _ _ _ _ Tryd.underlying26 rfl sz26 rfl rfl (Nat.le_of_ble_eq_true rfl) rfl rfl),
     st_run 2 16 false rfl rfl rfl (List.Mem.head _) (op_loadA _ _ _ _ _ _ _ Tryd.underlying26 rfl sz26 rfl rfl (Nat.le_of_ble_eq_true rfl) rfl rfl),
     st_run 2 16 false rfl rfl rfl (List.Mem.head _) (op_call _ _ 15 _ _ rfl Tryd.call15 rfl (ok_verb_same ((T_Cmd.mk c.Kind c.Text (T_Path.mk c.Path.Null c.Path.Local c.Path.Domain) c.Params)) ((T_Cmd.mk v2.1.Kind v2.1.Text (T_Path.mk v2.1.Path.Null v2.1.Path.Local v2.1.Path.Domain) v2.1.Params)) _ hv3) rfl rfl),
     st_run 2 16 false rfl rfl rfl (List.Mem.head _) (op_un _ _ _ _ rfl rfl),
     st_plain rfl (op_pick _ _ false _ rfl rfl),
     trivial⟩ ?_
    exact hl6 _ (Option.some.inj h).symm
set_option maxHeartbeats 1000000 in
theorem ok_verb_Param (c : T_Cmd) (key : ByteArray) (r : (ByteArray × Bool)) (h : Sh.verb_Param c key = some r) : FnOK Tryd.prog 21 [.agg [.v (.int .i64 c.Kind), .v (.string c.Text), .v (.bool c.Path.Null), .v (.string c.Path.Local), .v (.string c.Path.Domain), .fl .shr 2 (List.flatten (List.map T_Param.enc c.Params))], .v (.string key)] (.tup [.v (.string r.1), .v (.bool r.2)]) := by
  unfold Sh.verb_Param at h
  refine fn_ok Tryd.func21 rfl (Nat.le_of_ble_eq_true rfl) rfl rfl fun g0 hn hio => ?_
  refine ht_seq ?_
  refine ht_seqR hn (El := [_, _, (2, .box 26 [.v (.int .i64 c.Kind), .v (.string c.Text), .v (.bool c.Path.Null), .v (.string c.Path.Local), .v (.string c.Path.Domain), .fl .shr 2 (List.flatten (List.map T_Param.enc c.Params))]), (4, .v (.string (⟨#[]⟩ : ByteArray))), (5, .v (.bool false))]) (init := [0, 1]) (fin := [1, 2]) (sps := [⟨[0], [], [2], [(.slot 2)]⟩, ⟨[], [], [3], [(.slot 4)]⟩, ⟨[], [], [4], [(.slot 5)]⟩]) (es' := [(_, _), (2, .box 26 [.v (.int .i64 c.Kind), .v (.string c.Text), .v (.bool c.Path.Null), .v (.string c.Path.Local), .v (.string c.Path.Domain), .fl .shr 2 (List.flatten (List.map T_Param.enc c.Params))])]) (by kernel_rfl) rfl rfl
   ⟨st_plain rfl (op_box _ _ _ _ rfl rfl rfl),
   st_plain rfl (op_assign _ _ _ _ rfl rfl),
   st_plain rfl (op_assign _ _ _ _ rfl rfl),
   trivial⟩ ?_
  refine pt_then ?_
  refine ht_seq ?_
  refine ht_seq ?_
  refine ht_seqR hn (El := [_, _, (8, .ptr 2 5), (9, .fl .shr 2 (List.flatten (List.map T_Param.enc c.Params))), (10, .v (.int .i64 (c.Params.length : Int))), (11, .v (.int .i64 0))]) (init := [0, 1]) (fin := [0, 3, 4, 5]) (sps := [⟨[1], [], [2], [(.slot 8)]⟩, ⟨[2, 1], [], [3], [(.slot 9)]⟩, ⟨[3], [], [4], [(.slot 10)]⟩, ⟨[], [], [5], [(.slot 11)]⟩]) (es' := [(_, _), (9, .fl .shr 2 (List.flatten (List.map T_Param.enc c.Params))), (10, .v (.int .i64 (c.Params.length : Int))), (11, .v (.int .i64 0))]) (by kernel_rfl) rfl rfl
   ⟨st_plain rfl (op_fieldAddr _ _ _ _ 2 0 _ Tryd.underlying26 rfl sz24 rfl rfl (by decide)),
   st_plain rfl (op_load _ _ _ _ _ _ Tryd.underlying24 rfl rfl rfl (Nat.le_of_ble_eq_true rfl) rfl rfl rfl),
   st_plain rfl (op_len_fl _ _ _ Tryd.underlying24 rfl (by decide) (flat_len T_Param.len _)),
   st_plain rfl (op_move _ _ _ _ rfl rfl),
   trivial⟩ ?_
  refine pt_then ?_
  refine ht_loopS h (fun (s9 : Int) => [(1, .v (.string key)), (9, .fl .shr 2 (List.flatten (List.map T_Param.enc c.Params))), (10, .v (.int .i64 (c.Params.length : Int))), (11, .v (.int .i64 s9))]) (fun (() : Unit) => []) ?_ ?_
  ·rintro ⟨⟩ h
   refine pt_then ?_
   refine ht_seq ?_
   refine ht_seqR hn (El := [(4, .v (.string (⟨#[]⟩ : ByteArray))), (5, .v (.bool false))]) (init := []) (fin := [0, 1]) (sps := [⟨[], [], [0], [(.slot 4)]⟩, ⟨[], [], [1], [(.slot 5)]⟩]) (es' := [(4, .v (.string (⟨#[]⟩ : ByteArray))), (5, .v (.bool false))]) (by kernel_rfl) rfl rfl
    ⟨st_plain rfl (op_assign _ _ _ _ rfl rfl),
    st_plain rfl (op_assign _ _ _ _ rfl rfl),
    trivial⟩ ?_
   refine pt_then ?_
   refine ht_ret ?_
   obtain rfl := Option.some.inj h
   exact pt_ret hio rfl (.tmp _ _ (.tmp _ _ .nil)) rfl rfl
  ·rintro u12 hl13 hr14 s9 rr17 h ho15
   refine ht_seq ?_
   refine ht_seqR hn (El := [_, _, _, _, (12, .v (.bool ((decide (s9 < (c.Params.length : Int))))))]) (init := [0, 1, 2, 3]) (fin := [0, 1, 2, 3, 4]) (sps := [⟨[3, 2], [], [4], [(.slot 12)]⟩]) (es' := [(_, _), (_, _), (_, _), (_, _), (12, .v (.bool ((decide (s9 < (c.Params.length : Int))))))]) (by kernel_rfl) rfl rfl
    ⟨st_plain rfl (op_bin _ _ _ _ _ rfl rfl rfl),
    trivial⟩ ?_
   refine pt_then ?_
   refine ht_seq ?_
   refine ht_cond _ rfl (fun hb18 => ?_) (fun hb18 => ?_)
   ·have h := cond_t hb18 h
    refine ht_skip ?_
    refine pt_then ?_
    refine ht_seq ?_
    refine ht_block ?_
    refine ht_seq ?_
    obtain ⟨v2, hv2, h⟩ := bind_some h
    obtain ⟨v3, hv3, h⟩ := bind_some h
    refine ht_seqR hn (El := [_, _, _, _, _, (13, .eref (.slot 9) (v2 * 2)), (14, .agg [.v (.string v3.Key), .v (.string v3.Val)]), (7, .box 46 [.v (.string (⟨#[]⟩ : ByteArray)), .v (.string (⟨#[]⟩ : ByteArray))]), (7, .box 46 [.v (.string v3.Key), .v (.string v3.Val)])]) (init := [0, 1, 2, 3, 4]) (fin := [0, 1, 2, 3, 8]) (sps := [⟨[1, 3], [], [5], [(.slot 13)]⟩, ⟨[5, 1], [], [6], [(.slot 14)]⟩, ⟨[], [], [7], [(.slot 7)]⟩, ⟨[6], [7], [8], [.cell 7 0, .cell 7 1]⟩]) (es' := [(_, _), (_, _), (_, _), (_, _), (7, .box 46 [.v (.string v3.Key), .v (.string v3.Val)])]) (by kernel_rfl) rfl rfl
     ⟨st_plain rfl (op_ix _ _ _ _ _ _ _ _ Tryd.underlying24 sz46 (by decide) rfl rfl rfl (ix_ok hv2).1 (flat_lt T_Param.len (ix_ok hv2).2) rfl),
     st_plain rfl (op_load_eA _ _ _ _ _ _ _ Tryd.underlying46 rfl sz46 rfl rfl (flat_get T_Param.len hv3) rfl (by decide)),
     st_plain rfl (op_alloc _ _ zr46),
     st_plain rfl (op_store _ _ _ _ _ _ _ _ sz46 rfl rfl rfl rfl (Nat.le_of_ble_eq_true rfl) rfl rfl),
     trivial⟩ ?_
    refine pt_then ?_
    refine ht_seq ?_
    refine ht_seqR hn (El := [_, _, _, _, _, (15, .ptr 7 0), (16, .v (.string v3.Key)), (17, .v (.string key)), (18, .v (.bool (v3.Key.toList == key.toList)))]) (init := [0, 1, 2, 3, 4]) (fin := [0, 1, 2, 3, 4, 8]) (sps := [⟨[4], [], [5], [(.slot 15)]⟩, ⟨[5, 4], [], [6], [(.slot 16)]⟩, ⟨[0], [], [7], [(.slot 17)]⟩, ⟨[6, 7], [], [8], [(.slot 18)]⟩]) (es' := [(_, _), (_, _), (_, _), (_, _), (_, _), (18, .v (.bool (v3.Key.toList == key.toList)))]) (by kernel_rfl) rfl rfl
     ⟨st_plain rfl (op_fieldAddr _ _ _ _ 7 0 _ Tryd.underlying46 rfl sz9 rfl rfl (by decide)),
     st_plain rfl (op_load _ _ _ _ _ _ Tryd.underlying9 rfl rfl rfl (Nat.le_of_ble_eq_true rfl) rfl rfl rfl),
     st_plain rfl (op_move _ _ _ _ rfl rfl),
     st_plain rfl (op_bin _ _ _ _ _ rfl rfl rfl),
     trivial⟩ ?_
    refine pt_then ?_
    refine ht_cond _ rfl (fun hb19 => ?_) (fun hb19 => ?_)
    ·have h := cond_t hb19 h
     refine ht_seq ?_
     refine ht_seqR hn (El := [_, _, _, _, _, _, (19, .ptr 7 1), (20, .v (.string v3.Val)), (4, .v (.string v3.Val)), (5, .v (.bool true))]) (init := [0, 1, 2, 3, 4, 5]) (fin := [8, 9]) (sps := [⟨[4], [], [6], [(.slot 19)]⟩, ⟨[6, 4], [], [7], [(.slot 20)]⟩, ⟨[7], [], [8], [(.slot 4)]⟩, ⟨[], [], [9], [(.slot 5)]⟩]) (es' := [(4, .v (.string v3.Val)), (5, .v (.bool true))]) (by kernel_rfl) rfl rfl
      ⟨st_plain rfl (op_fieldAddr _ _ _ _ 7 0 _ Tryd.underlying46 rfl sz9 rfl rfl (by decide)),
      st_plain rfl (op_load _ _ _ _ _ _ Tryd.underlying9 rfl rfl rfl (Nat.le_of_ble_eq_true rfl) rfl rfl rfl),
      st_plain rfl (op_assign _ _ _ _ rfl rfl),
      st_plain rfl (op_assign _ _ _ _ rfl rfl),
      trivial⟩ ?_
     refine pt_then ?_
     refine ht_ret ?_
     refine pt_r_in ?_
     refine pt_r_then ?_
     refine pt_r_then ?_
     refine pt_r_in ?_
     refine pt_r_then ?_
     have h := hr14 _ (ho15 _ (Option.some.inj h).symm).symm
     obtain rfl := Option.some.inj h
     exact pt_ret hio rfl (.tmp _ _ (.tmp _ _ .nil)) rfl rfl
    ·have h := cond_f hb19 h
     refine ht_skip ?_
     refine pt_inb ?_
     refine pt_then ?_
     obtain ⟨v5, hv5, h⟩ := bind_some h
     refine ht_seqR hn (El := [_, _, _, _, _, _, (21, .v (.int .i64 v5)), (11, .v (.int .i64 v5))]) (init := [0, 1, 2, 3, 4, 5]) (fin := [0, 1, 2, 7]) (sps := [⟨[3], [], [6], [(.slot 21)]⟩, ⟨[6], [3], [7], [(.slot 11)]⟩]) (es' := [(_, _), (_, _), (_, _), (11, .v (.int .i64 v5))]) (by kernel_rfl) rfl rfl
      ⟨st_plain rfl (op_bin _ _ _ _ _ rfl rfl (ibind (f := Value.int .i64) (Option.some.inj hv5))),
      st_plain rfl (LOp.drop [_] (op_move _ _ _ _ rfl rfl)),
      trivial⟩ ?_
     exact pt_next _ (Option.some.inj h).symm rfl
   ·have h := cond_f hb18 h
    refine ht_exit ?_
    refine pt_x_then ?_
    refine pt_x_then ?_
    refine pt_x_in ?_
    refine pt_pick [] (by kernel_rfl) (es' := []) rfl ?_
    exact hl13 _ (ho15 _ (Option.some.inj h).symm).symm
end Go.Proofs.YthfmdofkkkpbkaaDoor
