/-
  The model's runs are what is told in Lean.
-/
import Derived.Test.YthfmdofkkkpbkaaDoorProg
import Derived.KernelRfl
import Derived.Test.YthfmdofkkkpbkaaDoorShelf
import Derived.Test.YthfmdofkkkpbkaaDoorOkc4
set_option linter.unusedVariables false
set_option linter.unusedSimpArgs false
namespace Go.Proofs.YthfmdofkkkpbkaaDoor
open Go.Abs Go.Abs.Sh

set_option maxHeartbeats 1000000 in
theorem ok_wherrylaw12_VerbLong (mx : Int) (over : Int) (c : Int) (r : Bool) (h : Sh.wherrylaw12_VerbLong over c = some r) : FnG Tryd.prog (GL mx) 7 [.v (.int .i64 over), .v (.int .u8 c)] (.v (.bool r)) := by
  unfold Sh.wherrylaw12_VerbLong at h
  refine fn_okG Tryd.func7 rfl (Nat.le_of_ble_eq_true rfl) rfl rfl fun g0 hn hio => ?_
  refine ht_seq ?_
  refine ht_seqR hn (El := [_, _, _, (4, .v (.bool false))]) (init := [0, 1, 2]) (fin := [0, 1, 2]) (sps := [⟨[], [], [3], [(.slot 4)]⟩]) (es' := [(_, _), (_, _), (_, _)]) (by kernel_rfl) rfl rfl
   ⟨st_plain rfl (op_assign _ _ _ _ rfl rfl),
   trivial⟩ ?_
  refine pt_then ?_
  refine ht_seq ?_
  obtain ⟨v1, hv1, h⟩ := bind_some h
  obtain ⟨v2, hv2, h⟩ := bind_some h
  obtain ⟨v3, hv3, h⟩ := bind_some h
  refine ht_seqR hn (El := [_, _, _, (10, .v (.int .i64 over)), (11, .v (.int .u64 v1)), (12, .v (.int .u64 v2)), (13, .v (.int .i64 v3)), (0, .v (.int .i64 v3))]) (init := [0, 1, 2]) (fin := [1, 2, 7]) (sps := [⟨[0], [], [3], [(.slot 10)]⟩, ⟨[3], [], [4], [(.slot 11)]⟩, ⟨[4], [], [5], [(.slot 12)]⟩, ⟨[5], [], [6], [(.slot 13)]⟩, ⟨[6], [0], [7], [(.slot 0)]⟩]) (es' := [(_, _), (_, _), (0, .v (.int .i64 v3))]) (by kernel_rfl) rfl rfl
   ⟨st_plain rfl (op_move _ _ _ _ rfl rfl),
   st_plain rfl ((Option.some.inj hv1) ▸ op_conv _ _ _ Tryd.underlying3 Tryd.underlying38 rfl),
   st_plain rfl (op_bin _ _ _ _ _ rfl rfl (rem_ok hv2)),
   st_plain rfl ((Option.some.inj hv3) ▸ op_conv _ _ _ Tryd.underlying38 Tryd.underlying3 rfl),
   st_plain rfl (LOp.drop [_] (op_assign _ _ _ _ rfl rfl)),
   trivial⟩ ?_
  refine pt_then ?_
  refine ht_seq ?_
  refine ht_joinS h (fun (s9 : Int) => [(77, .glob (GL mx)), (0, .v (.int .i64 v3)), (1, .v (.int .u8 s9))]) ?_ ?_
  ·rintro s9 h
   refine pt_then ?_
   refine ht_seq ?_
   refine ht_seqR hn (El := [_, _, _, (5, .v (.string (⟨#[86, 82, 70, 89, 32]⟩ : ByteArray)))]) (init := [0, 1, 2]) (fin := [0, 1, 2, 3]) (sps := [⟨[], [], [3], [(.slot 5)]⟩]) (es' := [(_, _), (_, _), (_, _), (5, .v (.string (⟨#[86, 82, 70, 89, 32]⟩ : ByteArray)))]) (by kernel_rfl) rfl rfl
    ⟨st_plain rfl (op_assign _ _ _ _ rfl rfl),
    trivial⟩ ?_
   refine pt_then ?_
   refine ht_seq ?_
   refine ht_loopS h (fun (s24 : ByteArray) => [(77, .glob (GL mx)), (0, .v (.int .i64 v3)), (1, .v (.int .u8 s9)), (5, .v (.string s24))]) (fun (s26 : ByteArray) => [(77, .glob (GL mx)), (0, .v (.int .i64 v3)), (5, .v (.string s26))]) ?_ ?_
   ·rintro s26 h
    refine pt_then ?_
    refine ht_seq ?_
    obtain ⟨v34, hv34, h⟩ := bind_some h
    refine ht_seqR hn (El := [_, _, _, (31, .v (.string s26)), (32, .tup [.agg [.v (.int .i64 v34.1.Kind), .v (.string v34.1.Text), .v (.bool v34.1.Path.Null), .v (.string v34.1.Path.Local), .v (.string v34.1.Path.Domain), .fl .ro 2 (List.flatten (List.map T_Param.enc v34.1.Params))], .v (.int .i64 v34.2)]), (30, .tup [.agg [.v (.int .i64 v34.1.Kind), .v (.string v34.1.Text), .v (.bool v34.1.Path.Null), .v (.string v34.1.Path.Local), .v (.string v34.1.Path.Domain), .fl .ro 2 (List.flatten (List.map T_Param.enc v34.1.Params))], .v (.int .i64 v34.2)]), (33, .agg [.v (.int .i64 v34.1.Kind), .v (.string v34.1.Text), .v (.bool v34.1.Path.Null), .v (.string v34.1.Path.Local), .v (.string v34.1.Path.Domain), .fl .ro 2 (List.flatten (List.map T_Param.enc v34.1.Params))]), (34, .v (.int .i64 v34.2)), (6, .box 26 [.v (.int .i64 0), .v (.string (⟨#[]⟩ : ByteArray)), .v (.bool false), .v (.string (⟨#[]⟩ : ByteArray)), .v (.string (⟨#[]⟩ : ByteArray)), .v (.slice none 0 0)]), (6, .box 26 [.v (.int .i64 v34.1.Kind), .v (.string v34.1.Text), .v (.bool v34.1.Path.Null), .v (.string v34.1.Path.Local), .v (.string v34.1.Path.Domain), .fl .ro 2 (List.flatten (List.map T_Param.enc v34.1.Params))]), (7, .v (.int .i64 v34.2))]) (init := [0, 1, 2]) (fin := [0, 1, 2, 9, 10]) (sps := [⟨[2], [], [3], [(.slot 31)]⟩, ⟨[3, 0], [], [4], [(.slot 32)]⟩, ⟨[], [4], [5], [(.slot 30)]⟩, ⟨[5], [], [6], [(.slot 33)]⟩, ⟨[5], [], [7], [(.slot 34)]⟩, ⟨[], [], [8], [(.slot 6)]⟩, ⟨[6], [8], [9], [.cell 6 0, .cell 6 1, .cell 6 2, .cell 6 3, .cell 6 4, .cell 6 5]⟩, ⟨[7], [], [10], [(.slot 7)]⟩]) (es' := [(_, _), (_, _), (_, _), (6, .box 26 [.v (.int .i64 v34.1.Kind), .v (.string v34.1.Text), .v (.bool v34.1.Path.Null), .v (.string v34.1.Path.Local), .v (.string v34.1.Path.Domain), .fl .ro 2 (List.flatten (List.map T_Param.enc v34.1.Params))]), (7, .v (.int .i64 v34.2))]) (by kernel_rfl) rfl rfl
     ⟨st_plain rfl (op_move _ _ _ _ rfl rfl),
     st_plain rfl (op_callG _ _ 77 10 _ _ rfl Tryd.call10 rfl rfl (fun _ h => h) (ok_verb_Parse mx s26 _ hv34) rfl rfl),
     st_plain rfl (op_move_take _ _ _ _ rfl),
     st_plain rfl (op_extract_no _ _ _ _ _ _ rfl rfl (Nat.le_of_ble_eq_true rfl) rfl rfl),
     st_plain rfl (op_extract _ _ _ _ _ rfl rfl (Nat.le_of_ble_eq_true rfl) rfl rfl),
     st_plain rfl (op_alloc _ _ zr26),
     st_plain rfl (op_store _ _ _ _ _ _ _ _ sz26 rfl rfl rfl rfl (Nat.le_of_ble_eq_true rfl) rfl rfl),
     st_plain rfl (op_assign _ _ _ _ rfl rfl),
     trivial⟩ ?_
    refine pt_then ?_
    refine ht_seq ?_
    refine ht_seq ?_
    refine ht_seqR hn (El := [_, _, _, _, _, (35, .v (.int .i64 v3)), (36, .v (.bool (v3 == 1)))]) (init := [0, 1, 2, 3, 4]) (fin := [0, 2, 3, 4, 6]) (sps := [⟨[1], [], [5], [(.slot 35)]⟩, ⟨[5], [], [6], [(.slot 36)]⟩]) (es' := [(_, _), (_, _), (_, _), (_, _), (36, .v (.bool (v3 == 1)))]) (by kernel_rfl) rfl rfl
     ⟨st_plain rfl (op_move _ _ _ _ rfl rfl),
     st_plain rfl (op_bin _ _ _ _ _ rfl rfl rfl),
     trivial⟩ ?_
    refine pt_then ?_
    refine ht_cond _ rfl (fun hb35 => ?_) (fun hb35 => ?_)
    ·have h := cond_t hb35 h
     refine ht_seq ?_
     refine ht_joinS h (fun (s38 : Bool) => [(77, .glob (GL mx)), (4, .v (.bool s38))]) ?_ ?_
     ·rintro s38 h
      refine pt_then ?_
      refine ht_ret ?_
      refine pt_pick [1] (by kernel_rfl) (es' := [(_, _)]) rfl ?_
      refine pt_r_then ?_
      obtain rfl := Option.some.inj h
      exact pt_ret hio rfl (.tmp _ _ .nil) rfl rfl
     ·intro u39 h hl40 hr41
      refine cond_some h (fun hg9_2 h => ?_) (fun hg9_2 h => ?_)
      ·obtain ⟨v36, hv36, h⟩ := bind_some h
       refine cond_some h (fun hg9_7 h => ?_) (fun hg9_7 h => ?_)
       ·obtain ⟨v37, hv37, h⟩ := bind_some h
        refine ht_seqR hn (El := (_ :: _ :: _ :: _ :: _ :: (37, .v (.int .i64 v34.2)) :: (38, .v (.bool (v34.2 == 500))) :: (39, .v (.bool true)) :: (40, .agg [.v (.int .i64 v34.1.Kind), .v (.string v34.1.Text), .v (.bool v34.1.Path.Null), .v (.string v34.1.Path.Local), .v (.string v34.1.Path.Domain), .fl .ro 2 (List.flatten (List.map T_Param.enc v34.1.Params))]) :: (41, .agg [.v (.int .i64 0), .v (.string (⟨#[]⟩ : ByteArray)), .v (.bool false), .v (.string (⟨#[]⟩ : ByteArray)), .v (.string (⟨#[]⟩ : ByteArray)), .v (.slice none 0 0)]) :: (42, .v (.bool v36)) :: (43, .v (.bool v36)) :: (44, .v (.bool true)) :: (45, .v (.bool v37)) :: (46, .v (.bool v37)) :: (4, .v (.bool v37)) :: [])) (init := [0, 1, 2, 3, 4]) (fin := [0, 15]) (sps := [⟨[3], [], [5], [(.slot 37)]⟩, ⟨[5], [], [6], [(.slot 38)]⟩, ⟨[6], [], [7], [(.slot 39)]⟩, ⟨[7, 2], [], [8], [(.slot 40)]⟩, ⟨[7], [], [9], [(.slot 41)]⟩, ⟨[7, 8, 9], [], [10], [(.slot 42)]⟩, ⟨[7, 10], [], [11], [(.slot 43)]⟩, ⟨[11], [], [12], [(.slot 44)]⟩, ⟨[12, 0], [], [13], [(.slot 45)]⟩, ⟨[12, 13], [], [14], [(.slot 46)]⟩, ⟨[14], [], [15], [(.slot 4)]⟩]) (es' := [(_, _), (4, .v (.bool v37))]) (by kernel_rfl) rfl rfl
         ⟨st_plain rfl (op_move _ _ _ _ rfl rfl),
         st_plain rfl (op_bin _ _ _ _ _ rfl rfl rfl),
         st_plain rfl (op_move _ _ _ _ (congrArg (fun b => AV.v (Value.bool b)) hg9_2) rfl),
         st_run 2 39 true rfl rfl rfl (List.Mem.head _) (op_loadA _ _ _ _ _ _ _ Tryd.underlying26 rfl sz26 rfl rfl (Nat.le_of_ble_eq_true rfl) rfl rfl),
         st_run 2 39 true rfl rfl rfl (List.Mem.head _) (op_build _ _ _ _ [1, 1, 3, 1] _ _ Tryd.underlying26 zr26 (fs26 _ Tryd.underlying26) Src.nil rfl rfl rfl),
         st_run 2 39 true rfl rfl rfl (List.Mem.head _) (op_call _ _ 11 _ _ rfl Tryd.call11 rfl ((ok_wherrykeep_Cmd ((T_Cmd.mk v34.1.Kind v34.1.Text (T_Path.mk v34.1.Path.Null v34.1.Path.Local v34.1.Path.Domain) v34.1.Params)) ((T_Cmd.mk 0 (⟨#[]⟩ : ByteArray) ((T_Path.mk false (⟨#[]⟩ : ByteArray) (⟨#[]⟩ : ByteArray))) [])) _ hv36).args (subs_cons (sub_refl _) (subs_cons (sub_agg (subs_cons (sub_refl _) (subs_cons (sub_refl _) (subs_cons (sub_refl _) (subs_cons (sub_refl _) (subs_cons (sub_refl _) (subs_cons (sub_nil_shr 2) (subs_nil)))))))) (subs_nil)))) rfl rfl),
         st_plain rfl (op_pick _ _ true _ rfl rfl),
         st_plain rfl (op_move _ _ _ _ (congrArg (fun b => AV.v (Value.bool b)) hg9_7) rfl),
         st_run 7 44 true rfl rfl rfl (List.Mem.head _) (op_callG _ _ 77 12 _ _ rfl Tryd.call12 rfl rfl (fun _ h => h) (ok_wherrylaw12_wakes mx  _ hv37) rfl rfl),
         st_plain rfl (op_pick _ _ true _ rfl rfl),
         st_plain rfl (op_assign _ _ _ _ rfl rfl),
         trivial⟩ ?_
        exact hl40 _ (Option.some.inj h).symm
       ·refine ht_seqR hn (El := (_ :: _ :: _ :: _ :: _ :: (37, .v (.int .i64 v34.2)) :: (38, .v (.bool (v34.2 == 500))) :: (39, .v (.bool true)) :: (40, .agg [.v (.int .i64 v34.1.Kind), .v (.string v34.1.Text), .v (.bool v34.1.Path.Null), .v (.string v34.1.Path.Local), .v (.string v34.1.Path.Domain), .fl .ro 2 (List.flatten (List.map T_Param.enc v34.1.Params))]) :: (41, .agg [.v (.int .i64 0), .v (.string (⟨#[]⟩ : ByteArray)), .v (.bool false), .v (.string (⟨#[]⟩ : ByteArray)), .v (.string (⟨#[]⟩ : ByteArray)), .v (.slice none 0 0)]) :: (42, .v (.bool v36)) :: (43, .v (.bool v36)) :: (44, .v (.bool false)) :: (45, .v undef) :: (46, .v (.bool false)) :: (4, .v (.bool false)) :: [])) (init := [0, 1, 2, 3, 4]) (fin := [0, 15]) (sps := [⟨[3], [], [5], [(.slot 37)]⟩, ⟨[5], [], [6], [(.slot 38)]⟩, ⟨[6], [], [7], [(.slot 39)]⟩, ⟨[7, 2], [], [8], [(.slot 40)]⟩, ⟨[7], [], [9], [(.slot 41)]⟩, ⟨[7, 8, 9], [], [10], [(.slot 42)]⟩, ⟨[7, 10], [], [11], [(.slot 43)]⟩, ⟨[11], [], [12], [(.slot 44)]⟩, ⟨[12], [], [13], [(.slot 45)]⟩, ⟨[12], [], [14], [(.slot 46)]⟩, ⟨[14], [], [15], [(.slot 4)]⟩]) (es' := [(_, _), (4, .v (.bool false))]) (by kernel_rfl) rfl rfl
         ⟨st_plain rfl (op_move _ _ _ _ rfl rfl),
         st_plain rfl (op_bin _ _ _ _ _ rfl rfl rfl),
         st_plain rfl (op_move _ _ _ _ (congrArg (fun b => AV.v (Value.bool b)) hg9_2) rfl),
         st_run 2 39 true rfl rfl rfl (List.Mem.head _) (op_loadA _ _ _ _ _ _ _ Tryd.underlying26 rfl sz26 rfl rfl (Nat.le_of_ble_eq_true rfl) rfl rfl),
         st_run 2 39 true rfl rfl rfl (List.Mem.head _) (op_build _ _ _ _ [1, 1, 3, 1] _ _ Tryd.underlying26 zr26 (fs26 _ Tryd.underlying26) Src.nil rfl rfl rfl),
         st_run 2 39 true rfl rfl rfl (List.Mem.head _) (op_call _ _ 11 _ _ rfl Tryd.call11 rfl ((ok_wherrykeep_Cmd ((T_Cmd.mk v34.1.Kind v34.1.Text (T_Path.mk v34.1.Path.Null v34.1.Path.Local v34.1.Path.Domain) v34.1.Params)) ((T_Cmd.mk 0 (⟨#[]⟩ : ByteArray) ((T_Path.mk false (⟨#[]⟩ : ByteArray) (⟨#[]⟩ : ByteArray))) [])) _ hv36).args (subs_cons (sub_refl _) (subs_cons (sub_agg (subs_cons (sub_refl _) (subs_cons (sub_refl _) (subs_cons (sub_refl _) (subs_cons (sub_refl _) (subs_cons (sub_refl _) (subs_cons (sub_nil_shr 2) (subs_nil)))))))) (subs_nil)))) rfl rfl),
         st_plain rfl (op_pick _ _ true _ rfl rfl),
         st_plain rfl (op_move _ _ _ _ (congrArg (fun b => AV.v (Value.bool b)) hg9_7) rfl),
         st_skip 7 44 _ true rfl rfl rfl rfl (List.Mem.head _),
         st_plain rfl (op_pick _ _ false _ rfl rfl),
         st_plain rfl (op_assign _ _ _ _ rfl rfl),
         trivial⟩ ?_
        exact hl40 _ (Option.some.inj h).symm
      ·refine ht_seqR hn (El := (_ :: _ :: _ :: _ :: _ :: (37, .v (.int .i64 v34.2)) :: (38, .v (.bool (v34.2 == 500))) :: (39, .v (.bool false)) :: (40, .v undef) :: (41, .v undef) :: (42, .v undef) :: (43, .v (.bool false)) :: (44, .v (.bool false)) :: (45, .v undef) :: (46, .v (.bool false)) :: (4, .v (.bool false)) :: [])) (init := [0, 1, 2, 3, 4]) (fin := [0, 15]) (sps := [⟨[3], [], [5], [(.slot 37)]⟩, ⟨[5], [], [6], [(.slot 38)]⟩, ⟨[6], [], [7], [(.slot 39)]⟩, ⟨[7], [], [8], [(.slot 40)]⟩, ⟨[7], [], [9], [(.slot 41)]⟩, ⟨[7], [], [10], [(.slot 42)]⟩, ⟨[7], [], [11], [(.slot 43)]⟩, ⟨[11], [], [12], [(.slot 44)]⟩, ⟨[12], [], [13], [(.slot 45)]⟩, ⟨[12], [], [14], [(.slot 46)]⟩, ⟨[14], [], [15], [(.slot 4)]⟩]) (es' := [(_, _), (4, .v (.bool false))]) (by kernel_rfl) rfl rfl
        ⟨st_plain rfl (op_move _ _ _ _ rfl rfl),
        st_plain rfl (op_bin _ _ _ _ _ rfl rfl rfl),
        st_plain rfl (op_move _ _ _ _ (congrArg (fun b => AV.v (Value.bool b)) hg9_2) rfl),
        st_skip 2 39 _ true rfl rfl rfl rfl (List.Mem.head _),
        st_skip 2 39 _ true rfl rfl rfl rfl (List.Mem.head _),
        st_skip 2 39 _ true rfl rfl rfl rfl (List.Mem.head _),
        st_plain rfl (op_pick _ _ false _ rfl rfl),
        st_plain rfl (op_move _ _ _ _ rfl rfl),
        st_skip 7 44 _ true rfl rfl rfl rfl (List.Mem.head _),
        st_plain rfl (op_pick _ _ false _ rfl rfl),
        st_plain rfl (op_assign _ _ _ _ rfl rfl),
        trivial⟩ ?_
       exact hl40 _ (Option.some.inj h).symm
    ·have h := cond_f hb35 h
     refine ht_skip ?_
     refine pt_then ?_
     refine ht_seq ?_
     obtain ⟨v42, hv42, h⟩ := bind_some h
     refine ht_seqR hn (El := [_, _, _, _, _, (48, .agg [.v (.int .i64 v34.1.Kind), .v (.string v34.1.Text), .v (.bool v34.1.Path.Null), .v (.string v34.1.Path.Local), .v (.string v34.1.Path.Domain), .fl .ro 2 (List.flatten (List.map T_Param.enc v34.1.Params))]), (49, .tup [.v (.string v42.1), .v (.int .i64 v42.2)]), (47, .tup [.v (.string v42.1), .v (.int .i64 v42.2)]), (50, .v (.string v42.1)), (51, .v (.int .i64 v42.2)), (8, .v (.string v42.1)), (9, .v (.int .i64 v42.2))]) (init := [0, 1, 2, 3, 4]) (fin := [0, 1, 2, 3, 10, 11]) (sps := [⟨[2], [], [5], [(.slot 48)]⟩, ⟨[5, 0], [], [6], [(.slot 49)]⟩, ⟨[], [6], [7], [(.slot 47)]⟩, ⟨[7], [], [8], [(.slot 50)]⟩, ⟨[7], [], [9], [(.slot 51)]⟩, ⟨[8], [], [10], [(.slot 8)]⟩, ⟨[9], [], [11], [(.slot 9)]⟩]) (es' := [(_, _), (_, _), (_, _), (_, _), (8, .v (.string v42.1)), (9, .v (.int .i64 v42.2))]) (by kernel_rfl) rfl rfl
      ⟨st_plain rfl (op_loadA _ _ _ _ _ _ _ Tryd.underlying26 rfl sz26 rfl rfl (Nat.le_of_ble_eq_true rfl) rfl rfl),
      st_plain rfl (op_callG _ _ 77 9 _ _ rfl Tryd.call9 rfl rfl (fun _ h => h) (ok_verb_Text mx ((T_Cmd.mk v34.1.Kind v34.1.Text (T_Path.mk v34.1.Path.Null v34.1.Path.Local v34.1.Path.Domain) v34.1.Params)) _ hv42) rfl rfl),
      st_plain rfl (op_move_take _ _ _ _ rfl),
      st_plain rfl (op_extract _ _ _ _ _ rfl rfl (Nat.le_of_ble_eq_true rfl) rfl rfl),
      st_plain rfl (op_extract _ _ _ _ _ rfl rfl (Nat.le_of_ble_eq_true rfl) rfl rfl),
      st_plain rfl (op_assign _ _ _ _ rfl rfl),
      st_plain rfl (op_assign _ _ _ _ rfl rfl),
      trivial⟩ ?_
     refine pt_then ?_
     refine ht_seq ?_
     refine ht_joinS h (fun (s44 : Bool) => [(77, .glob (GL mx)), (4, .v (.bool s44))]) ?_ ?_
     ·rintro s44 h
      refine pt_then ?_
      refine ht_ret ?_
      refine pt_pick [1] (by kernel_rfl) (es' := [(_, _)]) rfl ?_
      obtain rfl := Option.some.inj h
      exact pt_ret hio rfl (.tmp _ _ .nil) rfl rfl
     ·intro u45 h hl46 hr47
      refine cond_some h (fun hg11_2 h => ?_) (fun hg11_2 h => ?_)
      ·refine cond_some h (fun hg11_7 h => ?_) (fun hg11_7 h => ?_)
       ·refine cond_some h (fun hg11_13 h => ?_) (fun hg11_13 h => ?_)
        ·refine cond_some h (fun hg11_17 h => ?_) (fun hg11_17 h => ?_)
         ·refine cond_some h (fun hg11_22 h => ?_) (fun hg11_22 h => ?_)
          ·obtain ⟨v43, hv43, h⟩ := bind_some h
           refine ht_seqR hn (El := (_ :: _ :: _ :: _ :: _ :: _ :: (52, .v (.int .i64 v34.2)) :: (53, .v (.bool (v34.2 == 0))) :: (54, .v (.bool true)) :: (55, .ptr 6 0) :: (56, .v (.int .i64 v34.1.Kind)) :: (57, .v (.bool (v34.1.Kind == 6))) :: (58, .v (.bool (v34.1.Kind == 6))) :: (59, .v (.bool true)) :: (60, .ptr 6 1) :: (61, .v (.string v34.1.Text)) :: (62, .v (.int .i64 (v34.1.Text.size : Int))) :: (63, .v (.bool (((v34.1.Text.size : Int) == 505)))) :: (64, .v (.bool (((v34.1.Text.size : Int) == 505)))) :: (65, .v (.bool true)) :: (66, .v (.int .i64 v42.2)) :: (67, .v (.bool (v42.2 == 0))) :: (68, .v (.bool (v42.2 == 0))) :: (69, .v (.bool true)) :: (70, .v (.string v42.1)) :: (71, .v (.string s26)) :: (72, .v (.bool (v42.1.toList == s26.toList))) :: (73, .v (.bool (v42.1.toList == s26.toList))) :: (74, .v (.bool true)) :: (75, .v (.bool v43)) :: (76, .v (.bool v43)) :: (4, .v (.bool v43)) :: [])) (init := [0, 1, 2, 3, 4, 5]) (fin := [0, 31]) (sps := (⟨[3], [], [6], [(.slot 52)]⟩ :: ⟨[6], [], [7], [(.slot 53)]⟩ :: ⟨[7], [], [8], [(.slot 54)]⟩ :: ⟨[8, 2], [], [9], [(.slot 55)]⟩ :: ⟨[8, 9, 2], [], [10], [(.slot 56)]⟩ :: ⟨[8, 10], [], [11], [(.slot 57)]⟩ :: ⟨[8, 11], [], [12], [(.slot 58)]⟩ :: ⟨[12], [], [13], [(.slot 59)]⟩ :: ⟨[13, 2], [], [14], [(.slot 60)]⟩ :: ⟨[13, 14, 2], [], [15], [(.slot 61)]⟩ :: ⟨[13, 15], [], [16], [(.slot 62)]⟩ :: ⟨[13, 16], [], [17], [(.slot 63)]⟩ :: ⟨[13, 17], [], [18], [(.slot 64)]⟩ :: ⟨[18], [], [19], [(.slot 65)]⟩ :: ⟨[19, 5], [], [20], [(.slot 66)]⟩ :: ⟨[19, 20], [], [21], [(.slot 67)]⟩ :: ⟨[19, 21], [], [22], [(.slot 68)]⟩ :: ⟨[22], [], [23], [(.slot 69)]⟩ :: ⟨[23, 4], [], [24], [(.slot 70)]⟩ :: ⟨[23, 1], [], [25], [(.slot 71)]⟩ :: ⟨[23, 24, 25], [], [26], [(.slot 72)]⟩ :: ⟨[23, 26], [], [27], [(.slot 73)]⟩ :: ⟨[27], [], [28], [(.slot 74)]⟩ :: ⟨[28, 0], [], [29], [(.slot 75)]⟩ :: ⟨[28, 29], [], [30], [(.slot 76)]⟩ :: ⟨[30], [], [31], [(.slot 4)]⟩ :: [])) (es' := [(_, _), (4, .v (.bool v43))]) (by kernel_rfl) rfl rfl
            ⟨st_plain rfl (op_move _ _ _ _ rfl rfl),
            st_plain rfl (op_bin _ _ _ _ _ rfl rfl rfl),
            st_plain rfl (op_move _ _ _ _ (congrArg (fun b => AV.v (Value.bool b)) hg11_2) rfl),
            st_run 2 54 true rfl rfl rfl (List.Mem.head _) (op_fieldAddr _ _ _ _ 6 0 _ Tryd.underlying26 rfl sz3 rfl rfl (by decide)),
            st_run 2 54 true rfl rfl rfl (List.Mem.head _) (op_load _ _ _ _ _ _ Tryd.underlying3 rfl rfl rfl (Nat.le_of_ble_eq_true rfl) rfl rfl rfl),
            st_run 2 54 true rfl rfl rfl (List.Mem.head _) (op_bin _ _ _ _ _ rfl rfl rfl),
            st_plain rfl (op_pick _ _ true _ rfl rfl),
            st_plain rfl (op_move _ _ _ _ (congrArg (fun b => AV.v (Value.bool b)) hg11_7) rfl),
            st_run 7 59 true rfl rfl rfl (List.Mem.head _) (op_fieldAddr _ _ _ _ 6 0 _ Tryd.underlying26 rfl sz9 rfl rfl (by decide)),
            st_run 7 59 true rfl rfl rfl (List.Mem.head _) (op_load _ _ _ _ _ _ Tryd.underlying9 rfl rfl rfl (Nat.le_of_ble_eq_true rfl) rfl rfl rfl),
            st_run 7 59 true rfl rfl rfl (List.Mem.head _) (op_len_str _ _ _ Tryd.underlying9 rfl),
            st_run 7 59 true rfl rfl rfl (List.Mem.head _) (op_bin _ _ _ _ _ rfl rfl rfl),
            st_plain rfl (op_pick _ _ true _ rfl rfl),
            st_plain rfl (op_move _ _ _ _ (congrArg (fun b => AV.v (Value.bool b)) hg11_13) rfl),
            st_run 13 65 true rfl rfl rfl (List.Mem.head _) (op_move _ _ _ _ rfl rfl),
            st_run 13 65 true rfl rfl rfl (List.Mem.head _) (op_bin _ _ _ _ _ rfl rfl rfl),
            st_plain rfl (op_pick _ _ true _ rfl rfl),
            st_plain rfl (op_move _ _ _ _ (congrArg (fun b => AV.v (Value.bool b)) hg11_17) rfl),
            st_run 17 69 true rfl rfl rfl (List.Mem.head _) (op_move _ _ _ _ rfl rfl),
            st_run 17 69 true rfl rfl rfl (List.Mem.head _) (op_move _ _ _ _ rfl rfl),
            st_run 17 69 true rfl rfl rfl (List.Mem.head _) (op_bin _ _ _ _ _ rfl rfl rfl),
            st_plain rfl (op_pick _ _ true _ rfl rfl),
            st_plain rfl (op_move _ _ _ _ (congrArg (fun b => AV.v (Value.bool b)) hg11_22) rfl),
            st_run 22 74 true rfl rfl rfl (List.Mem.head _) (op_callG _ _ 77 12 _ _ rfl Tryd.call12 rfl rfl (fun _ h => h) (ok_wherrylaw12_wakes mx  _ hv43) rfl rfl),
            st_plain rfl (op_pick _ _ true _ rfl rfl),
            st_plain rfl (op_assign _ _ _ _ rfl rfl),
            trivial⟩ ?_
           exact hl46 _ (Option.some.inj h).symm
          ·refine ht_seqR hn (El := (_ :: _ :: _ :: _ :: _ :: _ :: (52, .v (.int .i64 v34.2)) :: (53, .v (.bool (v34.2 == 0))) :: (54, .v (.bool true)) :: (55, .ptr 6 0) :: (56, .v (.int .i64 v34.1.Kind)) :: (57, .v (.bool (v34.1.Kind == 6))) :: (58, .v (.bool (v34.1.Kind == 6))) :: (59, .v (.bool true)) :: (60, .ptr 6 1) :: (61, .v (.string v34.1.Text)) :: (62, .v (.int .i64 (v34.1.Text.size : Int))) :: (63, .v (.bool (((v34.1.Text.size : Int) == 505)))) :: (64, .v (.bool (((v34.1.Text.size : Int) == 505)))) :: (65, .v (.bool true)) :: (66, .v (.int .i64 v42.2)) :: (67, .v (.bool (v42.2 == 0))) :: (68, .v (.bool (v42.2 == 0))) :: (69, .v (.bool true)) :: (70, .v (.string v42.1)) :: (71, .v (.string s26)) :: (72, .v (.bool (v42.1.toList == s26.toList))) :: (73, .v (.bool (v42.1.toList == s26.toList))) :: (74, .v (.bool false)) :: (75, .v undef) :: (76, .v (.bool false)) :: (4, .v (.bool false)) :: [])) (init := [0, 1, 2, 3, 4, 5]) (fin := [0, 31]) (sps := (⟨[3], [], [6], [(.slot 52)]⟩ :: ⟨[6], [], [7], [(.slot 53)]⟩ :: ⟨[7], [], [8], [(.slot 54)]⟩ :: ⟨[8, 2], [], [9], [(.slot 55)]⟩ :: ⟨[8, 9, 2], [], [10], [(.slot 56)]⟩ :: ⟨[8, 10], [], [11], [(.slot 57)]⟩ :: ⟨[8, 11], [], [12], [(.slot 58)]⟩ :: ⟨[12], [], [13], [(.slot 59)]⟩ :: ⟨[13, 2], [], [14], [(.slot 60)]⟩ :: ⟨[13, 14, 2], [], [15], [(.slot 61)]⟩ :: ⟨[13, 15], [], [16], [(.slot 62)]⟩ :: ⟨[13, 16], [], [17], [(.slot 63)]⟩ :: ⟨[13, 17], [], [18], [(.slot 64)]⟩ :: ⟨[18], [], [19], [(.slot 65)]⟩ :: ⟨[19, 5], [], [20], [(.slot 66)]⟩ :: ⟨[19, 20], [], [21], [(.slot 67)]⟩ :: ⟨[19, 21], [], [22], [(.slot 68)]⟩ :: ⟨[22], [], [23], [(.slot 69)]⟩ :: ⟨[23, 4], [], [24], [(.slot 70)]⟩ :: ⟨[23, 1], [], [25], [(.slot 71)]⟩ :: ⟨[23, 24, 25], [], [26], [(.slot 72)]⟩ :: ⟨[23, 26], [], [27], [(.slot 73)]⟩ :: ⟨[27], [], [28], [(.slot 74)]⟩ :: ⟨[28], [], [29], [(.slot 75)]⟩ :: ⟨[28], [], [30], [(.slot 76)]⟩ :: ⟨[30], [], [31], [(.slot 4)]⟩ :: [])) (es' := [(_, _), (4, .v (.bool false))]) (by kernel_rfl) rfl rfl
            ⟨st_plain rfl (op_move _ _ _ _ rfl rfl),
            st_plain rfl (op_bin _ _ _ _ _ rfl rfl rfl),
            st_plain rfl (op_move _ _ _ _ (congrArg (fun b => AV.v (Value.bool b)) hg11_2) rfl),
            st_run 2 54 true rfl rfl rfl (List.Mem.head _) (op_fieldAddr _ _ _ _ 6 0 _ Tryd.underlying26 rfl sz3 rfl rfl (by decide)),
            st_run 2 54 true rfl rfl rfl (List.Mem.head _) (op_load _ _ _ _ _ _ Tryd.underlying3 rfl rfl rfl (Nat.le_of_ble_eq_true rfl) rfl rfl rfl),
            st_run 2 54 true rfl rfl rfl (List.Mem.head _) (op_bin _ _ _ _ _ rfl rfl rfl),
            st_plain rfl (op_pick _ _ true _ rfl rfl),
            st_plain rfl (op_move _ _ _ _ (congrArg (fun b => AV.v (Value.bool b)) hg11_7) rfl),
            st_run 7 59 true rfl rfl rfl (List.Mem.head _) (op_fieldAddr _ _ _ _ 6 0 _ Tryd.underlying26 rfl sz9 rfl rfl (by decide)),
            st_run 7 59 true rfl rfl rfl (List.Mem.head _) (op_load _ _ _ _ _ _ Tryd.underlying9 rfl rfl rfl (Nat.le_of_ble_eq_true rfl) rfl rfl rfl),
            st_run 7 59 true rfl rfl rfl (List.Mem.head _) (op_len_str _ _ _ Tryd.underlying9 rfl),
            st_run 7 59 true rfl rfl rfl (List.Mem.head _) (op_bin _ _ _ _ _ rfl rfl rfl),
            st_plain rfl (op_pick _ _ true _ rfl rfl),
            st_plain rfl (op_move _ _ _ _ (congrArg (fun b => AV.v (Value.bool b)) hg11_13) rfl),
            st_run 13 65 true rfl rfl rfl (List.Mem.head _) (op_move _ _ _ _ rfl rfl),
            st_run 13 65 true rfl rfl rfl (List.Mem.head _) (op_bin _ _ _ _ _ rfl rfl rfl),
            st_plain rfl (op_pick _ _ true _ rfl rfl),
            st_plain rfl (op_move _ _ _ _ (congrArg (fun b => AV.v (Value.bool b)) hg11_17) rfl),
            st_run 17 69 true rfl rfl rfl (List.Mem.head _) (op_move _ _ _ _ rfl rfl),
            st_run 17 69 true rfl rfl rfl (List.Mem.head _) (op_move _ _ _ _ rfl rfl),
            st_run 17 69 true rfl rfl rfl (List.Mem.head _) (op_bin _ _ _ _ _ rfl rfl rfl),
            st_plain rfl (op_pick _ _ true _ rfl rfl),
            st_plain rfl (op_move _ _ _ _ (congrArg (fun b => AV.v (Value.bool b)) hg11_22) rfl),
            st_skip 22 74 _ true rfl rfl rfl rfl (List.Mem.head _),
            st_plain rfl (op_pick _ _ false _ rfl rfl),
            st_plain rfl (op_assign _ _ _ _ rfl rfl),
            trivial⟩ ?_
           exact hl46 _ (Option.some.inj h).symm
         ·refine ht_seqR hn (El := (_ :: _ :: _ :: _ :: _ :: _ :: (52, .v (.int .i64 v34.2)) :: (53, .v (.bool (v34.2 == 0))) :: (54, .v (.bool true)) :: (55, .ptr 6 0) :: (56, .v (.int .i64 v34.1.Kind)) :: (57, .v (.bool (v34.1.Kind == 6))) :: (58, .v (.bool (v34.1.Kind == 6))) :: (59, .v (.bool true)) :: (60, .ptr 6 1) :: (61, .v (.string v34.1.Text)) :: (62, .v (.int .i64 (v34.1.Text.size : Int))) :: (63, .v (.bool (((v34.1.Text.size : Int) == 505)))) :: (64, .v (.bool (((v34.1.Text.size : Int) == 505)))) :: (65, .v (.bool true)) :: (66, .v (.int .i64 v42.2)) :: (67, .v (.bool (v42.2 == 0))) :: (68, .v (.bool (v42.2 == 0))) :: (69, .v (.bool false)) :: (70, .v undef) :: (71, .v undef) :: (72, .v undef) :: (73, .v (.bool false)) :: (74, .v (.bool false)) :: (75, .v undef) :: (76, .v (.bool false)) :: (4, .v (.bool false)) :: [])) (init := [0, 1, 2, 3, 4, 5]) (fin := [0, 31]) (sps := (⟨[3], [], [6], [(.slot 52)]⟩ :: ⟨[6], [], [7], [(.slot 53)]⟩ :: ⟨[7], [], [8], [(.slot 54)]⟩ :: ⟨[8, 2], [], [9], [(.slot 55)]⟩ :: ⟨[8, 9, 2], [], [10], [(.slot 56)]⟩ :: ⟨[8, 10], [], [11], [(.slot 57)]⟩ :: ⟨[8, 11], [], [12], [(.slot 58)]⟩ :: ⟨[12], [], [13], [(.slot 59)]⟩ :: ⟨[13, 2], [], [14], [(.slot 60)]⟩ :: ⟨[13, 14, 2], [], [15], [(.slot 61)]⟩ :: ⟨[13, 15], [], [16], [(.slot 62)]⟩ :: ⟨[13, 16], [], [17], [(.slot 63)]⟩ :: ⟨[13, 17], [], [18], [(.slot 64)]⟩ :: ⟨[18], [], [19], [(.slot 65)]⟩ :: ⟨[19, 5], [], [20], [(.slot 66)]⟩ :: ⟨[19, 20], [], [21], [(.slot 67)]⟩ :: ⟨[19, 21], [], [22], [(.slot 68)]⟩ :: ⟨[22], [], [23], [(.slot 69)]⟩ :: ⟨[23], [], [24], [(.slot 70)]⟩ :: ⟨[23], [], [25], [(.slot 71)]⟩ :: ⟨[23], [], [26], [(.slot 72)]⟩ :: ⟨[23], [], [27], [(.slot 73)]⟩ :: ⟨[27], [], [28], [(.slot 74)]⟩ :: ⟨[28], [], [29], [(.slot 75)]⟩ :: ⟨[28], [], [30], [(.slot 76)]⟩ :: ⟨[30], [], [31], [(.slot 4)]⟩ :: [])) (es' := [(_, _), (4, .v (.bool false))]) (by kernel_rfl) rfl rfl
           ⟨st_plain rfl (op_move _ _ _ _ rfl rfl),
           st_plain rfl (op_bin _ _ _ _ _ rfl rfl rfl),
           st_plain rfl (op_move _ _ _ _ (congrArg (fun b => AV.v (Value.bool b)) hg11_2) rfl),
           st_run 2 54 true rfl rfl rfl (List.Mem.head _) (op_fieldAddr _ _ _ _ 6 0 _ Tryd.underlying26 rfl sz3 rfl rfl (by decide)),
           st_run 2 54 true rfl rfl rfl (List.Mem.head _) (op_load _ _ _ _ _ _ Tryd.underlying3 rfl rfl rfl (Nat.le_of_ble_eq_true rfl) rfl rfl rfl),
           st_run 2 54 true rfl rfl rfl (List.Mem.head _) (op_bin _ _ _ _ _ rfl rfl rfl),
           st_plain rfl (op_pick _ _ true _ rfl rfl),
           st_plain rfl (op_move _ _ _ _ (congrArg (fun b => AV.v (Value.bool b)) hg11_7) rfl),
           st_run 7 59 true rfl rfl rfl (List.Mem.head _) (op_fieldAddr _ _ _ _ 6 0 _ Tryd.underlying26 rfl sz9 rfl rfl (by decide)),
           st_run 7 59 true rfl rfl rfl (List.Mem.head _) (op_load _ _ _ _ _ _ Tryd.underlying9 rfl rfl rfl (Nat.le_of_ble_eq_true rfl) rfl rfl rfl),
           st_run 7 59 true rfl rfl rfl (List.Mem.head _) (op_len_str _ _ _ Tryd.underlying9 rfl),
           st_run 7 59 true rfl rfl rfl (List.Mem.head _) (op_bin _ _ _ _ _ rfl rfl rfl),
           st_plain rfl (op_pick _ _ true _ rfl rfl),
           st_plain rfl (op_move _ _ _ _ (congrArg (fun b => AV.v (Value.bool b)) hg11_13) rfl),
           st_run 13 65 true rfl rfl rfl (List.Mem.head _) (op_move _ _ _ _ rfl rfl),
           st_run 13 65 true rfl rfl rfl (List.Mem.head _) (op_bin _ _ _ _ _ rfl rfl rfl),
           st_plain rfl (op_pick _ _ true _ rfl rfl),
           st_plain rfl (op_move _ _ _ _ (congrArg (fun b => AV.v (Value.bool b)) hg11_17) rfl),
           st_skip 17 69 _ true rfl rfl rfl rfl (List.Mem.head _),
           st_skip 17 69 _ true rfl rfl rfl rfl (List.Mem.head _),
           st_skip 17 69 _ true rfl rfl rfl rfl (List.Mem.head _),
           st_plain rfl (op_pick _ _ false _ rfl rfl),
           st_plain rfl (op_move _ _ _ _ rfl rfl),
           st_skip 22 74 _ true rfl rfl rfl rfl (List.Mem.head _),
           st_plain rfl (op_pick _ _ false _ rfl rfl),
           st_plain rfl (op_assign _ _ _ _ rfl rfl),
           trivial⟩ ?_
          exact hl46 _ (Option.some.inj h).symm
        ·refine ht_seqR hn (El := (_ :: _ :: _ :: _ :: _ :: _ :: (52, .v (.int .i64 v34.2)) :: (53, .v (.bool (v34.2 == 0))) :: (54, .v (.bool true)) :: (55, .ptr 6 0) :: (56, .v (.int .i64 v34.1.Kind)) :: (57, .v (.bool (v34.1.Kind == 6))) :: (58, .v (.bool (v34.1.Kind == 6))) :: (59, .v (.bool true)) :: (60, .ptr 6 1) :: (61, .v (.string v34.1.Text)) :: (62, .v (.int .i64 (v34.1.Text.size : Int))) :: (63, .v (.bool (((v34.1.Text.size : Int) == 505)))) :: (64, .v (.bool (((v34.1.Text.size : Int) == 505)))) :: (65, .v (.bool false)) :: (66, .v undef) :: (67, .v undef) :: (68, .v (.bool false)) :: (69, .v (.bool false)) :: (70, .v undef) :: (71, .v undef) :: (72, .v undef) :: (73, .v (.bool false)) :: (74, .v (.bool false)) :: (75, .v undef) :: (76, .v (.bool false)) :: (4, .v (.bool false)) :: [])) (init := [0, 1, 2, 3, 4, 5]) (fin := [0, 31]) (sps := (⟨[3], [], [6], [(.slot 52)]⟩ :: ⟨[6], [], [7], [(.slot 53)]⟩ :: ⟨[7], [], [8], [(.slot 54)]⟩ :: ⟨[8, 2], [], [9], [(.slot 55)]⟩ :: ⟨[8, 9, 2], [], [10], [(.slot 56)]⟩ :: ⟨[8, 10], [], [11], [(.slot 57)]⟩ :: ⟨[8, 11], [], [12], [(.slot 58)]⟩ :: ⟨[12], [], [13], [(.slot 59)]⟩ :: ⟨[13, 2], [], [14], [(.slot 60)]⟩ :: ⟨[13, 14, 2], [], [15], [(.slot 61)]⟩ :: ⟨[13, 15], [], [16], [(.slot 62)]⟩ :: ⟨[13, 16], [], [17], [(.slot 63)]⟩ :: ⟨[13, 17], [], [18], [(.slot 64)]⟩ :: ⟨[18], [], [19], [(.slot 65)]⟩ :: ⟨[19], [], [20], [(.slot 66)]⟩ :: ⟨[19], [], [21], [(.slot 67)]⟩ :: ⟨[19], [], [22], [(.slot 68)]⟩ :: ⟨[22], [], [23], [(.slot 69)]⟩ :: ⟨[23], [], [24], [(.slot 70)]⟩ :: ⟨[23], [], [25], [(.slot 71)]⟩ :: ⟨[23], [], [26], [(.slot 72)]⟩ :: ⟨[23], [], [27], [(.slot 73)]⟩ :: ⟨[27], [], [28], [(.slot 74)]⟩ :: ⟨[28], [], [29], [(.slot 75)]⟩ :: ⟨[28], [], [30], [(.slot 76)]⟩ :: ⟨[30], [], [31], [(.slot 4)]⟩ :: [])) (es' := [(_, _), (4, .v (.bool false))]) (by kernel_rfl) rfl rfl
          ⟨st_plain rfl (op_move _ _ _ _ rfl rfl),
          st_plain rfl (op_bin _ _ _ _ _ rfl rfl rfl),
          st_plain rfl (op_move _ _ _ _ (congrArg (fun b => AV.v (Value.bool b)) hg11_2) rfl),
          st_run 2 54 true rfl rfl rfl (List.Mem.head _) (op_fieldAddr _ _ _ _ 6 0 _ Tryd.underlying26 rfl sz3 rfl rfl (by decide)),
          st_run 2 54 true rfl rfl rfl (List.Mem.head _) (op_load _ _ _ _ _ _ Tryd.underlying3 rfl rfl rfl (Nat.le_of_ble_eq_true rfl) rfl rfl rfl),
          st_run 2 54 true rfl rfl rfl (List.Mem.head _) (op_bin _ _ _ _ _ rfl rfl rfl),
          st_plain rfl (op_pick _ _ true _ rfl rfl),
          st_plain rfl (op_move _ _ _ _ (congrArg (fun b => AV.v (Value.bool b)) hg11_7) rfl),
          st_run 7 59 true rfl rfl rfl (List.Mem.head _) (op_fieldAddr _ _ _ _ 6 0 _ Tryd.underlying26 rfl sz9 rfl rfl (by decide)),
          st_run 7 59 true rfl rfl rfl (List.Mem.head _) (op_load _ _ _ _ _ _ Tryd.underlying9 rfl rfl rfl (Nat.le_of_ble_eq_true rfl) rfl rfl rfl),
          st_run 7 59 true rfl rfl rfl (List.Mem.head _) (op_len_str _ _ _ Tryd.underlying9 rfl),
          st_run 7 59 true rfl rfl rfl (List.Mem.head _) (op_bin _ _ _ _ _ rfl rfl rfl),
          st_plain rfl (op_pick _ _ true _ rfl rfl),
          st_plain rfl (op_move _ _ _ _ (congrArg (fun b => AV.v (Value.bool b)) hg11_13) rfl),
          st_skip 13 65 _ true rfl rfl rfl rfl (List.Mem.head _),
          st_skip 13 65 _ true rfl rfl rfl rfl (List.Mem.head _),
          st_plain rfl (op_pick _ _ false _ rfl rfl),
          st_plain rfl (op_move _ _ _ _ rfl rfl),
          st_skip 17 69 _ true rfl rfl rfl rfl (List.Mem.head _),
          st_skip 17 69 _ true rfl rfl rfl rfl (List.Mem.head _),
          st_skip 17 69 _ true rfl rfl rfl rfl (List.Mem.head _),
          st_plain rfl (op_pick _ _ false _ rfl rfl),
          st_plain rfl (op_move _ _ _ _ rfl rfl),
          st_skip 22 74 _ true rfl rfl rfl rfl (List.Mem.head _),
          st_plain rfl (op_pick _ _ false _ rfl rfl),
          st_plain rfl (op_assign _ _ _ _ rfl rfl),
          trivial⟩ ?_
         exact hl46 _ (Option.some.inj h).symm
       ·refine ht_seqR hn (El := (_ :: _ :: _ :: _ :: _ :: _ :: (52, .v (.int .i64 v34.2)) :: (53, .v (.bool (v34.2 == 0))) :: (54, .v (.bool true)) :: (55, .ptr 6 0) :: (56, .v (.int .i64 v34.1.Kind)) :: (57, .v (.bool (v34.1.Kind == 6))) :: (58, .v (.bool (v34.1.Kind == 6))) :: (59, .v (.bool false)) :: (60, .v undef) :: (61, .v undef) :: (62, .v undef) :: (63, .v undef) :: (64, .v (.bool false)) :: (65, .v (.bool false)) :: (66, .v undef) :: (67, .v undef) :: (68, .v (.bool false)) :: (69, .v (.bool false)) :: (70, .v undef) :: (71, .v undef) :: (72, .v undef) :: (73, .v (.bool false)) :: (74, .v (.bool false)) :: (75, .v undef) :: (76, .v (.bool false)) :: (4, .v (.bool false)) :: [])) (init := [0, 1, 2, 3, 4, 5]) (fin := [0, 31]) (sps := (⟨[3], [], [6], [(.slot 52)]⟩ :: ⟨[6], [], [7], [(.slot 53)]⟩ :: ⟨[7], [], [8], [(.slot 54)]⟩ :: ⟨[8, 2], [], [9], [(.slot 55)]⟩ :: ⟨[8, 9, 2], [], [10], [(.slot 56)]⟩ :: ⟨[8, 10], [], [11], [(.slot 57)]⟩ :: ⟨[8, 11], [], [12], [(.slot 58)]⟩ :: ⟨[12], [], [13], [(.slot 59)]⟩ :: ⟨[13], [], [14], [(.slot 60)]⟩ :: ⟨[13], [], [15], [(.slot 61)]⟩ :: ⟨[13], [], [16], [(.slot 62)]⟩ :: ⟨[13], [], [17], [(.slot 63)]⟩ :: ⟨[13], [], [18], [(.slot 64)]⟩ :: ⟨[18], [], [19], [(.slot 65)]⟩ :: ⟨[19], [], [20], [(.slot 66)]⟩ :: ⟨[19], [], [21], [(.slot 67)]⟩ :: ⟨[19], [], [22], [(.slot 68)]⟩ :: ⟨[22], [], [23], [(.slot 69)]⟩ :: ⟨[23], [], [24], [(.slot 70)]⟩ :: ⟨[23], [], [25], [(.slot 71)]⟩ :: ⟨[23], [], [26], [(.slot 72)]⟩ :: ⟨[23], [], [27], [(.slot 73)]⟩ :: ⟨[27], [], [28], [(.slot 74)]⟩ :: ⟨[28], [], [29], [(.slot 75)]⟩ :: ⟨[28], [], [30], [(.slot 76)]⟩ :: ⟨[30], [], [31], [(.slot 4)]⟩ :: [])) (es' := [(_, _), (4, .v (.bool false))]) (by kernel_rfl) rfl rfl
         ⟨st_plain rfl (op_move _ _ _ _ rfl rfl),
         st_plain rfl (op_bin _ _ _ _ _ rfl rfl rfl),
         st_plain rfl (op_move _ _ _ _ (congrArg (fun b => AV.v (Value.bool b)) hg11_2) rfl),
         st_run 2 54 true rfl rfl rfl (List.Mem.head _) (op_fieldAddr _ _ _ _ 6 0 _ Tryd.underlying26 rfl sz3 rfl rfl (by decide)),
         st_run 2 54 true rfl rfl rfl (List.Mem.head _) (op_load _ _ _ _ _ _ Tryd.underlying3 rfl rfl rfl (Nat.le_of_ble_eq_true rfl) rfl rfl rfl),
         st_run 2 54 true rfl rfl rfl (List.Mem.head _) (op_bin _ _ _ _ _ rfl rfl rfl),
         st_plain rfl (op_pick _ _ true _ rfl rfl),
         st_plain rfl (op_move _ _ _ _ (congrArg (fun b => AV.v (Value.bool b)) hg11_7) rfl),
         st_skip 7 59 _ true rfl rfl rfl rfl (List.Mem.head _),
         st_skip 7 59 _ true rfl rfl rfl rfl (List.Mem.head _),
         st_skip 7 59 _ true rfl rfl rfl rfl (List.Mem.head _),
         st_skip 7 59 _ true rfl rfl rfl rfl (List.Mem.head _),
         st_plain rfl (op_pick _ _ false _ rfl rfl),
         st_plain rfl (op_move _ _ _ _ rfl rfl),
         st_skip 13 65 _ true rfl rfl rfl rfl (List.Mem.head _),
         st_skip 13 65 _ true rfl rfl rfl rfl (List.Mem.head _),
         st_plain rfl (op_pick _ _ false _ rfl rfl),
         st_plain rfl (op_move _ _ _ _ rfl rfl),
         st_skip 17 69 _ true rfl rfl rfl rfl (List.Mem.head _),
         st_skip 17 69 _ true rfl rfl rfl rfl (List.Mem.head _),
         st_skip 17 69 _ true rfl rfl rfl rfl (List.Mem.head _),
         st_plain rfl (op_pick _ _ false _ rfl rfl),
         st_plain rfl (op_move _ _ _ _ rfl rfl),
         st_skip 22 74 _ true rfl rfl rfl rfl (List.Mem.head _),
         st_plain rfl (op_pick _ _ false _ rfl rfl),
         st_plain rfl (op_assign _ _ _ _ rfl rfl),
         trivial⟩ ?_
        exact hl46 _ (Option.some.inj h).symm
      ·refine ht_seqR hn (El := (_ :: _ :: _ :: _ :: _ :: _ :: (52, .v (.int .i64 v34.2)) :: (53, .v (.bool (v34.2 == 0))) :: (54, .v (.bool false)) :: (55, .v undef) :: (56, .v undef) :: (57, .v undef) :: (58, .v (.bool false)) :: (59, .v (.bool false)) :: (60, .v undef) :: (61, .v undef) :: (62, .v undef) :: (63, .v undef) :: (64, .v (.bool false)) :: (65, .v (.bool false)) :: (66, .v undef) :: (67, .v undef) :: (68, .v (.bool false)) :: (69, .v (.bool false)) :: (70, .v undef) :: (71, .v undef) :: (72, .v undef) :: (73, .v (.bool false)) :: (74, .v (.bool false)) :: (75, .v undef) :: (76, .v (.bool false)) :: (4, .v (.bool false)) :: [])) (init := [0, 1, 2, 3, 4, 5]) (fin := [0, 31]) (sps := (⟨[3], [], [6], [(.slot 52)]⟩ :: ⟨[6], [], [7], [(.slot 53)]⟩ :: ⟨[7], [], [8], [(.slot 54)]⟩ :: ⟨[8], [], [9], [(.slot 55)]⟩ :: ⟨[8], [], [10], [(.slot 56)]⟩ :: ⟨[8], [], [11], [(.slot 57)]⟩ :: ⟨[8], [], [12], [(.slot 58)]⟩ :: ⟨[12], [], [13], [(.slot 59)]⟩ :: ⟨[13], [], [14], [(.slot 60)]⟩ :: ⟨[13], [], [15], [(.slot 61)]⟩ :: ⟨[13], [], [16], [(.slot 62)]⟩ :: ⟨[13], [], [17], [(.slot 63)]⟩ :: ⟨[13], [], [18], [(.slot 64)]⟩ :: ⟨[18], [], [19], [(.slot 65)]⟩ :: ⟨[19], [], [20], [(.slot 66)]⟩ :: ⟨[19], [], [21], [(.slot 67)]⟩ :: ⟨[19], [], [22], [(.slot 68)]⟩ :: ⟨[22], [], [23], [(.slot 69)]⟩ :: ⟨[23], [], [24], [(.slot 70)]⟩ :: ⟨[23], [], [25], [(.slot 71)]⟩ :: ⟨[23], [], [26], [(.slot 72)]⟩ :: ⟨[23], [], [27], [(.slot 73)]⟩ :: ⟨[27], [], [28], [(.slot 74)]⟩ :: ⟨[28], [], [29], [(.slot 75)]⟩ :: ⟨[28], [], [30], [(.slot 76)]⟩ :: ⟨[30], [], [31], [(.slot 4)]⟩ :: [])) (es' := [(_, _), (4, .v (.bool false))]) (by kernel_rfl) rfl rfl
        ⟨st_plain rfl (op_move _ _ _ _ rfl rfl),
        st_plain rfl (op_bin _ _ _ _ _ rfl rfl rfl),
        st_plain rfl (op_move _ _ _ _ (congrArg (fun b => AV.v (Value.bool b)) hg11_2) rfl),
        st_skip 2 54 _ true rfl rfl rfl rfl (List.Mem.head _),
        st_skip 2 54 _ true rfl rfl rfl rfl (List.Mem.head _),
        st_skip 2 54 _ true rfl rfl rfl rfl (List.Mem.head _),
        st_plain rfl (op_pick _ _ false _ rfl rfl),
        st_plain rfl (op_move _ _ _ _ rfl rfl),
        st_skip 7 59 _ true rfl rfl rfl rfl (List.Mem.head _),
        st_skip 7 59 _ true rfl rfl rfl rfl (List.Mem.head _),
        st_skip 7 59 _ true rfl rfl rfl rfl (List.Mem.head _),
        st_skip 7 59 _ true rfl rfl rfl rfl (List.Mem.head _),
        st_plain rfl (op_pick _ _ false _ rfl rfl),
        st_plain rfl (op_move _ _ _ _ rfl rfl),
        st_skip 13 65 _ true rfl rfl rfl rfl (List.Mem.head _),
        st_skip 13 65 _ true rfl rfl rfl rfl (List.Mem.head _),
        st_plain rfl (op_pick _ _ false _ rfl rfl),
        st_plain rfl (op_move _ _ _ _ rfl rfl),
        st_skip 17 69 _ true rfl rfl rfl rfl (List.Mem.head _),
        st_skip 17 69 _ true rfl rfl rfl rfl (List.Mem.head _),
        st_skip 17 69 _ true rfl rfl rfl rfl (List.Mem.head _),
        st_plain rfl (op_pick _ _ false _ rfl rfl),
        st_plain rfl (op_move _ _ _ _ rfl rfl),
        st_skip 22 74 _ true rfl rfl rfl rfl (List.Mem.head _),
        st_plain rfl (op_pick _ _ false _ rfl rfl),
        st_plain rfl (op_assign _ _ _ _ rfl rfl),
        trivial⟩ ?_
       exact hl46 _ (Option.some.inj h).symm
   ·rintro u27 hl28 hr29 s24 rr32 h ho30
    refine ht_seq ?_
    refine ht_seq ?_
    obtain ⟨v18, hv18, h⟩ := bind_some h
    refine ht_seqR hn (El := [_, _, _, _, (20, .v (.string s24)), (21, .v (.int .i64 (s24.size : Int))), (22, .v (.int .i64 v3)), (23, .v (.int .i64 v18)), (24, .v (.bool ((decide ((s24.size : Int) < v18)))))]) (init := [0, 1, 2, 3]) (fin := [0, 1, 2, 3, 8]) (sps := [⟨[3], [], [4], [(.slot 20)]⟩, ⟨[4], [], [5], [(.slot 21)]⟩, ⟨[1], [], [6], [(.slot 22)]⟩, ⟨[6], [], [7], [(.slot 23)]⟩, ⟨[5, 7], [], [8], [(.slot 24)]⟩]) (es' := [(_, _), (_, _), (_, _), (_, _), (24, .v (.bool ((decide ((s24.size : Int) < v18)))))]) (by kernel_rfl) rfl rfl
     ⟨st_plain rfl (op_move _ _ _ _ rfl rfl),
     st_plain rfl (op_len_str _ _ _ Tryd.underlying9 rfl),
     st_plain rfl (op_move _ _ _ _ rfl rfl),
     st_plain rfl (op_bin _ _ _ _ _ rfl rfl (ibind (f := Value.int .i64) (Option.some.inj hv18))),
     st_plain rfl (op_bin _ _ _ _ _ rfl rfl rfl),
     trivial⟩ ?_
    refine pt_then ?_
    refine ht_cond _ rfl (fun hb33 => ?_) (fun hb33 => ?_)
    ·have h := cond_t hb33 h
     refine ht_skip ?_
     refine pt_then ?_
     refine ht_block ?_
     obtain ⟨v20, hv20, h⟩ := bind_some h
     obtain ⟨v21, hv21, h⟩ := bind_some h
     refine ht_seqR hn (El := [_, _, _, _, _, (25, .v (.string s24)), (26, .v (.int .u8 s9)), (27, .fl (.own 5) 1 (List.map (Value.int .u8) [s9])), (28, .v (.string v20)), (29, .v (.string v21)), (5, .v (.string v21))]) (init := [0, 1, 2, 3, 4]) (fin := [0, 1, 2, 10]) (sps := [⟨[3], [], [5], [(.slot 25)]⟩, ⟨[2], [], [6], [(.slot 26)]⟩, ⟨[6], [], [7], [(.slot 27)]⟩, ⟨[7], [], [8], [(.slot 28)]⟩, ⟨[5, 8], [], [9], [(.slot 29)]⟩, ⟨[9], [3], [10], [(.slot 5)]⟩]) (es' := [(_, _), (_, _), (_, _), (5, .v (.string v21))]) (by kernel_rfl) rfl rfl
      ⟨st_plain rfl (op_move _ _ _ _ rfl rfl),
      st_plain rfl (op_move _ _ _ _ rfl rfl),
      st_plain rfl (op_buildSlice _ _ 1 (.int .u8 0) (List.map (Value.int .u8) [s9]) [(0, .int .u8 s9)] Tryd.underlying37 sz5 zr5 (fun _ V w o a hv hes => by have e0 := rd_v hv hes (x := .tmp 26) rfl; simp only [List.map_toArray, List.map_cons, List.map_nil, e0]; try rfl) (litfill (by simp [Instr.fill, Value.cells]; rfl) (by simp [List.range, List.range.loop] <;> rfl)) (by simp [Value.oneCell']) rfl (by decide) (by decide) (by decide)),
      st_plain rfl ((Option.some.inj hv20) ▸ op_bytes_str _ _ _ [s9] Tryd.underlying37 Tryd.underlying9 Tryd.underlying5 rfl),
      st_plain rfl (op_bin _ _ _ _ _ rfl rfl (cat_ok hv21)),
      st_plain rfl (LOp.drop [_] (op_assign _ _ _ _ rfl rfl)),
      trivial⟩ ?_
     refine pt_inb ?_
     exact pt_next _ (Option.some.inj h).symm rfl
    ·have h := cond_f hb33 h
     refine ht_exit ?_
     refine pt_x_then ?_
     refine pt_x_then ?_
     refine pt_x_in ?_
     refine pt_pick [0, 1, 3] (by kernel_rfl) (es' := [(_, _), (_, _), (_, _)]) rfl ?_
     exact hl28 _ (ho30 _ (Option.some.inj h).symm).symm
  ·intro u10 h hl11 hr12
   refine ht_seq ?_
   refine ht_joinS h (fun (s13 : Bool) => [(1, .v (.int .u8 c)), (77, .glob (GL mx)), (0, .v (.int .i64 v3)), (19, .v (.bool s13))]) ?_ ?_
   ·rintro s13 h
    refine pt_then ?_
    refine ht_cond _ rfl (fun hb17 => ?_) (fun hb17 => ?_)
    ·have h := cond_t hb17 h
     refine ht_seqR hn (El := [_, _, _, _, (1, .v (.int .u8 120))]) (init := [0, 1, 2, 3]) (fin := [1, 2, 4]) (sps := [⟨[], [0], [4], [(.slot 1)]⟩]) (es' := [(_, _), (_, _), (1, .v (.int .u8 120))]) (by kernel_rfl) rfl rfl
      ⟨st_plain rfl (LOp.drop [_] (op_assign _ _ _ _ rfl rfl)),
      trivial⟩ ?_
     exact hl11 _ (Option.some.inj h).symm
    ·have h := cond_f hb17 h
     refine ht_skip ?_
     refine pt_pick [1, 2, 0] (by kernel_rfl) (es' := [(_, _), (_, _), (_, _)]) rfl ?_
     exact hl11 _ (Option.some.inj h).symm
   ·intro u14 h hl15 hr16
    refine cond_some h (fun hg2_2 h => ?_) (fun hg2_2 h => ?_)
    ·refine ht_seqR hn (El := [_, _, _, (14, .v (.int .u8 c)), (15, .v (.bool ((decide (c < 33))))), (16, .v (.bool true)), (17, .v undef), (18, .v undef), (19, .v (.bool true))]) (init := [0, 1, 2]) (fin := [0, 1, 2, 8]) (sps := [⟨[0], [], [3], [(.slot 14)]⟩, ⟨[3], [], [4], [(.slot 15)]⟩, ⟨[4], [], [5], [(.slot 16)]⟩, ⟨[5], [], [6], [(.slot 17)]⟩, ⟨[5], [], [7], [(.slot 18)]⟩, ⟨[5], [], [8], [(.slot 19)]⟩]) (es' := [(_, _), (_, _), (_, _), (19, .v (.bool true))]) (by kernel_rfl) rfl rfl
      ⟨st_plain rfl (op_move _ _ _ _ rfl rfl),
      st_plain rfl (op_bin _ _ _ _ _ rfl rfl rfl),
      st_plain rfl (op_move _ _ _ _ (congrArg (fun b => AV.v (Value.bool b)) hg2_2) rfl),
      st_skip 2 16 _ false rfl rfl rfl rfl (List.Mem.head _),
      st_skip 2 16 _ false rfl rfl rfl rfl (List.Mem.head _),
      st_plain rfl (op_pick _ _ true _ rfl rfl),
      trivial⟩ ?_
     exact hl15 _ (Option.some.inj h).symm
    ·refine ht_seqR hn (El := [_, _, _, (14, .v (.int .u8 c)), (15, .v (.bool ((decide (c < 33))))), (16, .v (.bool false)), (17, .v (.int .u8 c)), (18, .v (.bool ((decide (126 < c))))), (19, .v (.bool ((decide (126 < c)))))]) (init := [0, 1, 2]) (fin := [0, 1, 2, 8]) (sps := [⟨[0], [], [3], [(.slot 14)]⟩, ⟨[3], [], [4], [(.slot 15)]⟩, ⟨[4], [], [5], [(.slot 16)]⟩, ⟨[5, 0], [], [6], [(.slot 17)]⟩, ⟨[5, 6], [], [7], [(.slot 18)]⟩, ⟨[5, 7], [], [8], [(.slot 19)]⟩]) (es' := [(_, _), (_, _), (_, _), (19, .v (.bool ((decide (126 < c)))))]) (by kernel_rfl) rfl rfl
      ⟨st_plain rfl (op_move _ _ _ _ rfl rfl),
      st_plain rfl (op_bin _ _ _ _ _ rfl rfl rfl),
      st_plain rfl (op_move _ _ _ _ (congrArg (fun b => AV.v (Value.bool b)) hg2_2) rfl),
      st_run 2 16 false rfl rfl rfl (List.Mem.head _) (op_move _ _ _ _ rfl rfl),
      st_run 2 16 false rfl rfl rfl (List.Mem.head _) (op_bin _ _ _ _ _ rfl rfl rfl),
      st_plain rfl (op_pick _ _ false _ rfl rfl),
      trivial⟩ ?_
     exact hl15 _ (Option.some.inj h).symm

end Go.Proofs.YthfmdofkkkpbkaaDoor
