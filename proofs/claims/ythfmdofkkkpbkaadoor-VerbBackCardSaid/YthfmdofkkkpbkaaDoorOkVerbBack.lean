/-
  The model's runs are what is told in Lean.
-/
import Derived.Test.YthfmdofkkkpbkaaDoorProg
import Derived.KernelRfl
import Derived.Test.YthfmdofkkkpbkaaDoorShelf
import Derived.Test.YthfmdofkkkpbkaaDoorOkc4
set_option linter.unusedVariables false
set_option linter.unusedSimpArgs false
namespace Go.Proofs.YthfmdofkkkpbkaaDoor
open Go.Abs Go.Abs.Sh

set_option maxHeartbeats 1000000 in
theorem ok_wherrylaw12_VerbBack (mx : Int) (s : ByteArray) (c : T_Cmd) (r : Bool) (h : Sh.wherrylaw12_VerbBack s c = some r) : FnG Tryd.prog (GL mx) 3 [.v (.string s), .agg [.v (.int .i64 c.Kind), .v (.string c.Text), .v (.bool c.Path.Null), .v (.string c.Path.Local), .v (.string c.Path.Domain), .fl .shr 2 (List.flatten (List.map T_Param.enc c.Params))]] (.v (.bool r)) := by
  unfold Sh.wherrylaw12_VerbBack at h
  refine fn_okG Tryd.func3 rfl (Nat.le_of_ble_eq_true rfl) rfl rfl fun g0 hn hio => ?_
  refine ht_seq ?_
  refine ht_seqR hn (El := [_, _, _, (3, .box 26 [.v (.int .i64 c.Kind), .v (.string c.Text), .v (.bool c.Path.Null), .v (.string c.Path.Local), .v (.string c.Path.Domain), .fl .shr 2 (List.flatten (List.map T_Param.enc c.Params))]), (4, .v (.bool false))]) (init := [0, 1, 2]) (fin := [0, 2, 3]) (sps := [⟨[1], [], [3], [(.slot 3)]⟩, ⟨[], [], [4], [(.slot 4)]⟩]) (es' := [(_, _), (_, _), (3, .box 26 [.v (.int .i64 c.Kind), .v (.string c.Text), .v (.bool c.Path.Null), .v (.string c.Path.Local), .v (.string c.Path.Domain), .fl .shr 2 (List.flatten (List.map T_Param.enc c.Params))])]) (by kernel_rfl) rfl rfl
   ⟨st_plain rfl (op_box _ _ _ _ rfl rfl rfl),
   st_plain rfl (op_assign _ _ _ _ rfl rfl),
   trivial⟩ ?_
  refine pt_then ?_
  refine ht_seq ?_
  refine ht_seq ?_
  refine ht_joinS h (fun (s2 : Bool) => [(0, .v (.string s)), (100, .glob (GL mx)), (3, .box 26 [.v (.int .i64 c.Kind), .v (.string c.Text), .v (.bool c.Path.Null), .v (.string c.Path.Local), .v (.string c.Path.Domain), .fl .shr 2 (List.flatten (List.map T_Param.enc c.Params))]), (21, .v (.bool s2))]) ?_ ?_
  ·rintro s2 h
   refine pt_then ?_
   refine ht_cond _ rfl (fun hb6 => ?_) (fun hb6 => ?_)
   ·have h := cond_t hb6 h
    refine ht_seq ?_
    refine ht_seqR hn (El := [_, _, _, _, (4, .v (.bool true))]) (init := [0, 1, 2, 3]) (fin := [1, 4]) (sps := [⟨[], [], [4], [(.slot 4)]⟩]) (es' := [(_, _), (4, .v (.bool true))]) (by kernel_rfl) rfl rfl
     ⟨st_plain rfl (op_assign _ _ _ _ rfl rfl),
     trivial⟩ ?_
    refine pt_then ?_
    refine ht_ret ?_
    refine pt_pick [1] (by kernel_rfl) (es' := [(_, _)]) rfl ?_
    refine pt_r_then ?_
    obtain rfl := Option.some.inj h
    exact pt_ret hio rfl (.tmp _ _ .nil) rfl rfl
   ·have h := cond_f hb6 h
    refine ht_skip ?_
    refine pt_then ?_
    refine ht_seq ?_
    refine ht_joinS h (fun (() : Unit) => [(0, .v (.string s)), (100, .glob (GL mx))]) ?_ ?_
    ·rintro ⟨⟩ h
     refine pt_then ?_
     refine ht_seq ?_
     obtain ⟨v25, hv25, h⟩ := bind_some h
     refine ht_seqR hn (El := [_, _, (48, .v (.string s)), (49, .tup [.agg [.v (.int .i64 v25.1.Kind), .v (.string v25.1.Text), .v (.bool v25.1.Path.Null), .v (.string v25.1.Path.Local), .v (.string v25.1.Path.Domain), .fl .ro 2 (List.flatten (List.map T_Param.enc v25.1.Params))], .v (.int .i64 v25.2)]), (47, .tup [.agg [.v (.int .i64 v25.1.Kind), .v (.string v25.1.Text), .v (.bool v25.1.Path.Null), .v (.string v25.1.Path.Local), .v (.string v25.1.Path.Domain), .fl .ro 2 (List.flatten (List.map T_Param.enc v25.1.Params))], .v (.int .i64 v25.2)]), (50, .agg [.v (.int .i64 v25.1.Kind), .v (.string v25.1.Text), .v (.bool v25.1.Path.Null), .v (.string v25.1.Path.Local), .v (.string v25.1.Path.Domain), .fl .ro 2 (List.flatten (List.map T_Param.enc v25.1.Params))]), (51, .v (.int .i64 v25.2)), (9, .box 26 [.v (.int .i64 0), .v (.string (⟨#[]⟩ : ByteArray)), .v (.bool false), .v (.string (⟨#[]⟩ : ByteArray)), .v (.string (⟨#[]⟩ : ByteArray)), .v (.slice none 0 0)]), (9, .box 26 [.v (.int .i64 v25.1.Kind), .v (.string v25.1.Text), .v (.bool v25.1.Path.Null), .v (.string v25.1.Path.Local), .v (.string v25.1.Path.Domain), .fl .ro 2 (List.flatten (List.map T_Param.enc v25.1.Params))]), (10, .v (.int .i64 v25.2))]) (init := [0, 1]) (fin := [0, 1, 8, 9]) (sps := [⟨[0], [], [2], [(.slot 48)]⟩, ⟨[2, 1], [], [3], [(.slot 49)]⟩, ⟨[], [3], [4], [(.slot 47)]⟩, ⟨[4], [], [5], [(.slot 50)]⟩, ⟨[4], [], [6], [(.slot 51)]⟩, ⟨[], [], [7], [(.slot 9)]⟩, ⟨[5], [7], [8], [.cell 9 0, .cell 9 1, .cell 9 2, .cell 9 3, .cell 9 4, .cell 9 5]⟩, ⟨[6], [], [9], [(.slot 10)]⟩]) (es' := [(_, _), (_, _), (9, .box 26 [.v (.int .i64 v25.1.Kind), .v (.string v25.1.Text), .v (.bool v25.1.Path.Null), .v (.string v25.1.Path.Local), .v (.string v25.1.Path.Domain), .fl .ro 2 (List.flatten (List.map T_Param.enc v25.1.Params))]), (10, .v (.int .i64 v25.2))]) (by kernel_rfl) rfl rfl
      ⟨st_plain rfl (op_move _ _ _ _ rfl rfl),
      st_plain rfl (op_callG _ _ 100 10 _ _ rfl Tryd.call10 rfl rfl (fun _ h => h) (ok_verb_Parse mx s _ hv25) rfl rfl),
      st_plain rfl (op_move_take _ _ _ _ rfl),
      st_plain rfl (op_extract_no _ _ _ _ _ _ rfl rfl (Nat.le_of_ble_eq_true rfl) rfl rfl),
      st_plain rfl (op_extract _ _ _ _ _ rfl rfl (Nat.le_of_ble_eq_true rfl) rfl rfl),
      st_plain rfl (op_alloc _ _ zr26),
      st_plain rfl (op_store _ _ _ _ _ _ _ _ sz26 rfl rfl rfl rfl (Nat.le_of_ble_eq_true rfl) rfl rfl),
      st_plain rfl (op_assign _ _ _ _ rfl rfl),
      trivial⟩ ?_
     refine pt_then ?_
     refine ht_seq ?_
     refine ht_seq ?_
     refine ht_seqR hn (El := [_, _, _, _, (52, .v (.int .i64 v25.2)), (53, .v (.bool (v25.2 != 0)))]) (init := [0, 1, 2, 3]) (fin := [0, 1, 2, 3, 5]) (sps := [⟨[3], [], [4], [(.slot 52)]⟩, ⟨[4], [], [5], [(.slot 53)]⟩]) (es' := [(_, _), (_, _), (_, _), (_, _), (53, .v (.bool (v25.2 != 0)))]) (by kernel_rfl) rfl rfl
      ⟨st_plain rfl (op_move _ _ _ _ rfl rfl),
      st_plain rfl (op_bin _ _ _ _ _ rfl rfl rfl),
      trivial⟩ ?_
     refine pt_then ?_
     refine ht_cond _ rfl (fun hb26 => ?_) (fun hb26 => ?_)
     ·have h := cond_t hb26 h
      refine ht_seq ?_
      refine ht_joinS h (fun (s33 : Bool) => [(100, .glob (GL mx)), (4, .v (.bool s33))]) ?_ ?_
      ·rintro s33 h
       refine pt_then ?_
       refine ht_ret ?_
       refine pt_pick [1] (by kernel_rfl) (es' := [(_, _)]) rfl ?_
       refine pt_r_then ?_
       obtain rfl := Option.some.inj h
       exact pt_ret hio rfl (.tmp _ _ .nil) rfl rfl
      ·intro u34 h hl35 hr36
       refine cond_some h (fun hg10_2 h => ?_) (fun hg10_2 h => ?_)
       ·obtain ⟨v27, hv27, h⟩ := bind_some h
        refine cond_some h (fun hg10_15 h => ?_) (fun hg10_15 h => ?_)
        ·obtain ⟨v28, hv28, h⟩ := bind_some h
         refine ht_seqR hn (El := (_ :: _ :: _ :: _ :: _ :: (54, .v (.int .i64 v25.2)) :: (55, .v (.bool (v25.2 == 500))) :: (56, .v (.bool true)) :: (57, .v undef) :: (58, .v undef) :: (59, .v (.bool true)) :: (60, .v (.bool true)) :: (61, .v undef) :: (62, .v undef) :: (63, .v (.bool true)) :: (64, .v (.bool true)) :: (65, .agg [.v (.int .i64 v25.1.Kind), .v (.string v25.1.Text), .v (.bool v25.1.Path.Null), .v (.string v25.1.Path.Local), .v (.string v25.1.Path.Domain), .fl .ro 2 (List.flatten (List.map T_Param.enc v25.1.Params))]) :: (66, .agg [.v (.int .i64 0), .v (.string (⟨#[]⟩ : ByteArray)), .v (.bool false), .v (.string (⟨#[]⟩ : ByteArray)), .v (.string (⟨#[]⟩ : ByteArray)), .v (.slice none 0 0)]) :: (67, .v (.bool v27)) :: (68, .v (.bool v27)) :: (69, .v (.bool true)) :: (70, .v (.bool v28)) :: (71, .v (.bool v28)) :: (4, .v (.bool v28)) :: [])) (init := [0, 1, 2, 3, 4]) (fin := [1, 23]) (sps := (⟨[3], [], [5], [(.slot 54)]⟩ :: ⟨[5], [], [6], [(.slot 55)]⟩ :: ⟨[6], [], [7], [(.slot 56)]⟩ :: ⟨[7], [], [8], [(.slot 57)]⟩ :: ⟨[7], [], [9], [(.slot 58)]⟩ :: ⟨[7], [], [10], [(.slot 59)]⟩ :: ⟨[10], [], [11], [(.slot 60)]⟩ :: ⟨[11], [], [12], [(.slot 61)]⟩ :: ⟨[11], [], [13], [(.slot 62)]⟩ :: ⟨[11], [], [14], [(.slot 63)]⟩ :: ⟨[14], [], [15], [(.slot 64)]⟩ :: ⟨[15, 2], [], [16], [(.slot 65)]⟩ :: ⟨[15], [], [17], [(.slot 66)]⟩ :: ⟨[15, 16, 17], [], [18], [(.slot 67)]⟩ :: ⟨[15, 18], [], [19], [(.slot 68)]⟩ :: ⟨[19], [], [20], [(.slot 69)]⟩ :: ⟨[20, 1], [], [21], [(.slot 70)]⟩ :: ⟨[20, 21], [], [22], [(.slot 71)]⟩ :: ⟨[22], [], [23], [(.slot 4)]⟩ :: [])) (es' := [(_, _), (4, .v (.bool v28))]) (by kernel_rfl) rfl rfl
          ⟨st_plain rfl (op_move _ _ _ _ rfl rfl),
          st_plain rfl (op_bin _ _ _ _ _ rfl rfl rfl),
          st_plain rfl (op_move _ _ _ _ (congrArg (fun b => AV.v (Value.bool b)) hg10_2) rfl),
          st_skip 2 56 _ false rfl rfl rfl rfl (List.Mem.head _),
          st_skip 2 56 _ false rfl rfl rfl rfl (List.Mem.head _),
          st_plain rfl (op_pick _ _ true _ rfl rfl),
          st_plain rfl (op_move _ _ _ _ rfl rfl),
          st_skip 6 60 _ false rfl rfl rfl rfl (List.Mem.head _),
          st_skip 6 60 _ false rfl rfl rfl rfl (List.Mem.head _),
          st_plain rfl (op_pick _ _ true _ rfl rfl),
          st_plain rfl (op_move _ _ _ _ rfl rfl),
          st_run 10 64 true rfl rfl rfl (List.Mem.head _) (op_loadA _ _ _ _ _ _ _ Tryd.underlying26 rfl sz26 rfl rfl (Nat.le_of_ble_eq_true rfl) rfl rfl),
          st_run 10 64 true rfl rfl rfl (List.Mem.head _) (op_build _ _ _ _ [1, 1, 3, 1] _ _ Tryd.underlying26 zr26 (fs26 _ Tryd.underlying26) Src.nil rfl rfl rfl),
          st_run 10 64 true rfl rfl rfl (List.Mem.head _) (op_call _ _ 11 _ _ rfl Tryd.call11 rfl ((ok_wherrykeep_Cmd ((T_Cmd.mk v25.1.Kind v25.1.Text (T_Path.mk v25.1.Path.Null v25.1.Path.Local v25.1.Path.Domain) v25.1.Params)) ((T_Cmd.mk 0 (⟨#[]⟩ : ByteArray) ((T_Path.mk false (⟨#[]⟩ : ByteArray) (⟨#[]⟩ : ByteArray))) [])) _ hv27).args (subs_cons (sub_refl _) (subs_cons (sub_agg (subs_cons (sub_refl _) (subs_cons (sub_refl _) (subs_cons (sub_refl _) (subs_cons (sub_refl _) (subs_cons (sub_refl _) (subs_cons (sub_nil_shr 2) (subs_nil)))))))) (subs_nil)))) rfl rfl),
          st_plain rfl (op_pick _ _ true _ rfl rfl),
          st_plain rfl (op_move _ _ _ _ (congrArg (fun b => AV.v (Value.bool b)) hg10_15) rfl),
          st_run 15 69 true rfl rfl rfl (List.Mem.head _) (op_callG _ _ 100 12 _ _ rfl Tryd.call12 rfl rfl (fun _ h => h) (ok_wherrylaw12_wakes mx  _ hv28) rfl rfl),
          st_plain rfl (op_pick _ _ true _ rfl rfl),
          st_plain rfl (op_assign _ _ _ _ rfl rfl),
          trivial⟩ ?_
         exact hl35 _ (Option.some.inj h).symm
        ·refine ht_seqR hn (El := (_ :: _ :: _ :: _ :: _ :: (54, .v (.int .i64 v25.2)) :: (55, .v (.bool (v25.2 == 500))) :: (56, .v (.bool true)) :: (57, .v undef) :: (58, .v undef) :: (59, .v (.bool true)) :: (60, .v (.bool true)) :: (61, .v undef) :: (62, .v undef) :: (63, .v (.bool true)) :: (64, .v (.bool true)) :: (65, .agg [.v (.int .i64 v25.1.Kind), .v (.string v25.1.Text), .v (.bool v25.1.Path.Null), .v (.string v25.1.Path.Local), .v (.string v25.1.Path.Domain), .fl .ro 2 (List.flatten (List.map T_Param.enc v25.1.Params))]) :: (66, .agg [.v (.int .i64 0), .v (.string (⟨#[]⟩ : ByteArray)), .v (.bool false), .v (.string (⟨#[]⟩ : ByteArray)), .v (.string (⟨#[]⟩ : ByteArray)), .v (.slice none 0 0)]) :: (67, .v (.bool v27)) :: (68, .v (.bool v27)) :: (69, .v (.bool false)) :: (70, .v undef) :: (71, .v (.bool false)) :: (4, .v (.bool false)) :: [])) (init := [0, 1, 2, 3, 4]) (fin := [1, 23]) (sps := (⟨[3], [], [5], [(.slot 54)]⟩ :: ⟨[5], [], [6], [(.slot 55)]⟩ :: ⟨[6], [], [7], [(.slot 56)]⟩ :: ⟨[7], [], [8], [(.slot 57)]⟩ :: ⟨[7], [], [9], [(.slot 58)]⟩ :: ⟨[7], [], [10], [(.slot 59)]⟩ :: ⟨[10], [], [11], [(.slot 60)]⟩ :: ⟨[11], [], [12], [(.slot 61)]⟩ :: ⟨[11], [], [13], [(.slot 62)]⟩ :: ⟨[11], [], [14], [(.slot 63)]⟩ :: ⟨[14], [], [15], [(.slot 64)]⟩ :: ⟨[15, 2], [], [16], [(.slot 65)]⟩ :: ⟨[15], [], [17], [(.slot 66)]⟩ :: ⟨[15, 16, 17], [], [18], [(.slot 67)]⟩ :: ⟨[15, 18], [], [19], [(.slot 68)]⟩ :: ⟨[19], [], [20], [(.slot 69)]⟩ :: ⟨[20], [], [21], [(.slot 70)]⟩ :: ⟨[20], [], [22], [(.slot 71)]⟩ :: ⟨[22], [], [23], [(.slot 4)]⟩ :: [])) (es' := [(_, _), (4, .v (.bool false))]) (by kernel_rfl) rfl rfl
          ⟨st_plain rfl (op_move _ _ _ _ rfl rfl),
          st_plain rfl (op_bin _ _ _ _ _ rfl rfl rfl),
          st_plain rfl (op_move _ _ _ _ (congrArg (fun b => AV.v (Value.bool b)) hg10_2) rfl),
          st_skip 2 56 _ false rfl rfl rfl rfl (List.Mem.head _),
          st_skip 2 56 _ false rfl rfl rfl rfl (List.Mem.head _),
          st_plain rfl (op_pick _ _ true _ rfl rfl),
          st_plain rfl (op_move _ _ _ _ rfl rfl),
          st_skip 6 60 _ false rfl rfl rfl rfl (List.Mem.head _),
          st_skip 6 60 _ false rfl rfl rfl rfl (List.Mem.head _),
          st_plain rfl (op_pick _ _ true _ rfl rfl),
          st_plain rfl (op_move _ _ _ _ rfl rfl),
          st_run 10 64 true rfl rfl rfl (List.Mem.head _) (op_loadA _ _ _ _ _ _ _ Tryd.underlying26 rfl sz26 rfl rfl (Nat.le_of_ble_eq_true rfl) rfl rfl),
          st_run 10 64 true rfl rfl rfl (List.Mem.head _) (op_build _ _ _ _ [1, 1, 3, 1] _ _ Tryd.underlying26 zr26 (fs26 _ Tryd.underlying26) Src.nil rfl rfl rfl),
          st_run 10 64 true rfl rfl rfl (List.Mem.head _) (op_call _ _ 11 _ _ rfl Tryd.call11 rfl ((ok_wherrykeep_Cmd ((T_Cmd.mk v25.1.Kind v25.1.Text (T_Path.mk v25.1.Path.Null v25.1.Path.Local v25.1.Path.Domain) v25.1.Params)) ((T_Cmd.mk 0 (⟨#[]⟩ : ByteArray) ((T_Path.mk false (⟨#[]⟩ : ByteArray) (⟨#[]⟩ : ByteArray))) [])) _ hv27).args (subs_cons (sub_refl _) (subs_cons (sub_agg (subs_cons (sub_refl _) (subs_cons (sub_refl _) (subs_cons (sub_refl _) (subs_cons (sub_refl _) (subs_cons (sub_refl _) (subs_cons (sub_nil_shr 2) (subs_nil)))))))) (subs_nil)))) rfl rfl),
          st_plain rfl (op_pick _ _ true _ rfl rfl),
          st_plain rfl (op_move _ _ _ _ (congrArg (fun b => AV.v (Value.bool b)) hg10_15) rfl),
          st_skip 15 69 _ true rfl rfl rfl rfl (List.Mem.head _),
          st_plain rfl (op_pick _ _ false _ rfl rfl),
          st_plain rfl (op_assign _ _ _ _ rfl rfl),
          trivial⟩ ?_
         exact hl35 _ (Option.some.inj h).symm
       ·refine cond_some h (fun hg10_6 h => ?_) (fun hg10_6 h => ?_)
        ·obtain ⟨v29, hv29, h⟩ := bind_some h
         refine cond_some h (fun hg10_15 h => ?_) (fun hg10_15 h => ?_)
         ·obtain ⟨v30, hv30, h⟩ := bind_some h
          refine ht_seqR hn (El := (_ :: _ :: _ :: _ :: _ :: (54, .v (.int .i64 v25.2)) :: (55, .v (.bool (v25.2 == 500))) :: (56, .v (.bool false)) :: (57, .v (.int .i64 v25.2)) :: (58, .v (.bool (v25.2 == 501))) :: (59, .v (.bool (v25.2 == 501))) :: (60, .v (.bool true)) :: (61, .v undef) :: (62, .v undef) :: (63, .v (.bool true)) :: (64, .v (.bool true)) :: (65, .agg [.v (.int .i64 v25.1.Kind), .v (.string v25.1.Text), .v (.bool v25.1.Path.Null), .v (.string v25.1.Path.Local), .v (.string v25.1.Path.Domain), .fl .ro 2 (List.flatten (List.map T_Param.enc v25.1.Params))]) :: (66, .agg [.v (.int .i64 0), .v (.string (⟨#[]⟩ : ByteArray)), .v (.bool false), .v (.string (⟨#[]⟩ : ByteArray)), .v (.string (⟨#[]⟩ : ByteArray)), .v (.slice none 0 0)]) :: (67, .v (.bool v29)) :: (68, .v (.bool v29)) :: (69, .v (.bool true)) :: (70, .v (.bool v30)) :: (71, .v (.bool v30)) :: (4, .v (.bool v30)) :: [])) (init := [0, 1, 2, 3, 4]) (fin := [1, 23]) (sps := (⟨[3], [], [5], [(.slot 54)]⟩ :: ⟨[5], [], [6], [(.slot 55)]⟩ :: ⟨[6], [], [7], [(.slot 56)]⟩ :: ⟨[7, 3], [], [8], [(.slot 57)]⟩ :: ⟨[7, 8], [], [9], [(.slot 58)]⟩ :: ⟨[7, 9], [], [10], [(.slot 59)]⟩ :: ⟨[10], [], [11], [(.slot 60)]⟩ :: ⟨[11], [], [12], [(.slot 61)]⟩ :: ⟨[11], [], [13], [(.slot 62)]⟩ :: ⟨[11], [], [14], [(.slot 63)]⟩ :: ⟨[14], [], [15], [(.slot 64)]⟩ :: ⟨[15, 2], [], [16], [(.slot 65)]⟩ :: ⟨[15], [], [17], [(.slot 66)]⟩ :: ⟨[15, 16, 17], [], [18], [(.slot 67)]⟩ :: ⟨[15, 18], [], [19], [(.slot 68)]⟩ :: ⟨[19], [], [20], [(.slot 69)]⟩ :: ⟨[20, 1], [], [21], [(.slot 70)]⟩ :: ⟨[20, 21], [], [22], [(.slot 71)]⟩ :: ⟨[22], [], [23], [(.slot 4)]⟩ :: [])) (es' := [(_, _), (4, .v (.bool v30))]) (by kernel_rfl) rfl rfl
           ⟨st_plain rfl (op_move _ _ _ _ rfl rfl),
           st_plain rfl (op_bin _ _ _ _ _ rfl rfl rfl),
           st_plain rfl (op_move _ _ _ _ (congrArg (fun b => AV.v (Value.bool b)) hg10_2) rfl),
           st_run 2 56 false rfl rfl rfl (List.Mem.head _) (op_move _ _ _ _ rfl rfl),
           st_run 2 56 false rfl rfl rfl (List.Mem.head _) (op_bin _ _ _ _ _ rfl rfl rfl),
           st_plain rfl (op_pick _ _ false _ rfl rfl),
           st_plain rfl (op_move _ _ _ _ (congrArg (fun b => AV.v (Value.bool b)) hg10_6) rfl),
           st_skip 6 60 _ false rfl rfl rfl rfl (List.Mem.head _),
           st_skip 6 60 _ false rfl rfl rfl rfl (List.Mem.head _),
           st_plain rfl (op_pick _ _ true _ rfl rfl),
           st_plain rfl (op_move _ _ _ _ rfl rfl),
           st_run 10 64 true rfl rfl rfl (List.Mem.head _) (op_loadA _ _ _ _ _ _ _ Tryd.underlying26 rfl sz26 rfl rfl (Nat.le_of_ble_eq_true rfl) rfl rfl),
           st_run 10 64 true rfl rfl rfl (List.Mem.head _) (op_build _ _ _ _ [1, 1, 3, 1] _ _ Tryd.underlying26 zr26 (fs26 _ Tryd.underlying26) Src.nil rfl rfl rfl),
           st_run 10 64 true rfl rfl rfl (List.Mem.head _) (op_call _ _ 11 _ _ rfl Tryd.call11 rfl ((ok_wherrykeep_Cmd ((T_Cmd.mk v25.1.Kind v25.1.Text (T_Path.mk v25.1.Path.Null v25.1.Path.Local v25.1.Path.Domain) v25.1.Params)) ((T_Cmd.mk 0 (⟨#[]⟩ : ByteArray) ((T_Path.mk false (⟨#[]⟩ : ByteArray) (⟨#[]⟩ : ByteArray))) [])) _ hv29).args (subs_cons (sub_refl _) (subs_cons (sub_agg (subs_cons (sub_refl _) (subs_cons (sub_refl _) (subs_cons (sub_refl _) (subs_cons (sub_refl _) (subs_cons (sub_refl _) (subs_cons (sub_nil_shr 2) (subs_nil)))))))) (subs_nil)))) rfl rfl),
           st_plain rfl (op_pick _ _ true _ rfl rfl),
           st_plain rfl (op_move _ _ _ _ (congrArg (fun b => AV.v (Value.bool b)) hg10_15) rfl),
           st_run 15 69 true rfl rfl rfl (List.Mem.head _) (op_callG _ _ 100 12 _ _ rfl Tryd.call12 rfl rfl (fun _ h => h) (ok_wherrylaw12_wakes mx  _ hv30) rfl rfl),
           st_plain rfl (op_pick _ _ true _ rfl rfl),
           st_plain rfl (op_assign _ _ _ _ rfl rfl),
           trivial⟩ ?_
          exact hl35 _ (Option.some.inj h).symm
         ·refine ht_seqR hn (El := (_ :: _ :: _ :: _ :: _ :: (54, .v (.int .i64 v25.2)) :: (55, .v (.bool (v25.2 == 500))) :: (56, .v (.bool false)) :: (57, .v (.int .i64 v25.2)) :: (58, .v (.bool (v25.2 == 501))) :: (59, .v (.bool (v25.2 == 501))) :: (60, .v (.bool true)) :: (61, .v undef) :: (62, .v undef) :: (63, .v (.bool true)) :: (64, .v (.bool true)) :: (65, .agg [.v (.int .i64 v25.1.Kind), .v (.string v25.1.Text), .v (.bool v25.1.Path.Null), .v (.string v25.1.Path.Local), .v (.string v25.1.Path.Domain), .fl .ro 2 (List.flatten (List.map T_Param.enc v25.1.Params))]) :: (66, .agg [.v (.int .i64 0), .v (.string (⟨#[]⟩ : ByteArray)), .v (.bool false), .v (.string (⟨#[]⟩ : ByteArray)), .v (.string (⟨#[]⟩ : ByteArray)), .v (.slice none 0 0)]) :: (67, .v (.bool v29)) :: (68, .v (.bool v29)) :: (69, .v (.bool false)) :: (70, .v undef) :: (71, .v (.bool false)) :: (4, .v (.bool false)) :: [])) (init := [0, 1, 2, 3, 4]) (fin := [1, 23]) (sps := (⟨[3], [], [5], [(.slot 54)]⟩ :: ⟨[5], [], [6], [(.slot 55)]⟩ :: ⟨[6], [], [7], [(.slot 56)]⟩ :: ⟨[7, 3], [], [8], [(.slot 57)]⟩ :: ⟨[7, 8], [], [9], [(.slot 58)]⟩ :: ⟨[7, 9], [], [10], [(.slot 59)]⟩ :: ⟨[10], [], [11], [(.slot 60)]⟩ :: ⟨[11], [], [12], [(.slot 61)]⟩ :: ⟨[11], [], [13], [(.slot 62)]⟩ :: ⟨[11], [], [14], [(.slot 63)]⟩ :: ⟨[14], [], [15], [(.slot 64)]⟩ :: ⟨[15, 2], [], [16], [(.slot 65)]⟩ :: ⟨[15], [], [17], [(.slot 66)]⟩ :: ⟨[15, 16, 17], [], [18], [(.slot 67)]⟩ :: ⟨[15, 18], [], [19], [(.slot 68)]⟩ :: ⟨[19], [], [20], [(.slot 69)]⟩ :: ⟨[20], [], [21], [(.slot 70)]⟩ :: ⟨[20], [], [22], [(.slot 71)]⟩ :: ⟨[22], [], [23], [(.slot 4)]⟩ :: [])) (es' := [(_, _), (4, .v (.bool false))]) (by kernel_rfl) rfl rfl
           ⟨st_plain rfl (op_move _ _ _ _ rfl rfl),
           st_plain rfl (op_bin _ _ _ _ _ rfl rfl rfl),
           st_plain rfl (op_move _ _ _ _ (congrArg (fun b => AV.v (Value.bool b)) hg10_2) rfl),
           st_run 2 56 false rfl rfl rfl (List.Mem.head _) (op_move _ _ _ _ rfl rfl),
           st_run 2 56 false rfl rfl rfl (List.Mem.head _) (op_bin _ _ _ _ _ rfl rfl rfl),
           st_plain rfl (op_pick _ _ false _ rfl rfl),
           st_plain rfl (op_move _ _ _ _ (congrArg (fun b => AV.v (Value.bool b)) hg10_6) rfl),
           st_skip 6 60 _ false rfl rfl rfl rfl (List.Mem.head _),
           st_skip 6 60 _ false rfl rfl rfl rfl (List.Mem.head _),
           st_plain rfl (op_pick _ _ true _ rfl rfl),
           st_plain rfl (op_move _ _ _ _ rfl rfl),
           st_run 10 64 true rfl rfl rfl (List.Mem.head _) (op_loadA _ _ _ _ _ _ _ Tryd.underlying26 rfl sz26 rfl rfl (Nat.le_of_ble_eq_true rfl) rfl rfl),
           st_run 10 64 true rfl rfl rfl (List.Mem.head _) (op_build _ _ _ _ [1, 1, 3, 1] _ _ Tryd.underlying26 zr26 (fs26 _ Tryd.underlying26) Src.nil rfl rfl rfl),
           st_run 10 64 true rfl rfl rfl (List.Mem.head _) (op_call _ _ 11 _ _ rfl Tryd.call11 rfl ((ok_wherrykeep_Cmd ((T_Cmd.mk v25.1.Kind v25.1.Text (T_Path.mk v25.1.Path.Null v25.1.Path.Local v25.1.Path.Domain) v25.1.Params)) ((T_Cmd.mk 0 (⟨#[]⟩ : ByteArray) ((T_Path.mk false (⟨#[]⟩ : ByteArray) (⟨#[]⟩ : ByteArray))) [])) _ hv29).args (subs_cons (sub_refl _) (subs_cons (sub_agg (subs_cons (sub_refl _) (subs_cons (sub_refl _) (subs_cons (sub_refl _) (subs_cons (sub_refl _) (subs_cons (sub_refl _) (subs_cons (sub_nil_shr 2) (subs_nil)))))))) (subs_nil)))) rfl rfl),
           st_plain rfl (op_pick _ _ true _ rfl rfl),
           st_plain rfl (op_move _ _ _ _ (congrArg (fun b => AV.v (Value.bool b)) hg10_15) rfl),
           st_skip 15 69 _ true rfl rfl rfl rfl (List.Mem.head _),
           st_plain rfl (op_pick _ _ false _ rfl rfl),
           st_plain rfl (op_assign _ _ _ _ rfl rfl),
           trivial⟩ ?_
          exact hl35 _ (Option.some.inj h).symm
        ·refine cond_some h (fun hg10_10 h => ?_) (fun hg10_10 h => ?_)
         ·obtain ⟨v31, hv31, h⟩ := bind_some h
          refine cond_some h (fun hg10_15 h => ?_) (fun hg10_15 h => ?_)
          ·obtain ⟨v32, hv32, h⟩ := bind_some h
           refine ht_seqR hn (El := (_ :: _ :: _ :: _ :: _ :: (54, .v (.int .i64 v25.2)) :: (55, .v (.bool (v25.2 == 500))) :: (56, .v (.bool false)) :: (57, .v (.int .i64 v25.2)) :: (58, .v (.bool (v25.2 == 501))) :: (59, .v (.bool (v25.2 == 501))) :: (60, .v (.bool false)) :: (61, .v (.int .i64 v25.2)) :: (62, .v (.bool (v25.2 == 504))) :: (63, .v (.bool (v25.2 == 504))) :: (64, .v (.bool true)) :: (65, .agg [.v (.int .i64 v25.1.Kind), .v (.string v25.1.Text), .v (.bool v25.1.Path.Null), .v (.string v25.1.Path.Local), .v (.string v25.1.Path.Domain), .fl .ro 2 (List.flatten (List.map T_Param.enc v25.1.Params))]) :: (66, .agg [.v (.int .i64 0), .v (.string (⟨#[]⟩ : ByteArray)), .v (.bool false), .v (.string (⟨#[]⟩ : ByteArray)), .v (.string (⟨#[]⟩ : ByteArray)), .v (.slice none 0 0)]) :: (67, .v (.bool v31)) :: (68, .v (.bool v31)) :: (69, .v (.bool true)) :: (70, .v (.bool v32)) :: (71, .v (.bool v32)) :: (4, .v (.bool v32)) :: [])) (init := [0, 1, 2, 3, 4]) (fin := [1, 23]) (sps := (⟨[3], [], [5], [(.slot 54)]⟩ :: ⟨[5], [], [6], [(.slot 55)]⟩ :: ⟨[6], [], [7], [(.slot 56)]⟩ :: ⟨[7, 3], [], [8], [(.slot 57)]⟩ :: ⟨[7, 8], [], [9], [(.slot 58)]⟩ :: ⟨[7, 9], [], [10], [(.slot 59)]⟩ :: ⟨[10], [], [11], [(.slot 60)]⟩ :: ⟨[11, 3], [], [12], [(.slot 61)]⟩ :: ⟨[11, 12], [], [13], [(.slot 62)]⟩ :: ⟨[11, 13], [], [14], [(.slot 63)]⟩ :: ⟨[14], [], [15], [(.slot 64)]⟩ :: ⟨[15, 2], [], [16], [(.slot 65)]⟩ :: ⟨[15], [], [17], [(.slot 66)]⟩ :: ⟨[15, 16, 17], [], [18], [(.slot 67)]⟩ :: ⟨[15, 18], [], [19], [(.slot 68)]⟩ :: ⟨[19], [], [20], [(.slot 69)]⟩ :: ⟨[20, 1], [], [21], [(.slot 70)]⟩ :: ⟨[20, 21], [], [22], [(.slot 71)]⟩ :: ⟨[22], [], [23], [(.slot 4)]⟩ :: [])) (es' := [(_, _), (4, .v (.bool v32))]) (by kernel_rfl) rfl rfl
            ⟨st_plain rfl (op_move _ _ _ _ rfl rfl),
            st_plain rfl (op_bin _ _ _ _ _ rfl rfl rfl),
            st_plain rfl (op_move _ _ _ _ (congrArg (fun b => AV.v (Value.bool b)) hg10_2) rfl),
            st_run 2 56 false rfl rfl rfl (List.Mem.head _) (op_move _ _ _ _ rfl rfl),
            st_run 2 56 false rfl rfl rfl (List.Mem.head _) (op_bin _ _ _ _ _ rfl rfl rfl),
            st_plain rfl (op_pick _ _ false _ rfl rfl),
            st_plain rfl (op_move _ _ _ _ (congrArg (fun b => AV.v (Value.bool b)) hg10_6) rfl),
            st_run 6 60 false rfl rfl rfl (List.Mem.head _) (op_move _ _ _ _ rfl rfl),
            st_run 6 60 false rfl rfl rfl (List.Mem.head _) (op_bin _ _ _ _ _ rfl rfl rfl),
            st_plain rfl (op_pick _ _ false _ rfl rfl),
            st_plain rfl (op_move _ _ _ _ (congrArg (fun b => AV.v (Value.bool b)) hg10_10) rfl),
            st_run 10 64 true rfl rfl rfl (List.Mem.head _) (op_loadA _ _ _ _ _ _ _ Tryd.underlying26 rfl sz26 rfl rfl (Nat.le_of_ble_eq_true rfl) rfl rfl),
            st_run 10 64 true rfl rfl rfl (List.Mem.head _) (op_build _ _ _ _ [1, 1, 3, 1] _ _ Tryd.underlying26 zr26 (fs26 _ Tryd.underlying26) Src.nil rfl rfl rfl),
            st_run 10 64 true rfl rfl rfl (List.Mem.head _) (op_call _ _ 11 _ _ rfl Tryd.call11 rfl ((ok_wherrykeep_Cmd ((T_Cmd.mk v25.1.Kind v25.1.Text (T_Path.mk v25.1.Path.Null v25.1.Path.Local v25.1.Path.Domain) v25.1.Params)) ((T_Cmd.mk 0 (⟨#[]⟩ : ByteArray) ((T_Path.mk false (⟨#[]⟩ : ByteArray) (⟨#[]⟩ : ByteArray))) [])) _ hv31).args (subs_cons (sub_refl _) (subs_cons (sub_agg (subs_cons (sub_refl _) (subs_cons (sub_refl _) (subs_cons (sub_refl _) (subs_cons (sub_refl _) (subs_cons (sub_refl _) (subs_cons (sub_nil_shr 2) (subs_nil)))))))) (subs_nil)))) rfl rfl),
            st_plain rfl (op_pick _ _ true _ rfl rfl),
            st_plain rfl (op_move _ _ _ _ (congrArg (fun b => AV.v (Value.bool b)) hg10_15) rfl),
            st_run 15 69 true rfl rfl rfl (List.Mem.head _) (op_callG _ _ 100 12 _ _ rfl Tryd.call12 rfl rfl (fun _ h => h) (ok_wherrylaw12_wakes mx  _ hv32) rfl rfl),
            st_plain rfl (op_pick _ _ true _ rfl rfl),
            st_plain rfl (op_assign _ _ _ _ rfl rfl),
            trivial⟩ ?_
           exact hl35 _ (Option.some.inj h).symm
          ·refine ht_seqR hn (El := (_ :: _ :: _ :: _ :: _ :: (54, .v (.int .i64 v25.2)) :: (55, .v (.bool (v25.2 == 500))) :: (56, .v (.bool false)) :: (57, .v (.int .i64 v25.2)) :: (58, .v (.bool (v25.2 == 501))) :: (59, .v (.bool (v25.2 == 501))) :: (60, .v (.bool false)) :: (61, .v (.int .i64 v25.2)) :: (62, .v (.bool (v25.2 == 504))) :: (63, .v (.bool (v25.2 == 504))) :: (64, .v (.bool true)) :: (65, .agg [.v (.int .i64 v25.1.Kind), .v (.string v25.1.Text), .v (.bool v25.1.Path.Null), .v (.string v25.1.Path.Local), .v (.string v25.1.Path.Domain), .fl .ro 2 (List.flatten (List.map T_Param.enc v25.1.Params))]) :: (66, .agg [.v (.int .i64 0), .v (.string (⟨#[]⟩ : ByteArray)), .v (.bool false), .v (.string (⟨#[]⟩ : ByteArray)), .v (.string (⟨#[]⟩ : ByteArray)), .v (.slice none 0 0)]) :: (67, .v (.bool v31)) :: (68, .v (.bool v31)) :: (69, .v (.bool false)) :: (70, .v undef) :: (71, .v (.bool false)) :: (4, .v (.bool false)) :: [])) (init := [0, 1, 2, 3, 4]) (fin := [1, 23]) (sps := (⟨[3], [], [5], [(.slot 54)]⟩ :: ⟨[5], [], [6], [(.slot 55)]⟩ :: ⟨[6], [], [7], [(.slot 56)]⟩ :: ⟨[7, 3], [], [8], [(.slot 57)]⟩ :: ⟨[7, 8], [], [9], [(.slot 58)]⟩ :: ⟨[7, 9], [], [10], [(.slot 59)]⟩ :: ⟨[10], [], [11], [(.slot 60)]⟩ :: ⟨[11, 3], [], [12], [(.slot 61)]⟩ :: ⟨[11, 12], [], [13], [(.slot 62)]⟩ :: ⟨[11, 13], [], [14], [(.slot 63)]⟩ :: ⟨[14], [], [15], [(.slot 64)]⟩ :: ⟨[15, 2], [], [16], [(.slot 65)]⟩ :: ⟨[15], [], [17], [(.slot 66)]⟩ :: ⟨[15, 16, 17], [], [18], [(.slot 67)]⟩ :: ⟨[15, 18], [], [19], [(.slot 68)]⟩ :: ⟨[19], [], [20], [(.slot 69)]⟩ :: ⟨[20], [], [21], [(.slot 70)]⟩ :: ⟨[20], [], [22], [(.slot 71)]⟩ :: ⟨[22], [], [23], [(.slot 4)]⟩ :: [])) (es' := [(_, _), (4, .v (.bool false))]) (by kernel_rfl) rfl rfl
            ⟨st_plain rfl (op_move _ _ _ _ rfl rfl),
            st_plain rfl (op_bin _ _ _ _ _ rfl rfl rfl),
            st_plain rfl (op_move _ _ _ _ (congrArg (fun b => AV.v (Value.bool b)) hg10_2) rfl),
            st_run 2 56 false rfl rfl rfl (List.Mem.head _) (op_move _ _ _ _ rfl rfl),
            st_run 2 56 false rfl rfl rfl (List.Mem.head _) (op_bin _ _ _ _ _ rfl rfl rfl),
            st_plain rfl (op_pick _ _ false _ rfl rfl),
            st_plain rfl (op_move _ _ _ _ (congrArg (fun b => AV.v (Value.bool b)) hg10_6) rfl),
            st_run 6 60 false rfl rfl rfl (List.Mem.head _) (op_move _ _ _ _ rfl rfl),
            st_run 6 60 false rfl rfl rfl (List.Mem.head _) (op_bin _ _ _ _ _ rfl rfl rfl),
            st_plain rfl (op_pick _ _ false _ rfl rfl),
            st_plain rfl (op_move _ _ _ _ (congrArg (fun b => AV.v (Value.bool b)) hg10_10) rfl),
            st_run 10 64 true rfl rfl rfl (List.Mem.head _) (op_loadA _ _ _ _ _ _ _ Tryd.underlying26 rfl sz26 rfl rfl (Nat.le_of_ble_eq_true rfl) rfl rfl),
            st_run 10 64 true rfl rfl rfl (List.Mem.head _) (op_build _ _ _ _ [1, 1, 3, 1] _ _ Tryd.underlying26 zr26 (fs26 _ Tryd.underlying26) Src.nil rfl rfl rfl),
            st_run 10 64 true rfl rfl rfl (List.Mem.head _) (op_call _ _ 11 _ _ rfl Tryd.call11 rfl ((ok_wherrykeep_Cmd ((T_Cmd.mk v25.1.Kind v25.1.Text (T_Path.mk v25.1.Path.Null v25.1.Path.Local v25.1.Path.Domain) v25.1.Params)) ((T_Cmd.mk 0 (⟨#[]⟩ : ByteArray) ((T_Path.mk false (⟨#[]⟩ : ByteArray) (⟨#[]⟩ : ByteArray))) [])) _ hv31).args (subs_cons (sub_refl _) (subs_cons (sub_agg (subs_cons (sub_refl _) (subs_cons (sub_refl _) (subs_cons (sub_refl _) (subs_cons (sub_refl _) (subs_cons (sub_refl _) (subs_cons (sub_nil_shr 2) (subs_nil)))))))) (subs_nil)))) rfl rfl),
            st_plain rfl (op_pick _ _ true _ rfl rfl),
            st_plain rfl (op_move _ _ _ _ (congrArg (fun b => AV.v (Value.bool b)) hg10_15) rfl),
            st_skip 15 69 _ true rfl rfl rfl rfl (List.Mem.head _),
            st_plain rfl (op_pick _ _ false _ rfl rfl),
            st_plain rfl (op_assign _ _ _ _ rfl rfl),
            trivial⟩ ?_
           exact hl35 _ (Option.some.inj h).symm
         ·refine ht_seqR hn (El := (_ :: _ :: _ :: _ :: _ :: (54, .v (.int .i64 v25.2)) :: (55, .v (.bool (v25.2 == 500))) :: (56, .v (.bool false)) :: (57, .v (.int .i64 v25.2)) :: (58, .v (.bool (v25.2 == 501))) :: (59, .v (.bool (v25.2 == 501))) :: (60, .v (.bool false)) :: (61, .v (.int .i64 v25.2)) :: (62, .v (.bool (v25.2 == 504))) :: (63, .v (.bool (v25.2 == 504))) :: (64, .v (.bool false)) :: (65, .v undef) :: (66, .v undef) :: (67, .v undef) :: (68, .v (.bool false)) :: (69, .v (.bool false)) :: (70, .v undef) :: (71, .v (.bool false)) :: (4, .v (.bool false)) :: [])) (init := [0, 1, 2, 3, 4]) (fin := [1, 23]) (sps := (⟨[3], [], [5], [(.slot 54)]⟩ :: ⟨[5], [], [6], [(.slot 55)]⟩ :: ⟨[6], [], [7], [(.slot 56)]⟩ :: ⟨[7, 3], [], [8], [(.slot 57)]⟩ :: ⟨[7, 8], [], [9], [(.slot 58)]⟩ :: ⟨[7, 9], [], [10], [(.slot 59)]⟩ :: ⟨[10], [], [11], [(.slot 60)]⟩ :: ⟨[11, 3], [], [12], [(.slot 61)]⟩ :: ⟨[11, 12], [], [13], [(.slot 62)]⟩ :: ⟨[11, 13], [], [14], [(.slot 63)]⟩ :: ⟨[14], [], [15], [(.slot 64)]⟩ :: ⟨[15], [], [16], [(.slot 65)]⟩ :: ⟨[15], [], [17], [(.slot 66)]⟩ :: ⟨[15], [], [18], [(.slot 67)]⟩ :: ⟨[15], [], [19], [(.slot 68)]⟩ :: ⟨[19], [], [20], [(.slot 69)]⟩ :: ⟨[20], [], [21], [(.slot 70)]⟩ :: ⟨[20], [], [22], [(.slot 71)]⟩ :: ⟨[22], [], [23], [(.slot 4)]⟩ :: [])) (es' := [(_, _), (4, .v (.bool false))]) (by kernel_rfl) rfl rfl
           ⟨st_plain rfl (op_move _ _ _ _ rfl rfl),
           st_plain rfl (op_bin _ _ _ _ _ rfl rfl rfl),
           st_plain rfl (op_move _ _ _ _ (congrArg (fun b => AV.v (Value.bool b)) hg10_2) rfl),
           st_run 2 56 false rfl rfl rfl (List.Mem.head _) (op_move _ _ _ _ rfl rfl),
           st_run 2 56 false rfl rfl rfl (List.Mem.head _) (op_bin _ _ _ _ _ rfl rfl rfl),
           st_plain rfl (op_pick _ _ false _ rfl rfl),
           st_plain rfl (op_move _ _ _ _ (congrArg (fun b => AV.v (Value.bool b)) hg10_6) rfl),
           st_run 6 60 false rfl rfl rfl (List.Mem.head _) (op_move _ _ _ _ rfl rfl),
           st_run 6 60 false rfl rfl rfl (List.Mem.head _) (op_bin _ _ _ _ _ rfl rfl rfl),
           st_plain rfl (op_pick _ _ false _ rfl rfl),
           st_plain rfl (op_move _ _ _ _ (congrArg (fun b => AV.v (Value.bool b)) hg10_10) rfl),
           st_skip 10 64 _ true rfl rfl rfl rfl (List.Mem.head _),
           st_skip 10 64 _ true rfl rfl rfl rfl (List.Mem.head _),
           st_skip 10 64 _ true rfl rfl rfl rfl (List.Mem.head _),
           st_plain rfl (op_pick _ _ false _ rfl rfl),
           st_plain rfl (op_move _ _ _ _ rfl rfl),
           st_skip 15 69 _ true rfl rfl rfl rfl (List.Mem.head _),
           st_plain rfl (op_pick _ _ false _ rfl rfl),
           st_plain rfl (op_assign _ _ _ _ rfl rfl),
           trivial⟩ ?_
          exact hl35 _ (Option.some.inj h).symm
     ·have h := cond_f hb26 h
      refine ht_skip ?_
      refine pt_then ?_
      refine ht_seq ?_
      obtain ⟨v37, hv37, h⟩ := bind_some h
      refine ht_seqR hn (El := [_, _, _, _, _, (73, .agg [.v (.int .i64 v25.1.Kind), .v (.string v25.1.Text), .v (.bool v25.1.Path.Null), .v (.string v25.1.Path.Local), .v (.string v25.1.Path.Domain), .fl .ro 2 (List.flatten (List.map T_Param.enc v25.1.Params))]), (74, .tup [.v (.string v37.1), .v (.int .i64 v37.2)]), (72, .tup [.v (.string v37.1), .v (.int .i64 v37.2)]), (75, .v (.string v37.1)), (76, .v (.int .i64 v37.2)), (11, .v (.string v37.1)), (12, .v (.int .i64 v37.2))]) (init := [0, 1, 2, 3, 4]) (fin := [0, 1, 2, 10, 11]) (sps := [⟨[2], [], [5], [(.slot 73)]⟩, ⟨[5, 1], [], [6], [(.slot 74)]⟩, ⟨[], [6], [7], [(.slot 72)]⟩, ⟨[7], [], [8], [(.slot 75)]⟩, ⟨[7], [], [9], [(.slot 76)]⟩, ⟨[8], [], [10], [(.slot 11)]⟩, ⟨[9], [], [11], [(.slot 12)]⟩]) (es' := [(_, _), (_, _), (_, _), (11, .v (.string v37.1)), (12, .v (.int .i64 v37.2))]) (by kernel_rfl) rfl rfl
       ⟨st_plain rfl (op_loadA _ _ _ _ _ _ _ Tryd.underlying26 rfl sz26 rfl rfl (Nat.le_of_ble_eq_true rfl) rfl rfl),
       st_plain rfl (op_callG _ _ 100 9 _ _ rfl Tryd.call9 rfl rfl (fun _ h => h) (ok_verb_Text mx ((T_Cmd.mk v25.1.Kind v25.1.Text (T_Path.mk v25.1.Path.Null v25.1.Path.Local v25.1.Path.Domain) v25.1.Params)) _ hv37) rfl rfl),
       st_plain rfl (op_move_take _ _ _ _ rfl),
       st_plain rfl (op_extract _ _ _ _ _ rfl rfl (Nat.le_of_ble_eq_true rfl) rfl rfl),
       st_plain rfl (op_extract _ _ _ _ _ rfl rfl (Nat.le_of_ble_eq_true rfl) rfl rfl),
       st_plain rfl (op_assign _ _ _ _ rfl rfl),
       st_plain rfl (op_assign _ _ _ _ rfl rfl),
       trivial⟩ ?_
      refine pt_then ?_
      refine ht_seq ?_
      refine ht_seq ?_
      refine ht_seqR hn (El := [_, _, _, _, _, (77, .v (.int .i64 v37.2)), (78, .v (.bool (v37.2 != 0)))]) (init := [0, 1, 2, 3, 4]) (fin := [0, 1, 2, 3, 6]) (sps := [⟨[4], [], [5], [(.slot 77)]⟩, ⟨[5], [], [6], [(.slot 78)]⟩]) (es' := [(_, _), (_, _), (_, _), (_, _), (78, .v (.bool (v37.2 != 0)))]) (by kernel_rfl) rfl rfl
       ⟨st_plain rfl (op_move _ _ _ _ rfl rfl),
       st_plain rfl (op_bin _ _ _ _ _ rfl rfl rfl),
       trivial⟩ ?_
      refine pt_then ?_
      refine ht_cond _ rfl (fun hb38 => ?_) (fun hb38 => ?_)
      ·have h := cond_t hb38 h
       refine ht_seq ?_
       refine ht_joinS h (fun (s40 : Bool) => [(100, .glob (GL mx)), (4, .v (.bool s40))]) ?_ ?_
       ·rintro s40 h
        refine pt_then ?_
        refine ht_ret ?_
        refine pt_pick [1] (by kernel_rfl) (es' := [(_, _)]) rfl ?_
        refine pt_r_then ?_
        obtain rfl := Option.some.inj h
        exact pt_ret hio rfl (.tmp _ _ .nil) rfl rfl
       ·intro u41 h hl42 hr43
        refine cond_some h (fun hg13_3 h => ?_) (fun hg13_3 h => ?_)
        ·obtain ⟨v39, hv39, h⟩ := bind_some h
         refine ht_seqR hn (El := [_, _, _, _, _, (79, .v (.string s)), (80, .v (.int .i64 (s.size : Int))), (81, .v (.bool ((decide (500 < (s.size : Int)))))), (82, .v (.bool true)), (83, .v (.bool v39)), (84, .v (.bool v39)), (4, .v (.bool v39))]) (init := [0, 1, 2, 3, 4]) (fin := [1, 11]) (sps := [⟨[0], [], [5], [(.slot 79)]⟩, ⟨[5], [], [6], [(.slot 80)]⟩, ⟨[6], [], [7], [(.slot 81)]⟩, ⟨[7], [], [8], [(.slot 82)]⟩, ⟨[8, 1], [], [9], [(.slot 83)]⟩, ⟨[8, 9], [], [10], [(.slot 84)]⟩, ⟨[10], [], [11], [(.slot 4)]⟩]) (es' := [(_, _), (4, .v (.bool v39))]) (by kernel_rfl) rfl rfl
          ⟨st_plain rfl (op_move _ _ _ _ rfl rfl),
          st_plain rfl (op_len_str _ _ _ Tryd.underlying9 rfl),
          st_plain rfl (op_bin _ _ _ _ _ rfl rfl rfl),
          st_plain rfl (op_move _ _ _ _ (congrArg (fun b => AV.v (Value.bool b)) hg13_3) rfl),
          st_run 3 82 true rfl rfl rfl (List.Mem.head _) (op_callG _ _ 100 12 _ _ rfl Tryd.call12 rfl rfl (fun _ h => h) (ok_wherrylaw12_wakes mx  _ hv39) rfl rfl),
          st_plain rfl (op_pick _ _ true _ rfl rfl),
          st_plain rfl (op_assign _ _ _ _ rfl rfl),
          trivial⟩ ?_
         exact hl42 _ (Option.some.inj h).symm
        ·refine ht_seqR hn (El := [_, _, _, _, _, (79, .v (.string s)), (80, .v (.int .i64 (s.size : Int))), (81, .v (.bool ((decide (500 < (s.size : Int)))))), (82, .v (.bool false)), (83, .v undef), (84, .v (.bool false)), (4, .v (.bool false))]) (init := [0, 1, 2, 3, 4]) (fin := [1, 11]) (sps := [⟨[0], [], [5], [(.slot 79)]⟩, ⟨[5], [], [6], [(.slot 80)]⟩, ⟨[6], [], [7], [(.slot 81)]⟩, ⟨[7], [], [8], [(.slot 82)]⟩, ⟨[8], [], [9], [(.slot 83)]⟩, ⟨[8], [], [10], [(.slot 84)]⟩, ⟨[10], [], [11], [(.slot 4)]⟩]) (es' := [(_, _), (4, .v (.bool false))]) (by kernel_rfl) rfl rfl
          ⟨st_plain rfl (op_move _ _ _ _ rfl rfl),
          st_plain rfl (op_len_str _ _ _ Tryd.underlying9 rfl),
          st_plain rfl (op_bin _ _ _ _ _ rfl rfl rfl),
          st_plain rfl (op_move _ _ _ _ (congrArg (fun b => AV.v (Value.bool b)) hg13_3) rfl),
          st_skip 3 82 _ true rfl rfl rfl rfl (List.Mem.head _),
          st_plain rfl (op_pick _ _ false _ rfl rfl),
          st_plain rfl (op_assign _ _ _ _ rfl rfl),
          trivial⟩ ?_
         exact hl42 _ (Option.some.inj h).symm
      ·have h := cond_f hb38 h
       refine ht_skip ?_
       refine pt_then ?_
       refine ht_seq ?_
       obtain ⟨v44, hv44, h⟩ := bind_some h
       refine ht_seqR hn (El := [_, _, _, _, _, (86, .v (.string v37.1)), (87, .tup [.agg [.v (.int .i64 v44.1.Kind), .v (.string v44.1.Text), .v (.bool v44.1.Path.Null), .v (.string v44.1.Path.Local), .v (.string v44.1.Path.Domain), .fl .ro 2 (List.flatten (List.map T_Param.enc v44.1.Params))], .v (.int .i64 v44.2)]), (85, .tup [.agg [.v (.int .i64 v44.1.Kind), .v (.string v44.1.Text), .v (.bool v44.1.Path.Null), .v (.string v44.1.Path.Local), .v (.string v44.1.Path.Domain), .fl .ro 2 (List.flatten (List.map T_Param.enc v44.1.Params))], .v (.int .i64 v44.2)]), (88, .agg [.v (.int .i64 v44.1.Kind), .v (.string v44.1.Text), .v (.bool v44.1.Path.Null), .v (.string v44.1.Path.Local), .v (.string v44.1.Path.Domain), .fl .ro 2 (List.flatten (List.map T_Param.enc v44.1.Params))]), (89, .v (.int .i64 v44.2)), (13, .box 26 [.v (.int .i64 0), .v (.string (⟨#[]⟩ : ByteArray)), .v (.bool false), .v (.string (⟨#[]⟩ : ByteArray)), .v (.string (⟨#[]⟩ : ByteArray)), .v (.slice none 0 0)]), (13, .box 26 [.v (.int .i64 v44.1.Kind), .v (.string v44.1.Text), .v (.bool v44.1.Path.Null), .v (.string v44.1.Path.Local), .v (.string v44.1.Path.Domain), .fl .ro 2 (List.flatten (List.map T_Param.enc v44.1.Params))]), (14, .v (.int .i64 v44.2))]) (init := [0, 1, 2, 3, 4]) (fin := [1, 2, 11, 12]) (sps := [⟨[3], [], [5], [(.slot 86)]⟩, ⟨[5, 1], [], [6], [(.slot 87)]⟩, ⟨[], [6], [7], [(.slot 85)]⟩, ⟨[7], [], [8], [(.slot 88)]⟩, ⟨[7], [], [9], [(.slot 89)]⟩, ⟨[], [], [10], [(.slot 13)]⟩, ⟨[8], [10], [11], [.cell 13 0, .cell 13 1, .cell 13 2, .cell 13 3, .cell 13 4, .cell 13 5]⟩, ⟨[9], [], [12], [(.slot 14)]⟩]) (es' := [(_, _), (_, _), (13, .box 26 [.v (.int .i64 v44.1.Kind), .v (.string v44.1.Text), .v (.bool v44.1.Path.Null), .v (.string v44.1.Path.Local), .v (.string v44.1.Path.Domain), .fl .ro 2 (List.flatten (List.map T_Param.enc v44.1.Params))]), (14, .v (.int .i64 v44.2))]) (by kernel_rfl) rfl rfl
        ⟨st_plain rfl (op_move _ _ _ _ rfl rfl),
        st_plain rfl (op_callG _ _ 100 10 _ _ rfl Tryd.call10 rfl rfl (fun _ h => h) (ok_verb_Parse mx v37.1 _ hv44) rfl rfl),
        st_plain rfl (op_move_take _ _ _ _ rfl),
        st_plain rfl (op_extract_no _ _ _ _ _ _ rfl rfl (Nat.le_of_ble_eq_true rfl) rfl rfl),
        st_plain rfl (op_extract _ _ _ _ _ rfl rfl (Nat.le_of_ble_eq_true rfl) rfl rfl),
        st_plain rfl (op_alloc _ _ zr26),
        st_plain rfl (op_store _ _ _ _ _ _ _ _ sz26 rfl rfl rfl rfl (Nat.le_of_ble_eq_true rfl) rfl rfl),
        st_plain rfl (op_assign _ _ _ _ rfl rfl),
        trivial⟩ ?_
       refine pt_then ?_
       refine ht_seq ?_
       refine ht_joinS h (fun (s47 : Bool) => [(100, .glob (GL mx)), (4, .v (.bool s47))]) ?_ ?_
       ·rintro s47 h
        refine pt_then ?_
        refine ht_ret ?_
        refine pt_pick [1] (by kernel_rfl) (es' := [(_, _)]) rfl ?_
        obtain rfl := Option.some.inj h
        exact pt_ret hio rfl (.tmp _ _ .nil) rfl rfl
       ·intro u48 h hl49 hr50
        refine cond_some h (fun hg15_2 h => ?_) (fun hg15_2 h => ?_)
        ·obtain ⟨v45, hv45, h⟩ := bind_some h
         refine cond_some h (fun hg15_7 h => ?_) (fun hg15_7 h => ?_)
         ·obtain ⟨v46, hv46, h⟩ := bind_some h
          refine ht_seqR hn (El := (_ :: _ :: _ :: _ :: (90, .v (.int .i64 v44.2)) :: (91, .v (.bool (v44.2 == 0))) :: (92, .v (.bool true)) :: (93, .agg [.v (.int .i64 v25.1.Kind), .v (.string v25.1.Text), .v (.bool v25.1.Path.Null), .v (.string v25.1.Path.Local), .v (.string v25.1.Path.Domain), .fl .ro 2 (List.flatten (List.map T_Param.enc v25.1.Params))]) :: (94, .agg [.v (.int .i64 v44.1.Kind), .v (.string v44.1.Text), .v (.bool v44.1.Path.Null), .v (.string v44.1.Path.Local), .v (.string v44.1.Path.Domain), .fl .ro 2 (List.flatten (List.map T_Param.enc v44.1.Params))]) :: (95, .v (.bool v45)) :: (96, .v (.bool v45)) :: (97, .v (.bool true)) :: (98, .v (.bool v46)) :: (99, .v (.bool v46)) :: (4, .v (.bool v46)) :: [])) (init := [0, 1, 2, 3]) (fin := [0, 14]) (sps := [⟨[3], [], [4], [(.slot 90)]⟩, ⟨[4], [], [5], [(.slot 91)]⟩, ⟨[5], [], [6], [(.slot 92)]⟩, ⟨[6, 1], [], [7], [(.slot 93)]⟩, ⟨[6, 2], [], [8], [(.slot 94)]⟩, ⟨[6, 7, 8], [], [9], [(.slot 95)]⟩, ⟨[6, 9], [], [10], [(.slot 96)]⟩, ⟨[10], [], [11], [(.slot 97)]⟩, ⟨[11, 0], [], [12], [(.slot 98)]⟩, ⟨[11, 12], [], [13], [(.slot 99)]⟩, ⟨[13], [], [14], [(.slot 4)]⟩]) (es' := [(_, _), (4, .v (.bool v46))]) (by kernel_rfl) rfl rfl
           ⟨st_plain rfl (op_move _ _ _ _ rfl rfl),
           st_plain rfl (op_bin _ _ _ _ _ rfl rfl rfl),
           st_plain rfl (op_move _ _ _ _ (congrArg (fun b => AV.v (Value.bool b)) hg15_2) rfl),
           st_run 2 92 true rfl rfl rfl (List.Mem.head _) (op_loadA _ _ _ _ _ _ _ Tryd.underlying26 rfl sz26 rfl rfl (Nat.le_of_ble_eq_true rfl) rfl rfl),
           st_run 2 92 true rfl rfl rfl (List.Mem.head _) (op_loadA _ _ _ _ _ _ _ Tryd.underlying26 rfl sz26 rfl rfl (Nat.le_of_ble_eq_true rfl) rfl rfl),
           st_run 2 92 true rfl rfl rfl (List.Mem.head _) (op_call _ _ 11 _ _ rfl Tryd.call11 rfl (ok_wherrykeep_Cmd ((T_Cmd.mk v25.1.Kind v25.1.Text (T_Path.mk v25.1.Path.Null v25.1.Path.Local v25.1.Path.Domain) v25.1.Params)) ((T_Cmd.mk v44.1.Kind v44.1.Text (T_Path.mk v44.1.Path.Null v44.1.Path.Local v44.1.Path.Domain) v44.1.Params)) _ hv45) rfl rfl),
           st_plain rfl (op_pick _ _ true _ rfl rfl),
           st_plain rfl (op_move _ _ _ _ (congrArg (fun b => AV.v (Value.bool b)) hg15_7) rfl),
           st_run 7 97 true rfl rfl rfl (List.Mem.head _) (op_callG _ _ 100 12 _ _ rfl Tryd.call12 rfl rfl (fun _ h => h) (ok_wherrylaw12_wakes mx  _ hv46) rfl rfl),
           st_plain rfl (op_pick _ _ true _ rfl rfl),
           st_plain rfl (op_assign _ _ _ _ rfl rfl),
           trivial⟩ ?_
          exact hl49 _ (Option.some.inj h).symm
         ·refine ht_seqR hn (El := (_ :: _ :: _ :: _ :: (90, .v (.int .i64 v44.2)) :: (91, .v (.bool (v44.2 == 0))) :: (92, .v (.bool true)) :: (93, .agg [.v (.int .i64 v25.1.Kind), .v (.string v25.1.Text), .v (.bool v25.1.Path.Null), .v (.string v25.1.Path.Local), .v (.string v25.1.Path.Domain), .fl .ro 2 (List.flatten (List.map T_Param.enc v25.1.Params))]) :: (94, .agg [.v (.int .i64 v44.1.Kind), .v (.string v44.1.Text), .v (.bool v44.1.Path.Null), .v (.string v44.1.Path.Local), .v (.string v44.1.Path.Domain), .fl .ro 2 (List.flatten (List.map T_Param.enc v44.1.Params))]) :: (95, .v (.bool v45)) :: (96, .v (.bool v45)) :: (97, .v (.bool false)) :: (98, .v undef) :: (99, .v (.bool false)) :: (4, .v (.bool false)) :: [])) (init := [0, 1, 2, 3]) (fin := [0, 14]) (sps := [⟨[3], [], [4], [(.slot 90)]⟩, ⟨[4], [], [5], [(.slot 91)]⟩, ⟨[5], [], [6], [(.slot 92)]⟩, ⟨[6, 1], [], [7], [(.slot 93)]⟩, ⟨[6, 2], [], [8], [(.slot 94)]⟩, ⟨[6, 7, 8], [], [9], [(.slot 95)]⟩, ⟨[6, 9], [], [10], [(.slot 96)]⟩, ⟨[10], [], [11], [(.slot 97)]⟩, ⟨[11], [], [12], [(.slot 98)]⟩, ⟨[11], [], [13], [(.slot 99)]⟩, ⟨[13], [], [14], [(.slot 4)]⟩]) (es' := [(_, _), (4, .v (.bool false))]) (by kernel_rfl) rfl rfl
           ⟨st_plain rfl (op_move _ _ _ _ rfl rfl),
           st_plain rfl (op_bin _ _ _ _ _ rfl rfl rfl),
           st_plain rfl (op_move _ _ _ _ (congrArg (fun b => AV.v (Value.bool b)) hg15_2) rfl),
           st_run 2 92 true rfl rfl rfl (List.Mem.head _) (op_loadA _ _ _ _ _ _ _ Tryd.underlying26 rfl sz26 rfl rfl (Nat.le_of_ble_eq_true rfl) rfl rfl),
           st_run 2 92 true rfl rfl rfl (List.Mem.head _) (op_loadA _ _ _ _ _ _ _ Tryd.underlying26 rfl sz26 rfl rfl (Nat.le_of_ble_eq_true rfl) rfl rfl),
           st_run 2 92 true rfl rfl rfl (List.Mem.head _) (op_call _ _ 11 _ _ rfl Tryd.call11 rfl (ok_wherrykeep_Cmd ((T_Cmd.mk v25.1.Kind v25.1.Text (T_Path.mk v25.1.Path.Null v25.1.Path.Local v25.1.Path.Domain) v25.1.Params)) ((T_Cmd.mk v44.1.Kind v44.1.Text (T_Path.mk v44.1.Path.Null v44.1.Path.Local v44.1.Path.Domain) v44.1.Params)) _ hv45) rfl rfl),
           st_plain rfl (op_pick _ _ true _ rfl rfl),
           st_plain rfl (op_move _ _ _ _ (congrArg (fun b => AV.v (Value.bool b)) hg15_7) rfl),
           st_skip 7 97 _ true rfl rfl rfl rfl (List.Mem.head _),
           st_plain rfl (op_pick _ _ false _ rfl rfl),
           st_plain rfl (op_assign _ _ _ _ rfl rfl),
           trivial⟩ ?_
          exact hl49 _ (Option.some.inj h).symm
        ·refine ht_seqR hn (El := (_ :: _ :: _ :: _ :: (90, .v (.int .i64 v44.2)) :: (91, .v (.bool (v44.2 == 0))) :: (92, .v (.bool false)) :: (93, .v undef) :: (94, .v undef) :: (95, .v undef) :: (96, .v (.bool false)) :: (97, .v (.bool false)) :: (98, .v undef) :: (99, .v (.bool false)) :: (4, .v (.bool false)) :: [])) (init := [0, 1, 2, 3]) (fin := [0, 14]) (sps := [⟨[3], [], [4], [(.slot 90)]⟩, ⟨[4], [], [5], [(.slot 91)]⟩, ⟨[5], [], [6], [(.slot 92)]⟩, ⟨[6], [], [7], [(.slot 93)]⟩, ⟨[6], [], [8], [(.slot 94)]⟩, ⟨[6], [], [9], [(.slot 95)]⟩, ⟨[6], [], [10], [(.slot 96)]⟩, ⟨[10], [], [11], [(.slot 97)]⟩, ⟨[11], [], [12], [(.slot 98)]⟩, ⟨[11], [], [13], [(.slot 99)]⟩, ⟨[13], [], [14], [(.slot 4)]⟩]) (es' := [(_, _), (4, .v (.bool false))]) (by kernel_rfl) rfl rfl
          ⟨st_plain rfl (op_move _ _ _ _ rfl rfl),
          st_plain rfl (op_bin _ _ _ _ _ rfl rfl rfl),
          st_plain rfl (op_move _ _ _ _ (congrArg (fun b => AV.v (Value.bool b)) hg15_2) rfl),
          st_skip 2 92 _ true rfl rfl rfl rfl (List.Mem.head _),
          st_skip 2 92 _ true rfl rfl rfl rfl (List.Mem.head _),
          st_skip 2 92 _ true rfl rfl rfl rfl (List.Mem.head _),
          st_plain rfl (op_pick _ _ false _ rfl rfl),
          st_plain rfl (op_move _ _ _ _ rfl rfl),
          st_skip 7 97 _ true rfl rfl rfl rfl (List.Mem.head _),
          st_plain rfl (op_pick _ _ false _ rfl rfl),
          st_plain rfl (op_assign _ _ _ _ rfl rfl),
          trivial⟩ ?_
         exact hl49 _ (Option.some.inj h).symm
    ·intro u16 h hl17 hr18
     refine ht_seq ?_
     obtain ⟨v7, hv7, h⟩ := bind_some h
     refine ht_seqR hn (El := [_, _, _, _, (23, .agg [.v (.int .i64 c.Kind), .v (.string c.Text), .v (.bool c.Path.Null), .v (.string c.Path.Local), .v (.string c.Path.Domain), .fl .shr 2 (List.flatten (List.map T_Param.enc c.Params))]), (24, .tup [.v (.string v7.1), .v (.int .i64 v7.2)]), (22, .tup [.v (.string v7.1), .v (.int .i64 v7.2)]), (25, .v (.string v7.1)), (26, .v (.int .i64 v7.2)), (5, .v (.string v7.1)), (6, .v (.int .i64 v7.2))]) (init := [0, 1, 2, 3]) (fin := [0, 1, 2, 9, 10]) (sps := [⟨[2], [], [4], [(.slot 23)]⟩, ⟨[4, 1], [], [5], [(.slot 24)]⟩, ⟨[], [5], [6], [(.slot 22)]⟩, ⟨[6], [], [7], [(.slot 25)]⟩, ⟨[6], [], [8], [(.slot 26)]⟩, ⟨[7], [], [9], [(.slot 5)]⟩, ⟨[8], [], [10], [(.slot 6)]⟩]) (es' := [(_, _), (_, _), (_, _), (5, .v (.string v7.1)), (6, .v (.int .i64 v7.2))]) (by kernel_rfl) rfl rfl
      ⟨st_plain rfl (op_loadA _ _ _ _ _ _ _ Tryd.underlying26 rfl sz26 rfl rfl (Nat.le_of_ble_eq_true rfl) rfl rfl),
      st_plain rfl (op_callG _ _ 100 9 _ _ rfl Tryd.call9 rfl rfl (fun _ h => h) (ok_verb_Text mx ((T_Cmd.mk c.Kind c.Text (T_Path.mk c.Path.Null c.Path.Local c.Path.Domain) c.Params)) _ hv7) rfl rfl),
      st_plain rfl (op_move_take _ _ _ _ rfl),
      st_plain rfl (op_extract _ _ _ _ _ rfl rfl (Nat.le_of_ble_eq_true rfl) rfl rfl),
      st_plain rfl (op_extract _ _ _ _ _ rfl rfl (Nat.le_of_ble_eq_true rfl) rfl rfl),
      st_plain rfl (op_assign _ _ _ _ rfl rfl),
      st_plain rfl (op_assign _ _ _ _ rfl rfl),
      trivial⟩ ?_
     refine pt_then ?_
     refine ht_seq ?_
     refine ht_seqR hn (El := [_, _, _, _, _, (27, .v (.int .i64 v7.2)), (28, .v (.bool (v7.2 == 0)))]) (init := [0, 1, 2, 3, 4]) (fin := [0, 1, 2, 3, 6]) (sps := [⟨[4], [], [5], [(.slot 27)]⟩, ⟨[5], [], [6], [(.slot 28)]⟩]) (es' := [(_, _), (_, _), (_, _), (_, _), (28, .v (.bool (v7.2 == 0)))]) (by kernel_rfl) rfl rfl
      ⟨st_plain rfl (op_move _ _ _ _ rfl rfl),
      st_plain rfl (op_bin _ _ _ _ _ rfl rfl rfl),
      trivial⟩ ?_
     refine pt_then ?_
     refine ht_cond _ rfl (fun hb19 => ?_) (fun hb19 => ?_)
     ·have h := cond_t hb19 h
      refine ht_seq ?_
      obtain ⟨v9, hv9, h⟩ := bind_some h
      refine ht_seqR hn (El := [_, _, _, _, _, (30, .v (.string v7.1)), (31, .tup [.agg [.v (.int .i64 v9.1.Kind), .v (.string v9.1.Text), .v (.bool v9.1.Path.Null), .v (.string v9.1.Path.Local), .v (.string v9.1.Path.Domain), .fl .ro 2 (List.flatten (List.map T_Param.enc v9.1.Params))], .v (.int .i64 v9.2)]), (29, .tup [.agg [.v (.int .i64 v9.1.Kind), .v (.string v9.1.Text), .v (.bool v9.1.Path.Null), .v (.string v9.1.Path.Local), .v (.string v9.1.Path.Domain), .fl .ro 2 (List.flatten (List.map T_Param.enc v9.1.Params))], .v (.int .i64 v9.2)]), (32, .agg [.v (.int .i64 v9.1.Kind), .v (.string v9.1.Text), .v (.bool v9.1.Path.Null), .v (.string v9.1.Path.Local), .v (.string v9.1.Path.Domain), .fl .ro 2 (List.flatten (List.map T_Param.enc v9.1.Params))]), (33, .v (.int .i64 v9.2)), (7, .box 26 [.v (.int .i64 0), .v (.string (⟨#[]⟩ : ByteArray)), .v (.bool false), .v (.string (⟨#[]⟩ : ByteArray)), .v (.string (⟨#[]⟩ : ByteArray)), .v (.slice none 0 0)]), (7, .box 26 [.v (.int .i64 v9.1.Kind), .v (.string v9.1.Text), .v (.bool v9.1.Path.Null), .v (.string v9.1.Path.Local), .v (.string v9.1.Path.Domain), .fl .ro 2 (List.flatten (List.map T_Param.enc v9.1.Params))]), (8, .v (.int .i64 v9.2))]) (init := [0, 1, 2, 3, 4]) (fin := [0, 1, 2, 3, 11, 12]) (sps := [⟨[3], [], [5], [(.slot 30)]⟩, ⟨[5, 1], [], [6], [(.slot 31)]⟩, ⟨[], [6], [7], [(.slot 29)]⟩, ⟨[7], [], [8], [(.slot 32)]⟩, ⟨[7], [], [9], [(.slot 33)]⟩, ⟨[], [], [10], [(.slot 7)]⟩, ⟨[8], [10], [11], [.cell 7 0, .cell 7 1, .cell 7 2, .cell 7 3, .cell 7 4, .cell 7 5]⟩, ⟨[9], [], [12], [(.slot 8)]⟩]) (es' := [(_, _), (_, _), (_, _), (_, _), (7, .box 26 [.v (.int .i64 v9.1.Kind), .v (.string v9.1.Text), .v (.bool v9.1.Path.Null), .v (.string v9.1.Path.Local), .v (.string v9.1.Path.Domain), .fl .ro 2 (List.flatten (List.map T_Param.enc v9.1.Params))]), (8, .v (.int .i64 v9.2))]) (by kernel_rfl) rfl rfl
       ⟨st_plain rfl (op_move _ _ _ _ rfl rfl),
       st_plain rfl (op_callG _ _ 100 10 _ _ rfl Tryd.call10 rfl rfl (fun _ h => h) (ok_verb_Parse mx v7.1 _ hv9) rfl rfl),
       st_plain rfl (op_move_take _ _ _ _ rfl),
       st_plain rfl (op_extract_no _ _ _ _ _ _ rfl rfl (Nat.le_of_ble_eq_true rfl) rfl rfl),
       st_plain rfl (op_extract _ _ _ _ _ rfl rfl (Nat.le_of_ble_eq_true rfl) rfl rfl),
       st_plain rfl (op_alloc _ _ zr26),
       st_plain rfl (op_store _ _ _ _ _ _ _ _ sz26 rfl rfl rfl rfl (Nat.le_of_ble_eq_true rfl) rfl rfl),
       st_plain rfl (op_assign _ _ _ _ rfl rfl),
       trivial⟩ ?_
      refine pt_then ?_
      refine ht_seq ?_
      refine ht_joinS h (fun (s20 : Bool) => [(0, .v (.string s)), (100, .glob (GL mx)), (46, .v (.bool s20))]) ?_ ?_
      ·rintro s20 h
       refine pt_then ?_
       refine ht_cond _ rfl (fun hb24 => ?_) (fun hb24 => ?_)
       ·have h := cond_t hb24 h
        refine ht_seq ?_
        refine ht_seqR hn (El := [_, _, _, (4, .v (.bool false))]) (init := [0, 1, 2]) (fin := [1, 3]) (sps := [⟨[], [], [3], [(.slot 4)]⟩]) (es' := [(_, _), (4, .v (.bool false))]) (by kernel_rfl) rfl rfl
         ⟨st_plain rfl (op_assign _ _ _ _ rfl rfl),
         trivial⟩ ?_
        refine pt_then ?_
        refine ht_ret ?_
        refine pt_pick [1] (by kernel_rfl) (es' := [(_, _)]) rfl ?_
        refine pt_r_then ?_
        have h := hr18 _ (Option.some.inj h).symm
        obtain rfl := Option.some.inj h
        exact pt_ret hio rfl (.tmp _ _ .nil) rfl rfl
       ·have h := cond_f hb24 h
        refine ht_skip ?_
        refine pt_pick [0, 1] (by kernel_rfl) (es' := [(_, _), (_, _)]) rfl ?_
        exact hl17 _ (Option.some.inj h).symm
      ·intro u21 h hl22 hr23
       refine cond_some h (fun hg6_2 h => ?_) (fun hg6_2 h => ?_)
       ·refine ht_seqR hn (El := (_ :: _ :: _ :: _ :: _ :: _ :: (34, .v (.int .i64 v9.2)) :: (35, .v (.bool (v9.2 != 0))) :: (36, .v (.bool true)) :: (37, .v undef) :: (38, .v undef) :: (39, .v undef) :: (40, .v undef) :: (41, .v (.bool true)) :: (42, .v (.bool true)) :: (43, .v undef) :: (44, .v undef) :: (45, .v undef) :: (46, .v (.bool true)) :: [])) (init := [0, 1, 2, 3, 4, 5]) (fin := [0, 1, 18]) (sps := [⟨[5], [], [6], [(.slot 34)]⟩, ⟨[6], [], [7], [(.slot 35)]⟩, ⟨[7], [], [8], [(.slot 36)]⟩, ⟨[8], [], [9], [(.slot 37)]⟩, ⟨[8], [], [10], [(.slot 38)]⟩, ⟨[8], [], [11], [(.slot 39)]⟩, ⟨[8], [], [12], [(.slot 40)]⟩, ⟨[8], [], [13], [(.slot 41)]⟩, ⟨[13], [], [14], [(.slot 42)]⟩, ⟨[14], [], [15], [(.slot 43)]⟩, ⟨[14], [], [16], [(.slot 44)]⟩, ⟨[14], [], [17], [(.slot 45)]⟩, ⟨[14], [], [18], [(.slot 46)]⟩]) (es' := [(_, _), (_, _), (46, .v (.bool true))]) (by kernel_rfl) rfl rfl
         ⟨st_plain rfl (op_move _ _ _ _ rfl rfl),
         st_plain rfl (op_bin _ _ _ _ _ rfl rfl rfl),
         st_plain rfl (op_move _ _ _ _ (congrArg (fun b => AV.v (Value.bool b)) hg6_2) rfl),
         st_skip 2 36 _ false rfl rfl rfl rfl (List.Mem.head _),
         st_skip 2 36 _ false rfl rfl rfl rfl (List.Mem.head _),
         st_skip 2 36 _ false rfl rfl rfl rfl (List.Mem.head _),
         st_skip 2 36 _ false rfl rfl rfl rfl (List.Mem.head _),
         st_plain rfl (op_pick _ _ true _ rfl rfl),
         st_plain rfl (op_move _ _ _ _ rfl rfl),
         st_skip 8 42 _ false rfl rfl rfl rfl (List.Mem.head _),
         st_skip 8 42 _ false rfl rfl rfl rfl (List.Mem.head _),
         st_skip 8 42 _ false rfl rfl rfl rfl (List.Mem.head _),
         st_plain rfl (op_pick _ _ true _ rfl rfl),
         trivial⟩ ?_
        exact hl22 _ (Option.some.inj h).symm
       ·obtain ⟨v10, hv10, h⟩ := bind_some h
        refine cond_some h (fun hg6_8 h => ?_) (fun hg6_8 h => ?_)
        ·refine ht_seqR hn (El := (_ :: _ :: _ :: _ :: _ :: _ :: (34, .v (.int .i64 v9.2)) :: (35, .v (.bool (v9.2 != 0))) :: (36, .v (.bool false)) :: (37, .agg [.v (.int .i64 v9.1.Kind), .v (.string v9.1.Text), .v (.bool v9.1.Path.Null), .v (.string v9.1.Path.Local), .v (.string v9.1.Path.Domain), .fl .ro 2 (List.flatten (List.map T_Param.enc v9.1.Params))]) :: (38, .agg [.v (.int .i64 c.Kind), .v (.string c.Text), .v (.bool c.Path.Null), .v (.string c.Path.Local), .v (.string c.Path.Domain), .fl .shr 2 (List.flatten (List.map T_Param.enc c.Params))]) :: (39, .v (.bool v10)) :: (40, .v (.bool (!v10))) :: (41, .v (.bool (!v10))) :: (42, .v (.bool true)) :: (43, .v undef) :: (44, .v undef) :: (45, .v undef) :: (46, .v (.bool true)) :: [])) (init := [0, 1, 2, 3, 4, 5]) (fin := [0, 1, 18]) (sps := [⟨[5], [], [6], [(.slot 34)]⟩, ⟨[6], [], [7], [(.slot 35)]⟩, ⟨[7], [], [8], [(.slot 36)]⟩, ⟨[8, 4], [], [9], [(.slot 37)]⟩, ⟨[8, 2], [], [10], [(.slot 38)]⟩, ⟨[8, 9, 10], [], [11], [(.slot 39)]⟩, ⟨[8, 11], [], [12], [(.slot 40)]⟩, ⟨[8, 12], [], [13], [(.slot 41)]⟩, ⟨[13], [], [14], [(.slot 42)]⟩, ⟨[14], [], [15], [(.slot 43)]⟩, ⟨[14], [], [16], [(.slot 44)]⟩, ⟨[14], [], [17], [(.slot 45)]⟩, ⟨[14], [], [18], [(.slot 46)]⟩]) (es' := [(_, _), (_, _), (46, .v (.bool true))]) (by kernel_rfl) rfl rfl
          ⟨st_plain rfl (op_move _ _ _ _ rfl rfl),
          st_plain rfl (op_bin _ _ _ _ _ rfl rfl rfl),
          st_plain rfl (op_move _ _ _ _ (congrArg (fun b => AV.v (Value.bool b)) hg6_2) rfl),
          st_run 2 36 false rfl rfl rfl (List.Mem.head _) (op_loadA _ _ _ _ _ _ _ Tryd.underlying26 rfl sz26 rfl rfl (Nat.le_of_ble_eq_true rfl) rfl rfl),
          st_run 2 36 false rfl rfl rfl (List.Mem.head _) (op_loadA _ _ _ _ _ _ _ Tryd.underlying26 rfl sz26 rfl rfl (Nat.le_of_ble_eq_true rfl) rfl rfl),
          st_run 2 36 false rfl rfl rfl (List.Mem.head _) (op_call _ _ 11 _ _ rfl Tryd.call11 rfl (ok_wherrykeep_Cmd ((T_Cmd.mk v9.1.Kind v9.1.Text (T_Path.mk v9.1.Path.Null v9.1.Path.Local v9.1.Path.Domain) v9.1.Params)) ((T_Cmd.mk c.Kind c.Text (T_Path.mk c.Path.Null c.Path.Local c.Path.Domain) c.Params)) _ hv10) rfl rfl),
          st_run 2 36 false rfl rfl rfl (List.Mem.head _) (op_un _ _ _ _ rfl rfl),
          st_plain rfl (op_pick _ _ false _ rfl rfl),
          st_plain rfl (op_move _ _ _ _ (congrArg (fun b => AV.v (Value.bool b)) hg6_8) rfl),
          st_skip 8 42 _ false rfl rfl rfl rfl (List.Mem.head _),
          st_skip 8 42 _ false rfl rfl rfl rfl (List.Mem.head _),
          st_skip 8 42 _ false rfl rfl rfl rfl (List.Mem.head _),
          st_plain rfl (op_pick _ _ true _ rfl rfl),
          trivial⟩ ?_
         exact hl22 _ (Option.some.inj h).symm
        ·refine ht_seqR hn (El := (_ :: _ :: _ :: _ :: _ :: _ :: (34, .v (.int .i64 v9.2)) :: (35, .v (.bool (v9.2 != 0))) :: (36, .v (.bool false)) :: (37, .agg [.v (.int .i64 v9.1.Kind), .v (.string v9.1.Text), .v (.bool v9.1.Path.Null), .v (.string v9.1.Path.Local), .v (.string v9.1.Path.Domain), .fl .ro 2 (List.flatten (List.map T_Param.enc v9.1.Params))]) :: (38, .agg [.v (.int .i64 c.Kind), .v (.string c.Text), .v (.bool c.Path.Null), .v (.string c.Path.Local), .v (.string c.Path.Domain), .fl .shr 2 (List.flatten (List.map T_Param.enc c.Params))]) :: (39, .v (.bool v10)) :: (40, .v (.bool (!v10))) :: (41, .v (.bool (!v10))) :: (42, .v (.bool false)) :: (43, .v (.string v7.1)) :: (44, .v (.int .i64 (v7.1.size : Int))) :: (45, .v (.bool ((decide (510 < (v7.1.size : Int)))))) :: (46, .v (.bool ((decide (510 < (v7.1.size : Int)))))) :: [])) (init := [0, 1, 2, 3, 4, 5]) (fin := [0, 1, 18]) (sps := [⟨[5], [], [6], [(.slot 34)]⟩, ⟨[6], [], [7], [(.slot 35)]⟩, ⟨[7], [], [8], [(.slot 36)]⟩, ⟨[8, 4], [], [9], [(.slot 37)]⟩, ⟨[8, 2], [], [10], [(.slot 38)]⟩, ⟨[8, 9, 10], [], [11], [(.slot 39)]⟩, ⟨[8, 11], [], [12], [(.slot 40)]⟩, ⟨[8, 12], [], [13], [(.slot 41)]⟩, ⟨[13], [], [14], [(.slot 42)]⟩, ⟨[14, 3], [], [15], [(.slot 43)]⟩, ⟨[14, 15], [], [16], [(.slot 44)]⟩, ⟨[14, 16], [], [17], [(.slot 45)]⟩, ⟨[14, 17], [], [18], [(.slot 46)]⟩]) (es' := [(_, _), (_, _), (46, .v (.bool ((decide (510 < (v7.1.size : Int))))))]) (by kernel_rfl) rfl rfl
          ⟨st_plain rfl (op_move _ _ _ _ rfl rfl),
          st_plain rfl (op_bin _ _ _ _ _ rfl rfl rfl),
          st_plain rfl (op_move _ _ _ _ (congrArg (fun b => AV.v (Value.bool b)) hg6_2) rfl),
          st_run 2 36 false rfl rfl rfl (List.Mem.head _) (op_loadA _ _ _ _ _ _ _ Tryd.underlying26 rfl sz26 rfl rfl (Nat.le_of_ble_eq_true rfl) rfl rfl),
          st_run 2 36 false rfl rfl rfl (List.Mem.head _) (op_loadA _ _ _ _ _ _ _ Tryd.underlying26 rfl sz26 rfl rfl (Nat.le_of_ble_eq_true rfl) rfl rfl),
          st_run 2 36 false rfl rfl rfl (List.Mem.head _) (op_call _ _ 11 _ _ rfl Tryd.call11 rfl (ok_wherrykeep_Cmd ((T_Cmd.mk v9.1.Kind v9.1.Text (T_Path.mk v9.1.Path.Null v9.1.Path.Local v9.1.Path.Domain) v9.1.Params)) ((T_Cmd.mk c.Kind c.Text (T_Path.mk c.Path.Null c.Path.Local c.Path.Domain) c.Params)) _ hv10) rfl rfl),
          st_run 2 36 false rfl rfl rfl (List.Mem.head _) (op_un _ _ _ _ rfl rfl),
          st_plain rfl (op_pick _ _ false _ rfl rfl),
          st_plain rfl (op_move _ _ _ _ (congrArg (fun b => AV.v (Value.bool b)) hg6_8) rfl),
          st_run 8 42 false rfl rfl rfl (List.Mem.head _) (op_move _ _ _ _ rfl rfl),
          st_run 8 42 false rfl rfl rfl (List.Mem.head _) (op_len_str _ _ _ Tryd.underlying9 rfl),
          st_run 8 42 false rfl rfl rfl (List.Mem.head _) (op_bin _ _ _ _ _ rfl rfl rfl),
          st_plain rfl (op_pick _ _ false _ rfl rfl),
          trivial⟩ ?_
         exact hl22 _ (Option.some.inj h).symm
     ·have h := cond_f hb19 h
      refine ht_skip ?_
      refine pt_pick [0, 1] (by kernel_rfl) (es' := [(_, _), (_, _)]) rfl ?_
      exact hl17 _ (Option.some.inj h).symm
  ·intro u3 h hl4 hr5
   refine cond_some h (fun hg1_3 h => ?_) (fun hg1_3 h => ?_)
   ·refine ht_seqR hn (El := [_, _, _, (15, .v (.string s)), (16, .v (.int .i64 (s.size : Int))), (17, .v (.bool ((decide (1000 < (s.size : Int)))))), (18, .v (.bool true)), (19, .v undef), (20, .v undef), (21, .v (.bool true))]) (init := [0, 1, 2]) (fin := [0, 1, 2, 9]) (sps := [⟨[0], [], [3], [(.slot 15)]⟩, ⟨[3], [], [4], [(.slot 16)]⟩, ⟨[4], [], [5], [(.slot 17)]⟩, ⟨[5], [], [6], [(.slot 18)]⟩, ⟨[6], [], [7], [(.slot 19)]⟩, ⟨[6], [], [8], [(.slot 20)]⟩, ⟨[6], [], [9], [(.slot 21)]⟩]) (es' := [(_, _), (_, _), (_, _), (21, .v (.bool true))]) (by kernel_rfl) rfl rfl
     ⟨st_plain rfl (op_move _ _ _ _ rfl rfl),
     st_plain rfl (op_len_str _ _ _ Tryd.underlying9 rfl),
     st_plain rfl (op_bin _ _ _ _ _ rfl rfl rfl),
     st_plain rfl (op_move _ _ _ _ (congrArg (fun b => AV.v (Value.bool b)) hg1_3) rfl),
     st_skip 3 18 _ false rfl rfl rfl rfl (List.Mem.head _),
     st_skip 3 18 _ false rfl rfl rfl rfl (List.Mem.head _),
     st_plain rfl (op_pick _ _ true _ rfl rfl),
     trivial⟩ ?_
    exact hl4 _ (Option.some.inj h).symm
   ·obtain ⟨v1, hv1, h⟩ := bind_some h
    refine ht_seqR hn (El := [_, _, _, (15, .v (.string s)), (16, .v (.int .i64 (s.size : Int))), (17, .v (.bool ((decide (1000 < (s.size : Int)))))), (18, .v (.bool false)), (19, .agg [.v (.int .i64 c.Kind), .v (.string c.Text), .v (.bool c.Path.Null), .v (.string c.Path.Local), .v (.string c.Path.Domain), .fl .shr 2 (List.flatten (List.map T_Param.enc c.Params))]), (20, .v (.bool v1)), (21, .v (.bool v1))]) (init := [0, 1, 2]) (fin := [0, 1, 2, 9]) (sps := [⟨[0], [], [3], [(.slot 15)]⟩, ⟨[3], [], [4], [(.slot 16)]⟩, ⟨[4], [], [5], [(.slot 17)]⟩, ⟨[5], [], [6], [(.slot 18)]⟩, ⟨[6, 2], [], [7], [(.slot 19)]⟩, ⟨[6, 7], [], [8], [(.slot 20)]⟩, ⟨[6, 8], [], [9], [(.slot 21)]⟩]) (es' := [(_, _), (_, _), (_, _), (21, .v (.bool v1))]) (by kernel_rfl) rfl rfl
     ⟨st_plain rfl (op_move _ _ _ _ rfl rfl),
     st_plain rfl (op_len_str _ _ _ Tryd.underlying9 rfl),
     st_plain rfl (op_bin _ _ _ _ _ rfl rfl rfl),
     st_plain rfl (op_move _ _ _ _ (congrArg (fun b => AV.v (Value.bool b)) hg1_3) rfl),
     st_run 3 18 false rfl rfl rfl (List.Mem.head _) (op_loadA _ _ _ _ _ _ _ Tryd.underlying26 rfl sz26 rfl rfl (Nat.le_of_ble_eq_true rfl) rfl rfl),
     st_run 3 18 false rfl rfl rfl (List.Mem.head _) (op_call _ _ 8 _ _ rfl Tryd.call8 rfl (ok_wherrylaw12_heavy ((T_Cmd.mk c.Kind c.Text (T_Path.mk c.Path.Null c.Path.Local c.Path.Domain) c.Params)) _ hv1) rfl rfl),
     st_plain rfl (op_pick _ _ false _ rfl rfl),
     trivial⟩ ?_
    exact hl4 _ (Option.some.inj h).symm

end Go.Proofs.YthfmdofkkkpbkaaDoor
