/-
  The model's runs are what is told in Lean.
-/
import Derived.Test.YtpmngahekkagpaaDoorProg
import Derived.KernelRfl
import Derived.Test.YtpmngahekkagpaaDoorShelf
import Derived.Test.YtpmngahekkagpaaDoorOkc2
set_option linter.unusedVariables false
set_option linter.unusedSimpArgs false
namespace Go.Proofs.YtpmngahekkagpaaDoor
open Go.Abs Go.Abs.Sh

set_option maxHeartbeats 1000000 in
theorem ok_wherryref11_Local (s : ByteArray) (r : Bool) (h : Sh.wherryref11_Local s = some r) : FnOK Tryd.prog 30 [.v (.string s)] (.v (.bool r)) := by
  unfold Sh.wherryref11_Local at h
  refine fn_ok Tryd.func30 rfl (Nat.le_of_ble_eq_true rfl) rfl rfl fun g0 hn hio => ?_
  refine ht_seq ?_
  refine ht_seqR hn (El := [_, (2, .v (.bool false))]) (init := [0]) (fin := [0]) (sps := [⟨[], [], [1], [(.slot 2)]⟩]) (es' := [(_, _)]) (by kernel_rfl) rfl rfl
   ⟨st_plain rfl (op_assign _ _ _ _ rfl rfl),
   trivial⟩ ?_
  refine pt_then ?_
  refine ht_seq ?_
  refine ht_seq ?_
  refine ht_joinS h (fun (s5 : Bool) => [(0, .v (.string s)), (20, .v (.bool s5))]) ?_ ?_
  ·rintro s5 h
   refine pt_then ?_
   refine ht_cond _ rfl (fun hb9 => ?_) (fun hb9 => ?_)
   ·have h := cond_t hb9 h
    refine ht_seq ?_
    refine ht_seqR hn (El := [_, _, (2, .v (.bool false))]) (init := [0, 1]) (fin := [2]) (sps := [⟨[], [], [2], [(.slot 2)]⟩]) (es' := [(2, .v (.bool false))]) (by kernel_rfl) rfl rfl
     ⟨st_plain rfl (op_assign _ _ _ _ rfl rfl),
     trivial⟩ ?_
    refine pt_then ?_
    refine ht_ret ?_
    refine pt_r_then ?_
    obtain rfl := Option.some.inj h
    exact pt_ret hio rfl (.tmp _ _ .nil) rfl rfl
   ·have h := cond_f hb9 h
    refine ht_skip ?_
    refine pt_then ?_
    refine ht_seq ?_
    refine ht_seq ?_
    refine ht_seqR hn (El := [_, _, (3, .v (.int .i64 0))]) (init := [0, 1]) (fin := [0, 2]) (sps := [⟨[], [], [2], [(.slot 3)]⟩]) (es' := [(_, _), (3, .v (.int .i64 0))]) (by kernel_rfl) rfl rfl
     ⟨st_plain rfl (op_assign _ _ _ _ rfl rfl),
     trivial⟩ ?_
    refine pt_then ?_
    refine ht_loopS h (fun (s33 : Int) => [(0, .v (.string s)), (3, .v (.int .i64 s33))]) (fun (() : Unit) => []) ?_ ?_
    ·rintro ⟨⟩ h
     refine pt_then ?_
     refine ht_seq ?_
     refine ht_seqR hn (El := [(2, .v (.bool true))]) (init := []) (fin := [0]) (sps := [⟨[], [], [0], [(.slot 2)]⟩]) (es' := [(2, .v (.bool true))]) (by kernel_rfl) rfl rfl
      ⟨st_plain rfl (op_assign _ _ _ _ rfl rfl),
      trivial⟩ ?_
     refine pt_then ?_
     refine ht_ret ?_
     obtain rfl := Option.some.inj h
     exact pt_ret hio rfl (.tmp _ _ .nil) rfl rfl
    ·rintro u40 hl41 hr42 s33 rr45 h ho43
     refine ht_seq ?_
     refine ht_seq ?_
     refine ht_seqR hn (El := [_, _, (21, .v (.int .i64 s33)), (22, .v (.string s)), (23, .v (.int .i64 (s.size : Int))), (24, .v (.bool ((decide (s33 < (s.size : Int))))))]) (init := [0, 1]) (fin := [0, 1, 5]) (sps := [⟨[1], [], [2], [(.slot 21)]⟩, ⟨[0], [], [3], [(.slot 22)]⟩, ⟨[3], [], [4], [(.slot 23)]⟩, ⟨[2, 4], [], [5], [(.slot 24)]⟩]) (es' := [(_, _), (_, _), (24, .v (.bool ((decide (s33 < (s.size : Int))))))]) (by kernel_rfl) rfl rfl
      ⟨st_plain rfl (op_move _ _ _ _ rfl rfl),
      st_plain rfl (op_move _ _ _ _ rfl rfl),
      st_plain rfl (op_len_str _ _ _ Tryd.underlying9 rfl),
      st_plain rfl (op_bin _ _ _ _ _ rfl rfl rfl),
      trivial⟩ ?_
     refine pt_then ?_
     refine ht_cond _ rfl (fun hb46 => ?_) (fun hb46 => ?_)
     ·have h := cond_t hb46 h
      refine ht_skip ?_
      refine pt_then ?_
      refine ht_seq ?_
      refine ht_block ?_
      refine ht_seq ?_
      refine ht_joinS h (fun (s47 : Bool) => [(0, .v (.string s)), (3, .v (.int .i64 s33)), (50, .v (.bool s47))]) ?_ ?_
      ·rintro s47 h
       refine pt_then ?_
       refine ht_cond _ rfl (fun hb51 => ?_) (fun hb51 => ?_)
       ·have h := cond_t hb51 h
        refine ht_seq ?_
        refine ht_seqR hn (El := [_, _, _, (2, .v (.bool false))]) (init := [0, 1, 2]) (fin := [3]) (sps := [⟨[], [], [3], [(.slot 2)]⟩]) (es' := [(2, .v (.bool false))]) (by kernel_rfl) rfl rfl
         ⟨st_plain rfl (op_assign _ _ _ _ rfl rfl),
         trivial⟩ ?_
        refine pt_then ?_
        refine ht_ret ?_
        refine pt_r_in ?_
        refine pt_r_then ?_
        refine pt_r_then ?_
        refine pt_r_in ?_
        refine pt_r_then ?_
        have h := hr42 _ (ho43 _ (Option.some.inj h).symm).symm
        obtain rfl := Option.some.inj h
        exact pt_ret hio rfl (.tmp _ _ .nil) rfl rfl
       ·have h := cond_f hb51 h
        refine ht_skip ?_
        refine pt_inb ?_
        refine pt_then ?_
        obtain ⟨v25, hv25, h⟩ := bind_some h
        refine ht_seqR hn (El := [_, _, _, (25, .v (.int .i64 s33)), (26, .v (.int .i64 v25)), (3, .v (.int .i64 v25))]) (init := [0, 1, 2]) (fin := [0, 5]) (sps := [⟨[1], [], [3], [(.slot 25)]⟩, ⟨[3], [], [4], [(.slot 26)]⟩, ⟨[4], [1], [5], [(.slot 3)]⟩]) (es' := [(_, _), (3, .v (.int .i64 v25))]) (by kernel_rfl) rfl rfl
         ⟨st_plain rfl (op_move _ _ _ _ rfl rfl),
         st_plain rfl (op_bin _ _ _ _ _ rfl rfl (ibind (f := Value.int .i64) (Option.some.inj hv25))),
         st_plain rfl (LOp.drop [_] (op_assign _ _ _ _ rfl rfl)),
         trivial⟩ ?_
        exact pt_next _ (Option.some.inj h).symm rfl
      ·intro u48 h hl49 hr50
       obtain ⟨v11, hv11, h⟩ := bind_some h
       refine cond_some h (fun hg6_4 h => ?_) (fun hg6_4 h => ?_)
       ·obtain ⟨v12, hv12, h⟩ := bind_some h
        obtain ⟨v13, hv13, h⟩ := bind_some h
        refine cond_some h (fun hg6_11 h => ?_) (fun hg6_11 h => ?_)
        ·refine ht_seqR hn (El := (_ :: _ :: _ :: (27, .v (.string s)) :: (28, .v (.int .i64 s33)) :: (29, .v (.int .u8 v11)) :: (30, .v (.bool (v11 == 46))) :: (31, .v (.bool true)) :: (32, .v (.string s)) :: (33, .v (.int .i64 s33)) :: (34, .v (.int .i64 v12)) :: (35, .v (.int .u8 v13)) :: (36, .v (.bool (v13 == 46))) :: (37, .v (.bool (v13 == 46))) :: (38, .v (.bool true)) :: (39, .v undef) :: (40, .v undef) :: (41, .v undef) :: (42, .v undef) :: (43, .v undef) :: (44, .v undef) :: (45, .v undef) :: (46, .v undef) :: (47, .v undef) :: (48, .v undef) :: (49, .v undef) :: (50, .v (.bool true)) :: [])) (init := [0, 1, 2]) (fin := [0, 1, 26]) (sps := (⟨[0], [], [3], [(.slot 27)]⟩ :: ⟨[1], [], [4], [(.slot 28)]⟩ :: ⟨[3, 4], [], [5], [(.slot 29)]⟩ :: ⟨[5], [], [6], [(.slot 30)]⟩ :: ⟨[6], [], [7], [(.slot 31)]⟩ :: ⟨[7, 0], [], [8], [(.slot 32)]⟩ :: ⟨[7, 1], [], [9], [(.slot 33)]⟩ :: ⟨[7, 9], [], [10], [(.slot 34)]⟩ :: ⟨[7, 8, 10], [], [11], [(.slot 35)]⟩ :: ⟨[7, 11], [], [12], [(.slot 36)]⟩ :: ⟨[7, 12], [], [13], [(.slot 37)]⟩ :: ⟨[13], [], [14], [(.slot 38)]⟩ :: ⟨[14], [], [15], [(.slot 39)]⟩ :: ⟨[14], [], [16], [(.slot 40)]⟩ :: ⟨[14], [], [17], [(.slot 41)]⟩ :: ⟨[14], [], [18], [(.slot 42)]⟩ :: ⟨[14], [], [19], [(.slot 43)]⟩ :: ⟨[19], [], [20], [(.slot 44)]⟩ :: ⟨[19], [], [21], [(.slot 45)]⟩ :: ⟨[19], [], [22], [(.slot 46)]⟩ :: ⟨[19], [], [23], [(.slot 47)]⟩ :: ⟨[19], [], [24], [(.slot 48)]⟩ :: ⟨[14], [], [25], [(.slot 49)]⟩ :: ⟨[14], [], [26], [(.slot 50)]⟩ :: [])) (es' := [(_, _), (_, _), (50, .v (.bool true))]) (by kernel_rfl) rfl rfl
          ⟨st_plain rfl (op_move _ _ _ _ rfl rfl),
          st_plain rfl (op_move _ _ _ _ rfl rfl),
          st_plain rfl (op_chr _ _ _ s33 _ Tryd.underlying9 rfl rfl hv11),
          st_plain rfl (op_bin _ _ _ _ _ rfl rfl rfl),
          st_plain rfl (op_move _ _ _ _ (congrArg (fun b => AV.v (Value.bool b)) hg6_4) rfl),
          st_run 4 31 true rfl rfl rfl (List.Mem.head _) (op_move _ _ _ _ rfl rfl),
          st_run 4 31 true rfl rfl rfl (List.Mem.head _) (op_move _ _ _ _ rfl rfl),
          st_run 4 31 true rfl rfl rfl (List.Mem.head _) (op_bin _ _ _ _ _ rfl rfl (ibind (f := Value.int .i64) (Option.some.inj hv12))),
          st_run 4 31 true rfl rfl rfl (List.Mem.head _) (op_chr _ _ _ v12 _ Tryd.underlying9 rfl rfl hv13),
          st_run 4 31 true rfl rfl rfl (List.Mem.head _) (op_bin _ _ _ _ _ rfl rfl rfl),
          st_plain rfl (op_pick _ _ true _ rfl rfl),
          st_plain rfl (op_move _ _ _ _ (congrArg (fun b => AV.v (Value.bool b)) hg6_11) rfl),
          st_skip 11 38 _ false rfl rfl rfl rfl (List.Mem.head _),
          st_skip 11 38 _ false rfl rfl rfl rfl (List.Mem.head _),
          st_skip 11 38 _ false rfl rfl rfl rfl (List.Mem.head _),
          st_skip 11 38 _ false rfl rfl rfl rfl (List.Mem.head _),
          st_skip 11 38 _ false rfl rfl rfl rfl (List.Mem.head _),
          st_skipU 16 43 _ true rfl rfl rfl rfl (List.Mem.head _),
          st_skipU 16 43 _ true rfl rfl rfl rfl (List.Mem.head _),
          st_skipU 16 43 _ true rfl rfl rfl rfl (List.Mem.head _),
          st_skipU 16 43 _ true rfl rfl rfl rfl (List.Mem.head _),
          st_skipU 16 43 _ true rfl rfl rfl rfl (List.Mem.head _),
          st_skip 11 38 _ false rfl rfl rfl rfl (List.Mem.head _),
          st_plain rfl (op_pick _ _ true _ rfl rfl),
          trivial⟩ ?_
         exact hl49 _ (Option.some.inj h).symm
        ·obtain ⟨v14, hv14, h⟩ := bind_some h
         refine cond_some h (fun hg6_16 h => ?_) (fun hg6_16 h => ?_)
         ·obtain ⟨v15, hv15, h⟩ := bind_some h
          obtain ⟨v16, hv16, h⟩ := bind_some h
          refine ht_seqR hn (El := (_ :: _ :: _ :: (27, .v (.string s)) :: (28, .v (.int .i64 s33)) :: (29, .v (.int .u8 v11)) :: (30, .v (.bool (v11 == 46))) :: (31, .v (.bool true)) :: (32, .v (.string s)) :: (33, .v (.int .i64 s33)) :: (34, .v (.int .i64 v12)) :: (35, .v (.int .u8 v13)) :: (36, .v (.bool (v13 == 46))) :: (37, .v (.bool (v13 == 46))) :: (38, .v (.bool false)) :: (39, .v (.string s)) :: (40, .v (.int .i64 s33)) :: (41, .v (.int .u8 v14)) :: (42, .v (.bool (v14 != 46))) :: (43, .v (.bool true)) :: (44, .v (.string s)) :: (45, .v (.int .i64 s33)) :: (46, .v (.int .u8 v15)) :: (47, .v (.bool v16)) :: (48, .v (.bool (!v16))) :: (49, .v (.bool (!v16))) :: (50, .v (.bool (!v16))) :: [])) (init := [0, 1, 2]) (fin := [0, 1, 26]) (sps := (⟨[0], [], [3], [(.slot 27)]⟩ :: ⟨[1], [], [4], [(.slot 28)]⟩ :: ⟨[3, 4], [], [5], [(.slot 29)]⟩ :: ⟨[5], [], [6], [(.slot 30)]⟩ :: ⟨[6], [], [7], [(.slot 31)]⟩ :: ⟨[7, 0], [], [8], [(.slot 32)]⟩ :: ⟨[7, 1], [], [9], [(.slot 33)]⟩ :: ⟨[7, 9], [], [10], [(.slot 34)]⟩ :: ⟨[7, 8, 10], [], [11], [(.slot 35)]⟩ :: ⟨[7, 11], [], [12], [(.slot 36)]⟩ :: ⟨[7, 12], [], [13], [(.slot 37)]⟩ :: ⟨[13], [], [14], [(.slot 38)]⟩ :: ⟨[14, 0], [], [15], [(.slot 39)]⟩ :: ⟨[14, 1], [], [16], [(.slot 40)]⟩ :: ⟨[14, 15, 16], [], [17], [(.slot 41)]⟩ :: ⟨[14, 17], [], [18], [(.slot 42)]⟩ :: ⟨[14, 18], [], [19], [(.slot 43)]⟩ :: ⟨[19, 0], [], [20], [(.slot 44)]⟩ :: ⟨[19, 1], [], [21], [(.slot 45)]⟩ :: ⟨[19, 20, 21], [], [22], [(.slot 46)]⟩ :: ⟨[19, 22], [], [23], [(.slot 47)]⟩ :: ⟨[19, 23], [], [24], [(.slot 48)]⟩ :: ⟨[14, 19, 24], [], [25], [(.slot 49)]⟩ :: ⟨[14, 25], [], [26], [(.slot 50)]⟩ :: [])) (es' := [(_, _), (_, _), (50, .v (.bool (!v16)))]) (by kernel_rfl) rfl rfl
           ⟨st_plain rfl (op_move _ _ _ _ rfl rfl),
           st_plain rfl (op_move _ _ _ _ rfl rfl),
           st_plain rfl (op_chr _ _ _ s33 _ Tryd.underlying9 rfl rfl hv11),
           st_plain rfl (op_bin _ _ _ _ _ rfl rfl rfl),
           st_plain rfl (op_move _ _ _ _ (congrArg (fun b => AV.v (Value.bool b)) hg6_4) rfl),
           st_run 4 31 true rfl rfl rfl (List.Mem.head _) (op_move _ _ _ _ rfl rfl),
           st_run 4 31 true rfl rfl rfl (List.Mem.head _) (op_move _ _ _ _ rfl rfl),
           st_run 4 31 true rfl rfl rfl (List.Mem.head _) (op_bin _ _ _ _ _ rfl rfl (ibind (f := Value.int .i64) (Option.some.inj hv12))),
           st_run 4 31 true rfl rfl rfl (List.Mem.head _) (op_chr _ _ _ v12 _ Tryd.underlying9 rfl rfl hv13),
           st_run 4 31 true rfl rfl rfl (List.Mem.head _) (op_bin _ _ _ _ _ rfl rfl rfl),
           st_plain rfl (op_pick _ _ true _ rfl rfl),
           st_plain rfl (op_move _ _ _ _ (congrArg (fun b => AV.v (Value.bool b)) hg6_11) rfl),
           st_run 11 38 false rfl rfl rfl (List.Mem.head _) (op_move _ _ _ _ rfl rfl),
           st_run 11 38 false rfl rfl rfl (List.Mem.head _) (op_move _ _ _ _ rfl rfl),
           st_run 11 38 false rfl rfl rfl (List.Mem.head _) (op_chr _ _ _ s33 _ Tryd.underlying9 rfl rfl hv14),
           st_run 11 38 false rfl rfl rfl (List.Mem.head _) (op_bin _ _ _ _ _ rfl rfl rfl),
           st_run 11 38 false rfl rfl rfl (List.Mem.head _) (op_move _ _ _ _ (congrArg (fun b => AV.v (Value.bool b)) hg6_16) rfl),
           st_run 16 43 true rfl rfl rfl (List.Mem.head _) (op_move _ _ _ _ rfl rfl),
           st_run 16 43 true rfl rfl rfl (List.Mem.head _) (op_move _ _ _ _ rfl rfl),
           st_run 16 43 true rfl rfl rfl (List.Mem.head _) (op_chr _ _ _ s33 _ Tryd.underlying9 rfl rfl hv15),
           st_run 16 43 true rfl rfl rfl (List.Mem.head _) (op_call _ _ 40 _ _ rfl Tryd.call40 rfl (ok_wherryref11_sign v15 _ hv16) rfl rfl),
           st_run 16 43 true rfl rfl rfl (List.Mem.head _) (op_un _ _ _ _ rfl rfl),
           st_run 11 38 false rfl rfl rfl (List.Mem.head _) (op_pick _ _ true _ rfl rfl),
           st_plain rfl (op_pick _ _ false _ rfl rfl),
           trivial⟩ ?_
          exact hl49 _ (Option.some.inj h).symm
         ·refine ht_seqR hn (El := (_ :: _ :: _ :: (27, .v (.string s)) :: (28, .v (.int .i64 s33)) :: (29, .v (.int .u8 v11)) :: (30, .v (.bool (v11 == 46))) :: (31, .v (.bool true)) :: (32, .v (.string s)) :: (33, .v (.int .i64 s33)) :: (34, .v (.int .i64 v12)) :: (35, .v (.int .u8 v13)) :: (36, .v (.bool (v13 == 46))) :: (37, .v (.bool (v13 == 46))) :: (38, .v (.bool false)) :: (39, .v (.string s)) :: (40, .v (.int .i64 s33)) :: (41, .v (.int .u8 v14)) :: (42, .v (.bool (v14 != 46))) :: (43, .v (.bool false)) :: (44, .v undef) :: (45, .v undef) :: (46, .v undef) :: (47, .v undef) :: (48, .v undef) :: (49, .v (.bool false)) :: (50, .v (.bool false)) :: [])) (init := [0, 1, 2]) (fin := [0, 1, 26]) (sps := (⟨[0], [], [3], [(.slot 27)]⟩ :: ⟨[1], [], [4], [(.slot 28)]⟩ :: ⟨[3, 4], [], [5], [(.slot 29)]⟩ :: ⟨[5], [], [6], [(.slot 30)]⟩ :: ⟨[6], [], [7], [(.slot 31)]⟩ :: ⟨[7, 0], [], [8], [(.slot 32)]⟩ :: ⟨[7, 1], [], [9], [(.slot 33)]⟩ :: ⟨[7, 9], [], [10], [(.slot 34)]⟩ :: ⟨[7, 8, 10], [], [11], [(.slot 35)]⟩ :: ⟨[7, 11], [], [12], [(.slot 36)]⟩ :: ⟨[7, 12], [], [13], [(.slot 37)]⟩ :: ⟨[13], [], [14], [(.slot 38)]⟩ :: ⟨[14, 0], [], [15], [(.slot 39)]⟩ :: ⟨[14, 1], [], [16], [(.slot 40)]⟩ :: ⟨[14, 15, 16], [], [17], [(.slot 41)]⟩ :: ⟨[14, 17], [], [18], [(.slot 42)]⟩ :: ⟨[14, 18], [], [19], [(.slot 43)]⟩ :: ⟨[19], [], [20], [(.slot 44)]⟩ :: ⟨[19], [], [21], [(.slot 45)]⟩ :: ⟨[19], [], [22], [(.slot 46)]⟩ :: ⟨[19], [], [23], [(.slot 47)]⟩ :: ⟨[19], [], [24], [(.slot 48)]⟩ :: ⟨[14, 19], [], [25], [(.slot 49)]⟩ :: ⟨[14, 25], [], [26], [(.slot 50)]⟩ :: [])) (es' := [(_, _), (_, _), (50, .v (.bool false))]) (by kernel_rfl) rfl rfl
           ⟨st_plain rfl (op_move _ _ _ _ rfl rfl),
           st_plain rfl (op_move _ _ _ _ rfl rfl),
           st_plain rfl (op_chr _ _ _ s33 _ Tryd.underlying9 rfl rfl hv11),
           st_plain rfl (op_bin _ _ _ _ _ rfl rfl rfl),
           st_plain rfl (op_move _ _ _ _ (congrArg (fun b => AV.v (Value.bool b)) hg6_4) rfl),
           st_run 4 31 true rfl rfl rfl (List.Mem.head _) (op_move _ _ _ _ rfl rfl),
           st_run 4 31 true rfl rfl rfl (List.Mem.head _) (op_move _ _ _ _ rfl rfl),
           st_run 4 31 true rfl rfl rfl (List.Mem.head _) (op_bin _ _ _ _ _ rfl rfl (ibind (f := Value.int .i64) (Option.some.inj hv12))),
           st_run 4 31 true rfl rfl rfl (List.Mem.head _) (op_chr _ _ _ v12 _ Tryd.underlying9 rfl rfl hv13),
           st_run 4 31 true rfl rfl rfl (List.Mem.head _) (op_bin _ _ _ _ _ rfl rfl rfl),
           st_plain rfl (op_pick _ _ true _ rfl rfl),
           st_plain rfl (op_move _ _ _ _ (congrArg (fun b => AV.v (Value.bool b)) hg6_11) rfl),
           st_run 11 38 false rfl rfl rfl (List.Mem.head _) (op_move _ _ _ _ rfl rfl),
           st_run 11 38 false rfl rfl rfl (List.Mem.head _) (op_move _ _ _ _ rfl rfl),
           st_run 11 38 false rfl rfl rfl (List.Mem.head _) (op_chr _ _ _ s33 _ Tryd.underlying9 rfl rfl hv14),
           st_run 11 38 false rfl rfl rfl (List.Mem.head _) (op_bin _ _ _ _ _ rfl rfl rfl),
           st_run 11 38 false rfl rfl rfl (List.Mem.head _) (op_move _ _ _ _ (congrArg (fun b => AV.v (Value.bool b)) hg6_16) rfl),
           st_skip 16 43 _ true rfl rfl rfl rfl (List.Mem.head _),
           st_skip 16 43 _ true rfl rfl rfl rfl (List.Mem.head _),
           st_skip 16 43 _ true rfl rfl rfl rfl (List.Mem.head _),
           st_skip 16 43 _ true rfl rfl rfl rfl (List.Mem.head _),
           st_skip 16 43 _ true rfl rfl rfl rfl (List.Mem.head _),
           st_run 11 38 false rfl rfl rfl (List.Mem.head _) (op_pick _ _ false _ rfl rfl),
           st_plain rfl (op_pick _ _ false _ rfl rfl),
           trivial⟩ ?_
          exact hl49 _ (Option.some.inj h).symm
       ·obtain ⟨v17, hv17, h⟩ := bind_some h
        refine cond_some h (fun hg6_16 h => ?_) (fun hg6_16 h => ?_)
        ·obtain ⟨v18, hv18, h⟩ := bind_some h
         obtain ⟨v19, hv19, h⟩ := bind_some h
         refine ht_seqR hn (El := (_ :: _ :: _ :: (27, .v (.string s)) :: (28, .v (.int .i64 s33)) :: (29, .v (.int .u8 v11)) :: (30, .v (.bool (v11 == 46))) :: (31, .v (.bool false)) :: (32, .v undef) :: (33, .v undef) :: (34, .v undef) :: (35, .v undef) :: (36, .v undef) :: (37, .v (.bool false)) :: (38, .v (.bool false)) :: (39, .v (.string s)) :: (40, .v (.int .i64 s33)) :: (41, .v (.int .u8 v17)) :: (42, .v (.bool (v17 != 46))) :: (43, .v (.bool true)) :: (44, .v (.string s)) :: (45, .v (.int .i64 s33)) :: (46, .v (.int .u8 v18)) :: (47, .v (.bool v19)) :: (48, .v (.bool (!v19))) :: (49, .v (.bool (!v19))) :: (50, .v (.bool (!v19))) :: [])) (init := [0, 1, 2]) (fin := [0, 1, 26]) (sps := (⟨[0], [], [3], [(.slot 27)]⟩ :: ⟨[1], [], [4], [(.slot 28)]⟩ :: ⟨[3, 4], [], [5], [(.slot 29)]⟩ :: ⟨[5], [], [6], [(.slot 30)]⟩ :: ⟨[6], [], [7], [(.slot 31)]⟩ :: ⟨[7], [], [8], [(.slot 32)]⟩ :: ⟨[7], [], [9], [(.slot 33)]⟩ :: ⟨[7], [], [10], [(.slot 34)]⟩ :: ⟨[7], [], [11], [(.slot 35)]⟩ :: ⟨[7], [], [12], [(.slot 36)]⟩ :: ⟨[7], [], [13], [(.slot 37)]⟩ :: ⟨[13], [], [14], [(.slot 38)]⟩ :: ⟨[14, 0], [], [15], [(.slot 39)]⟩ :: ⟨[14, 1], [], [16], [(.slot 40)]⟩ :: ⟨[14, 15, 16], [], [17], [(.slot 41)]⟩ :: ⟨[14, 17], [], [18], [(.slot 42)]⟩ :: ⟨[14, 18], [], [19], [(.slot 43)]⟩ :: ⟨[19, 0], [], [20], [(.slot 44)]⟩ :: ⟨[19, 1], [], [21], [(.slot 45)]⟩ :: ⟨[19, 20, 21], [], [22], [(.slot 46)]⟩ :: ⟨[19, 22], [], [23], [(.slot 47)]⟩ :: ⟨[19, 23], [], [24], [(.slot 48)]⟩ :: ⟨[14, 19, 24], [], [25], [(.slot 49)]⟩ :: ⟨[14, 25], [], [26], [(.slot 50)]⟩ :: [])) (es' := [(_, _), (_, _), (50, .v (.bool (!v19)))]) (by kernel_rfl) rfl rfl
          ⟨st_plain rfl (op_move _ _ _ _ rfl rfl),
          st_plain rfl (op_move _ _ _ _ rfl rfl),
          st_plain rfl (op_chr _ _ _ s33 _ Tryd.underlying9 rfl rfl hv11),
          st_plain rfl (op_bin _ _ _ _ _ rfl rfl rfl),
          st_plain rfl (op_move _ _ _ _ (congrArg (fun b => AV.v (Value.bool b)) hg6_4) rfl),
          st_skip 4 31 _ true rfl rfl rfl rfl (List.Mem.head _),
          st_skip 4 31 _ true rfl rfl rfl rfl (List.Mem.head _),
          st_skip 4 31 _ true rfl rfl rfl rfl (List.Mem.head _),
          st_skip 4 31 _ true rfl rfl rfl rfl (List.Mem.head _),
          st_skip 4 31 _ true rfl rfl rfl rfl (List.Mem.head _),
          st_plain rfl (op_pick _ _ false _ rfl rfl),
          st_plain rfl (op_move _ _ _ _ rfl rfl),
          st_run 11 38 false rfl rfl rfl (List.Mem.head _) (op_move _ _ _ _ rfl rfl),
          st_run 11 38 false rfl rfl rfl (List.Mem.head _) (op_move _ _ _ _ rfl rfl),
          st_run 11 38 false rfl rfl rfl (List.Mem.head _) (op_chr _ _ _ s33 _ Tryd.underlying9 rfl rfl hv17),
          st_run 11 38 false rfl rfl rfl (List.Mem.head _) (op_bin _ _ _ _ _ rfl rfl rfl),
          st_run 11 38 false rfl rfl rfl (List.Mem.head _) (op_move _ _ _ _ (congrArg (fun b => AV.v (Value.bool b)) hg6_16) rfl),
          st_run 16 43 true rfl rfl rfl (List.Mem.head _) (op_move _ _ _ _ rfl rfl),
          st_run 16 43 true rfl rfl rfl (List.Mem.head _) (op_move _ _ _ _ rfl rfl),
          st_run 16 43 true rfl rfl rfl (List.Mem.head _) (op_chr _ _ _ s33 _ Tryd.underlying9 rfl rfl hv18),
          st_run 16 43 true rfl rfl rfl (List.Mem.head _) (op_call _ _ 40 _ _ rfl Tryd.call40 rfl (ok_wherryref11_sign v18 _ hv19) rfl rfl),
          st_run 16 43 true rfl rfl rfl (List.Mem.head _) (op_un _ _ _ _ rfl rfl),
          st_run 11 38 false rfl rfl rfl (List.Mem.head _) (op_pick _ _ true _ rfl rfl),
          st_plain rfl (op_pick _ _ false _ rfl rfl),
          trivial⟩ ?_
         exact hl49 _ (Option.some.inj h).symm
        ·refine ht_seqR hn (El := (_ :: _ :: _ :: (27, .v (.string s)) :: (28, .v (.int .i64 s33)) :: (29, .v (.int .u8 v11)) :: (30, .v (.bool (v11 == 46))) :: (31, .v (.bool false)) :: (32, .v undef) :: (33, .v undef) :: (34, .v undef) :: (35, .v undef) :: (36, .v undef) :: (37, .v (.bool false)) :: (38, .v (.bool false)) :: (39, .v (.string s)) :: (40, .v (.int .i64 s33)) :: (41, .v (.int .u8 v17)) :: (42, .v (.bool (v17 != 46))) :: (43, .v (.bool false)) :: (44, .v undef) :: (45, .v undef) :: (46, .v undef) :: (47, .v undef) :: (48, .v undef) :: (49, .v (.bool false)) :: (50, .v (.bool false)) :: [])) (init := [0, 1, 2]) (fin := [0, 1, 26]) (sps := (⟨[0], [], [3], [(.slot 27)]⟩ :: ⟨[1], [], [4], [(.slot 28)]⟩ :: ⟨[3, 4], [], [5], [(.slot 29)]⟩ :: ⟨[5], [], [6], [(.slot 30)]⟩ :: ⟨[6], [], [7], [(.slot 31)]⟩ :: ⟨[7], [], [8], [(.slot 32)]⟩ :: ⟨[7], [], [9], [(.slot 33)]⟩ :: ⟨[7], [], [10], [(.slot 34)]⟩ :: ⟨[7], [], [11], [(.slot 35)]⟩ :: ⟨[7], [], [12], [(.slot 36)]⟩ :: ⟨[7], [], [13], [(.slot 37)]⟩ :: ⟨[13], [], [14], [(.slot 38)]⟩ :: ⟨[14, 0], [], [15], [(.slot 39)]⟩ :: ⟨[14, 1], [], [16], [(.slot 40)]⟩ :: ⟨[14, 15, 16], [], [17], [(.slot 41)]⟩ :: ⟨[14, 17], [], [18], [(.slot 42)]⟩ :: ⟨[14, 18], [], [19], [(.slot 43)]⟩ :: ⟨[19], [], [20], [(.slot 44)]⟩ :: ⟨[19], [], [21], [(.slot 45)]⟩ :: ⟨[19], [], [22], [(.slot 46)]⟩ :: ⟨[19], [], [23], [(.slot 47)]⟩ :: ⟨[19], [], [24], [(.slot 48)]⟩ :: ⟨[14, 19], [], [25], [(.slot 49)]⟩ :: ⟨[14, 25], [], [26], [(.slot 50)]⟩ :: [])) (es' := [(_, _), (_, _), (50, .v (.bool false))]) (by kernel_rfl) rfl rfl
          ⟨st_plain rfl (op_move _ _ _ _ rfl rfl),
          st_plain rfl (op_move _ _ _ _ rfl rfl),
          st_plain rfl (op_chr _ _ _ s33 _ Tryd.underlying9 rfl rfl hv11),
          st_plain rfl (op_bin _ _ _ _ _ rfl rfl rfl),
          st_plain rfl (op_move _ _ _ _ (congrArg (fun b => AV.v (Value.bool b)) hg6_4) rfl),
          st_skip 4 31 _ true rfl rfl rfl rfl (List.Mem.head _),
          st_skip 4 31 _ true rfl rfl rfl rfl (List.Mem.head _),
          st_skip 4 31 _ true rfl rfl rfl rfl (List.Mem.head _),
          st_skip 4 31 _ true rfl rfl rfl rfl (List.Mem.head _),
          st_skip 4 31 _ true rfl rfl rfl rfl (List.Mem.head _),
          st_plain rfl (op_pick _ _ false _ rfl rfl),
          st_plain rfl (op_move _ _ _ _ rfl rfl),
          st_run 11 38 false rfl rfl rfl (List.Mem.head _) (op_move _ _ _ _ rfl rfl),
          st_run 11 38 false rfl rfl rfl (List.Mem.head _) (op_move _ _ _ _ rfl rfl),
          st_run 11 38 false rfl rfl rfl (List.Mem.head _) (op_chr _ _ _ s33 _ Tryd.underlying9 rfl rfl hv17),
          st_run 11 38 false rfl rfl rfl (List.Mem.head _) (op_bin _ _ _ _ _ rfl rfl rfl),
          st_run 11 38 false rfl rfl rfl (List.Mem.head _) (op_move _ _ _ _ (congrArg (fun b => AV.v (Value.bool b)) hg6_16) rfl),
          st_skip 16 43 _ true rfl rfl rfl rfl (List.Mem.head _),
          st_skip 16 43 _ true rfl rfl rfl rfl (List.Mem.head _),
          st_skip 16 43 _ true rfl rfl rfl rfl (List.Mem.head _),
          st_skip 16 43 _ true rfl rfl rfl rfl (List.Mem.head _),
          st_skip 16 43 _ true rfl rfl rfl rfl (List.Mem.head _),
          st_run 11 38 false rfl rfl rfl (List.Mem.head _) (op_pick _ _ false _ rfl rfl),
          st_plain rfl (op_pick _ _ false _ rfl rfl),
          trivial⟩ ?_
         exact hl49 _ (Option.some.inj h).symm
     ·have h := cond_f hb46 h
      refine ht_exit ?_
      refine pt_x_then ?_
      refine pt_x_then ?_
      refine pt_x_in ?_
      refine pt_pick [] (by kernel_rfl) (es' := []) rfl ?_
      exact hl41 _ (ho43 _ (Option.some.inj h).symm).symm
  ·intro u6 h hl7 hr8
   obtain ⟨v1, hv1, h⟩ := bind_some h
   refine cond_some h (fun hg1_4 h => ?_) (fun hg1_4 h => ?_)
   ·refine ht_seqR hn (El := (_ :: (4, .v (.string s)) :: (5, .v (.int .i64 (s.size : Int))) :: (6, .v (.bool v1)) :: (7, .v (.bool (!v1))) :: (8, .v (.bool true)) :: (9, .v undef) :: (10, .v undef) :: (11, .v undef) :: (12, .v (.bool true)) :: (13, .v (.bool true)) :: (14, .v undef) :: (15, .v undef) :: (16, .v undef) :: (17, .v undef) :: (18, .v undef) :: (19, .v undef) :: (20, .v (.bool true)) :: [])) (init := [0]) (fin := [0, 17]) (sps := (⟨[0], [], [1], [(.slot 4)]⟩ :: ⟨[1], [], [2], [(.slot 5)]⟩ :: ⟨[2], [], [3], [(.slot 6)]⟩ :: ⟨[3], [], [4], [(.slot 7)]⟩ :: ⟨[4], [], [5], [(.slot 8)]⟩ :: ⟨[5], [], [6], [(.slot 9)]⟩ :: ⟨[5], [], [7], [(.slot 10)]⟩ :: ⟨[5], [], [8], [(.slot 11)]⟩ :: ⟨[5], [], [9], [(.slot 12)]⟩ :: ⟨[9], [], [10], [(.slot 13)]⟩ :: ⟨[10], [], [11], [(.slot 14)]⟩ :: ⟨[10], [], [12], [(.slot 15)]⟩ :: ⟨[10], [], [13], [(.slot 16)]⟩ :: ⟨[10], [], [14], [(.slot 17)]⟩ :: ⟨[10], [], [15], [(.slot 18)]⟩ :: ⟨[10], [], [16], [(.slot 19)]⟩ :: ⟨[10], [], [17], [(.slot 20)]⟩ :: [])) (es' := [(_, _), (20, .v (.bool true))]) (by kernel_rfl) rfl rfl
     ⟨st_plain rfl (op_move _ _ _ _ rfl rfl),
     st_plain rfl (op_len_str _ _ _ Tryd.underlying9 rfl),
     st_plain rfl (op_call _ _ 34 _ _ rfl Tryd.call34 rfl (ok_wherryref11_in (s.size : Int) 1 64 _ hv1) rfl rfl),
     st_plain rfl (op_un _ _ _ _ rfl rfl),
     st_plain rfl (op_move _ _ _ _ (congrArg (fun b => AV.v (Value.bool b)) hg1_4) rfl),
     st_skip 4 8 _ false rfl rfl rfl rfl (List.Mem.head _),
     st_skip 4 8 _ false rfl rfl rfl rfl (List.Mem.head _),
     st_skip 4 8 _ false rfl rfl rfl rfl (List.Mem.head _),
     st_plain rfl (op_pick _ _ true _ rfl rfl),
     st_plain rfl (op_move _ _ _ _ rfl rfl),
     st_skip 9 13 _ false rfl rfl rfl rfl (List.Mem.head _),
     st_skip 9 13 _ false rfl rfl rfl rfl (List.Mem.head _),
     st_skip 9 13 _ false rfl rfl rfl rfl (List.Mem.head _),
     st_skip 9 13 _ false rfl rfl rfl rfl (List.Mem.head _),
     st_skip 9 13 _ false rfl rfl rfl rfl (List.Mem.head _),
     st_skip 9 13 _ false rfl rfl rfl rfl (List.Mem.head _),
     st_plain rfl (op_pick _ _ true _ rfl rfl),
     trivial⟩ ?_
    exact hl7 _ (Option.some.inj h).symm
   ·obtain ⟨v2, hv2, h⟩ := bind_some h
    refine cond_some h (fun hg1_9 h => ?_) (fun hg1_9 h => ?_)
    ·refine ht_seqR hn (El := (_ :: (4, .v (.string s)) :: (5, .v (.int .i64 (s.size : Int))) :: (6, .v (.bool v1)) :: (7, .v (.bool (!v1))) :: (8, .v (.bool false)) :: (9, .v (.string s)) :: (10, .v (.int .u8 v2)) :: (11, .v (.bool (v2 == 46))) :: (12, .v (.bool (v2 == 46))) :: (13, .v (.bool true)) :: (14, .v undef) :: (15, .v undef) :: (16, .v undef) :: (17, .v undef) :: (18, .v undef) :: (19, .v undef) :: (20, .v (.bool true)) :: [])) (init := [0]) (fin := [0, 17]) (sps := (⟨[0], [], [1], [(.slot 4)]⟩ :: ⟨[1], [], [2], [(.slot 5)]⟩ :: ⟨[2], [], [3], [(.slot 6)]⟩ :: ⟨[3], [], [4], [(.slot 7)]⟩ :: ⟨[4], [], [5], [(.slot 8)]⟩ :: ⟨[5, 0], [], [6], [(.slot 9)]⟩ :: ⟨[5, 6], [], [7], [(.slot 10)]⟩ :: ⟨[5, 7], [], [8], [(.slot 11)]⟩ :: ⟨[5, 8], [], [9], [(.slot 12)]⟩ :: ⟨[9], [], [10], [(.slot 13)]⟩ :: ⟨[10], [], [11], [(.slot 14)]⟩ :: ⟨[10], [], [12], [(.slot 15)]⟩ :: ⟨[10], [], [13], [(.slot 16)]⟩ :: ⟨[10], [], [14], [(.slot 17)]⟩ :: ⟨[10], [], [15], [(.slot 18)]⟩ :: ⟨[10], [], [16], [(.slot 19)]⟩ :: ⟨[10], [], [17], [(.slot 20)]⟩ :: [])) (es' := [(_, _), (20, .v (.bool true))]) (by kernel_rfl) rfl rfl
      ⟨st_plain rfl (op_move _ _ _ _ rfl rfl),
      st_plain rfl (op_len_str _ _ _ Tryd.underlying9 rfl),
      st_plain rfl (op_call _ _ 34 _ _ rfl Tryd.call34 rfl (ok_wherryref11_in (s.size : Int) 1 64 _ hv1) rfl rfl),
      st_plain rfl (op_un _ _ _ _ rfl rfl),
      st_plain rfl (op_move _ _ _ _ (congrArg (fun b => AV.v (Value.bool b)) hg1_4) rfl),
      st_run 4 8 false rfl rfl rfl (List.Mem.head _) (op_move _ _ _ _ rfl rfl),
      st_run 4 8 false rfl rfl rfl (List.Mem.head _) (op_chr _ _ _ 0 _ Tryd.underlying9 rfl rfl hv2),
      st_run 4 8 false rfl rfl rfl (List.Mem.head _) (op_bin _ _ _ _ _ rfl rfl rfl),
      st_plain rfl (op_pick _ _ false _ rfl rfl),
      st_plain rfl (op_move _ _ _ _ (congrArg (fun b => AV.v (Value.bool b)) hg1_9) rfl),
      st_skip 9 13 _ false rfl rfl rfl rfl (List.Mem.head _),
      st_skip 9 13 _ false rfl rfl rfl rfl (List.Mem.head _),
      st_skip 9 13 _ false rfl rfl rfl rfl (List.Mem.head _),
      st_skip 9 13 _ false rfl rfl rfl rfl (List.Mem.head _),
      st_skip 9 13 _ false rfl rfl rfl rfl (List.Mem.head _),
      st_skip 9 13 _ false rfl rfl rfl rfl (List.Mem.head _),
      st_plain rfl (op_pick _ _ true _ rfl rfl),
      trivial⟩ ?_
     exact hl7 _ (Option.some.inj h).symm
    ·obtain ⟨v3, hv3, h⟩ := bind_some h
     obtain ⟨v4, hv4, h⟩ := bind_some h
     refine ht_seqR hn (El := (_ :: (4, .v (.string s)) :: (5, .v (.int .i64 (s.size : Int))) :: (6, .v (.bool v1)) :: (7, .v (.bool (!v1))) :: (8, .v (.bool false)) :: (9, .v (.string s)) :: (10, .v (.int .u8 v2)) :: (11, .v (.bool (v2 == 46))) :: (12, .v (.bool (v2 == 46))) :: (13, .v (.bool false)) :: (14, .v (.string s)) :: (15, .v (.string s)) :: (16, .v (.int .i64 (s.size : Int))) :: (17, .v (.int .i64 v3)) :: (18, .v (.int .u8 v4)) :: (19, .v (.bool (v4 == 46))) :: (20, .v (.bool (v4 == 46))) :: [])) (init := [0]) (fin := [0, 17]) (sps := (⟨[0], [], [1], [(.slot 4)]⟩ :: ⟨[1], [], [2], [(.slot 5)]⟩ :: ⟨[2], [], [3], [(.slot 6)]⟩ :: ⟨[3], [], [4], [(.slot 7)]⟩ :: ⟨[4], [], [5], [(.slot 8)]⟩ :: ⟨[5, 0], [], [6], [(.slot 9)]⟩ :: ⟨[5, 6], [], [7], [(.slot 10)]⟩ :: ⟨[5, 7], [], [8], [(.slot 11)]⟩ :: ⟨[5, 8], [], [9], [(.slot 12)]⟩ :: ⟨[9], [], [10], [(.slot 13)]⟩ :: ⟨[10, 0], [], [11], [(.slot 14)]⟩ :: ⟨[10, 0], [], [12], [(.slot 15)]⟩ :: ⟨[10, 12], [], [13], [(.slot 16)]⟩ :: ⟨[10, 13], [], [14], [(.slot 17)]⟩ :: ⟨[10, 11, 14], [], [15], [(.slot 18)]⟩ :: ⟨[10, 15], [], [16], [(.slot 19)]⟩ :: ⟨[10, 16], [], [17], [(.slot 20)]⟩ :: [])) (es' := [(_, _), (20, .v (.bool (v4 == 46)))]) (by kernel_rfl) rfl rfl
      ⟨st_plain rfl (op_move _ _ _ _ rfl rfl),
      st_plain rfl (op_len_str _ _ _ Tryd.underlying9 rfl),
      st_plain rfl (op_call _ _ 34 _ _ rfl Tryd.call34 rfl (ok_wherryref11_in (s.size : Int) 1 64 _ hv1) rfl rfl),
      st_plain rfl (op_un _ _ _ _ rfl rfl),
      st_plain rfl (op_move _ _ _ _ (congrArg (fun b => AV.v (Value.bool b)) hg1_4) rfl),
      st_run 4 8 false rfl rfl rfl (List.Mem.head _) (op_move _ _ _ _ rfl rfl),
      st_run 4 8 false rfl rfl rfl (List.Mem.head _) (op_chr _ _ _ 0 _ Tryd.underlying9 rfl rfl hv2),
      st_run 4 8 false rfl rfl rfl (List.Mem.head _) (op_bin _ _ _ _ _ rfl rfl rfl),
      st_plain rfl (op_pick _ _ false _ rfl rfl),
      st_plain rfl (op_move _ _ _ _ (congrArg (fun b => AV.v (Value.bool b)) hg1_9) rfl),
      st_run 9 13 false rfl rfl rfl (List.Mem.head _) (op_move _ _ _ _ rfl rfl),
      st_run 9 13 false rfl rfl rfl (List.Mem.head _) (op_move _ _ _ _ rfl rfl),
      st_run 9 13 false rfl rfl rfl (List.Mem.head _) (op_len_str _ _ _ Tryd.underlying9 rfl),
      st_run 9 13 false rfl rfl rfl (List.Mem.head _) (op_bin _ _ _ _ _ rfl rfl (ibind (f := Value.int .i64) (Option.some.inj hv3))),
      st_run 9 13 false rfl rfl rfl (List.Mem.head _) (op_chr _ _ _ v3 _ Tryd.underlying9 rfl rfl hv4),
      st_run 9 13 false rfl rfl rfl (List.Mem.head _) (op_bin _ _ _ _ _ rfl rfl rfl),
      st_plain rfl (op_pick _ _ false _ rfl rfl),
      trivial⟩ ?_
     exact hl7 _ (Option.some.inj h).symm

set_option maxHeartbeats 1000000 in
theorem ok_wherryref11_Domain (s : ByteArray) (r : Bool) (h : Sh.wherryref11_Domain s = some r) : FnOK Tryd.prog 15 [.v (.string s)] (.v (.bool r)) := by
  unfold Sh.wherryref11_Domain at h
  refine fn_ok Tryd.func15 rfl (Nat.le_of_ble_eq_true rfl) rfl rfl fun g0 hn hio => ?_
  refine ht_seq ?_
  refine ht_seqR hn (El := [_, (2, .v (.bool false))]) (init := [0]) (fin := [0]) (sps := [⟨[], [], [1], [(.slot 2)]⟩]) (es' := [(_, _)]) (by kernel_rfl) rfl rfl
   ⟨st_plain rfl (op_assign _ _ _ _ rfl rfl),
   trivial⟩ ?_
  refine pt_then ?_
  refine ht_seq ?_
  refine ht_seq ?_
  obtain ⟨v1, hv1, h⟩ := bind_some h
  refine ht_seqR hn (El := [_, (5, .v (.string s)), (6, .v (.int .i64 (s.size : Int))), (7, .v (.bool v1)), (8, .v (.bool (!v1)))]) (init := [0]) (fin := [0, 4]) (sps := [⟨[0], [], [1], [(.slot 5)]⟩, ⟨[1], [], [2], [(.slot 6)]⟩, ⟨[2], [], [3], [(.slot 7)]⟩, ⟨[3], [], [4], [(.slot 8)]⟩]) (es' := [(_, _), (8, .v (.bool (!v1)))]) (by kernel_rfl) rfl rfl
   ⟨st_plain rfl (op_move _ _ _ _ rfl rfl),
   st_plain rfl (op_len_str _ _ _ Tryd.underlying9 rfl),
   st_plain rfl (op_call _ _ 34 _ _ rfl Tryd.call34 rfl (ok_wherryref11_in (s.size : Int) 1 255 _ hv1) rfl rfl),
   st_plain rfl (op_un _ _ _ _ rfl rfl),
   trivial⟩ ?_
  refine pt_then ?_
  refine ht_cond _ rfl (fun hb2 => ?_) (fun hb2 => ?_)
  ·have h := cond_t hb2 h
   refine ht_seq ?_
   refine ht_seqR hn (El := [_, _, (2, .v (.bool false))]) (init := [0, 1]) (fin := [2]) (sps := [⟨[], [], [2], [(.slot 2)]⟩]) (es' := [(2, .v (.bool false))]) (by kernel_rfl) rfl rfl
    ⟨st_plain rfl (op_assign _ _ _ _ rfl rfl),
    trivial⟩ ?_
   refine pt_then ?_
   refine ht_ret ?_
   refine pt_r_then ?_
   obtain rfl := Option.some.inj h
   exact pt_ret hio rfl (.tmp _ _ .nil) rfl rfl
  ·have h := cond_f hb2 h
   refine ht_skip ?_
   refine pt_then ?_
   refine ht_seq ?_
   refine ht_seqR hn (El := [_, _, (3, .v (.int .i64 0))]) (init := [0, 1]) (fin := [0, 2]) (sps := [⟨[], [], [2], [(.slot 3)]⟩]) (es' := [(_, _), (3, .v (.int .i64 0))]) (by kernel_rfl) rfl rfl
    ⟨st_plain rfl (op_assign _ _ _ _ rfl rfl),
    trivial⟩ ?_
   refine pt_then ?_
   refine ht_seq ?_
   refine ht_seq ?_
   refine ht_seqR hn (El := [_, _, (4, .v (.int .i64 0))]) (init := [0, 1]) (fin := [0, 1, 2]) (sps := [⟨[], [], [2], [(.slot 4)]⟩]) (es' := [(_, _), (_, _), (4, .v (.int .i64 0))]) (by kernel_rfl) rfl rfl
    ⟨st_plain rfl (op_assign _ _ _ _ rfl rfl),
    trivial⟩ ?_
   refine pt_then ?_
   refine ht_loopS h (fun ((s88, s89) : Int × Int) => [(0, .v (.string s)), (3, .v (.int .i64 s88)), (4, .v (.int .i64 s89))]) (fun (() : Unit) => []) ?_ ?_
   ·rintro ⟨⟩ h
    refine pt_then ?_
    refine ht_seq ?_
    refine ht_seqR hn (El := [(2, .v (.bool true))]) (init := []) (fin := [0]) (sps := [⟨[], [], [0], [(.slot 2)]⟩]) (es' := [(2, .v (.bool true))]) (by kernel_rfl) rfl rfl
     ⟨st_plain rfl (op_assign _ _ _ _ rfl rfl),
     trivial⟩ ?_
    refine pt_then ?_
    refine ht_ret ?_
    obtain rfl := Option.some.inj h
    exact pt_ret hio rfl (.tmp _ _ .nil) rfl rfl
   ·rintro u125 hl126 hr127 ⟨s88, s89⟩ rr130 h ho128
    refine ht_seq ?_
    refine ht_seq ?_
    refine ht_seqR hn (El := [_, _, _, (9, .v (.int .i64 s89)), (10, .v (.string s)), (11, .v (.int .i64 (s.size : Int))), (12, .v (.bool ((decide (s89 ≤ (s.size : Int))))))]) (init := [0, 1, 2]) (fin := [0, 1, 2, 6]) (sps := [⟨[2], [], [3], [(.slot 9)]⟩, ⟨[0], [], [4], [(.slot 10)]⟩, ⟨[4], [], [5], [(.slot 11)]⟩, ⟨[3, 5], [], [6], [(.slot 12)]⟩]) (es' := [(_, _), (_, _), (_, _), (12, .v (.bool ((decide (s89 ≤ (s.size : Int))))))]) (by kernel_rfl) rfl rfl
     ⟨st_plain rfl (op_move _ _ _ _ rfl rfl),
     st_plain rfl (op_move _ _ _ _ rfl rfl),
     st_plain rfl (op_len_str _ _ _ Tryd.underlying9 rfl),
     st_plain rfl (op_bin _ _ _ _ _ rfl rfl rfl),
     trivial⟩ ?_
    refine pt_then ?_
    refine ht_cond _ rfl (fun hb131 => ?_) (fun hb131 => ?_)
    ·have h := cond_t hb131 h
     refine ht_skip ?_
     refine pt_then ?_
     refine ht_seq ?_
     refine ht_joinS h (fun (s147 : Int) => [(0, .v (.string s)), (3, .v (.int .i64 s147)), (4, .v (.int .i64 s89))]) ?_ ?_
     ·rintro s147 h
      refine pt_then ?_
      obtain ⟨v50, hv50, h⟩ := bind_some h
      refine ht_seqR hn (El := [_, _, _, (13, .v (.int .i64 s89)), (14, .v (.int .i64 v50)), (4, .v (.int .i64 v50))]) (init := [0, 1, 2]) (fin := [0, 1, 5]) (sps := [⟨[2], [], [3], [(.slot 13)]⟩, ⟨[3], [], [4], [(.slot 14)]⟩, ⟨[4], [2], [5], [(.slot 4)]⟩]) (es' := [(_, _), (_, _), (4, .v (.int .i64 v50))]) (by kernel_rfl) rfl rfl
       ⟨st_plain rfl (op_move _ _ _ _ rfl rfl),
       st_plain rfl (op_bin _ _ _ _ _ rfl rfl (ibind (f := Value.int .i64) (Option.some.inj hv50))),
       st_plain rfl (LOp.drop [_] (op_assign _ _ _ _ rfl rfl)),
       trivial⟩ ?_
      exact pt_next _ (Option.some.inj h).symm rfl
     ·intro u148 h hl149 hr150
      refine ht_block ?_
      refine ht_seq ?_
      refine ht_seq ?_
      refine ht_joinS h (fun (s151 : Bool) => [(0, .v (.string s)), (3, .v (.int .i64 s88)), (4, .v (.int .i64 s89)), (24, .v (.bool s151))]) ?_ ?_
      ·rintro s151 h
       refine pt_then ?_
       refine ht_cond _ rfl (fun hb155 => ?_) (fun hb155 => ?_)
       ·have h := cond_t hb155 h
        refine ht_seq ?_
        refine ht_seq ?_
        refine ht_joinS h (fun (s156 : Bool) => [(0, .v (.string s)), (3, .v (.int .i64 s88)), (4, .v (.int .i64 s89)), (42, .v (.bool s156))]) ?_ ?_
        ·rintro s156 h
         refine pt_then ?_
         refine ht_cond _ rfl (fun hb160 => ?_) (fun hb160 => ?_)
         ·have h := cond_t hb160 h
          refine ht_seq ?_
          refine ht_seqR hn (El := [_, _, _, _, (2, .v (.bool false))]) (init := [0, 1, 2, 3]) (fin := [4]) (sps := [⟨[], [], [4], [(.slot 2)]⟩]) (es' := [(2, .v (.bool false))]) (by kernel_rfl) rfl rfl
           ⟨st_plain rfl (op_assign _ _ _ _ rfl rfl),
           trivial⟩ ?_
          refine pt_then ?_
          refine ht_ret ?_
          refine pt_r_then ?_
          refine pt_r_then ?_
          refine pt_r_in ?_
          refine pt_r_then ?_
          refine pt_r_then ?_
          refine pt_r_in ?_
          refine pt_r_then ?_
          have h := hr150 _ (Option.some.inj h).symm
          have h := hr127 _ (ho128 _ (Option.some.inj h).symm).symm
          obtain rfl := Option.some.inj h
          exact pt_ret hio rfl (.tmp _ _ .nil) rfl rfl
         ·have h := cond_f hb160 h
          refine ht_skip ?_
          refine pt_then ?_
          refine ht_exit ?_
          refine pt_x_then ?_
          refine pt_x_in ?_
          refine pt_pick [0, 1, 2] (by kernel_rfl) (es' := [(_, _), (_, _), (_, _)]) rfl ?_
          exact hl149 _ (Option.some.inj h).symm
        ·intro u157 h hl158 hr159
         obtain ⟨v10, hv10, h⟩ := bind_some h
         obtain ⟨v11, hv11, h⟩ := bind_some h
         refine cond_some h (fun hg8_5 h => ?_) (fun hg8_5 h => ?_)
         ·obtain ⟨v12, hv12, h⟩ := bind_some h
          obtain ⟨v13, hv13, h⟩ := bind_some h
          refine cond_some h (fun hg8_12 h => ?_) (fun hg8_12 h => ?_)
          ·obtain ⟨v14, hv14, h⟩ := bind_some h
           refine ht_seqR hn (El := (_ :: _ :: _ :: _ :: (25, .v (.string s)) :: (26, .v (.int .i64 s89)) :: (27, .v (.int .u8 v10)) :: (28, .v (.bool v11)) :: (29, .v (.bool (!v11))) :: (30, .v (.bool true)) :: (31, .v (.string s)) :: (32, .v (.int .i64 s89)) :: (33, .v (.int .u8 v12)) :: (34, .v (.bool v13)) :: (35, .v (.bool (!v13))) :: (36, .v (.bool (!v13))) :: (37, .v (.bool true)) :: (38, .v (.string s)) :: (39, .v (.int .i64 s89)) :: (40, .v (.int .u8 v14)) :: (41, .v (.bool (v14 != 45))) :: (42, .v (.bool (v14 != 45))) :: [])) (init := [0, 1, 2, 3]) (fin := [0, 1, 2, 21]) (sps := (⟨[0], [], [4], [(.slot 25)]⟩ :: ⟨[2], [], [5], [(.slot 26)]⟩ :: ⟨[4, 5], [], [6], [(.slot 27)]⟩ :: ⟨[6], [], [7], [(.slot 28)]⟩ :: ⟨[7], [], [8], [(.slot 29)]⟩ :: ⟨[8], [], [9], [(.slot 30)]⟩ :: ⟨[9, 0], [], [10], [(.slot 31)]⟩ :: ⟨[9, 2], [], [11], [(.slot 32)]⟩ :: ⟨[9, 10, 11], [], [12], [(.slot 33)]⟩ :: ⟨[9, 12], [], [13], [(.slot 34)]⟩ :: ⟨[9, 13], [], [14], [(.slot 35)]⟩ :: ⟨[9, 14], [], [15], [(.slot 36)]⟩ :: ⟨[15], [], [16], [(.slot 37)]⟩ :: ⟨[16, 0], [], [17], [(.slot 38)]⟩ :: ⟨[16, 2], [], [18], [(.slot 39)]⟩ :: ⟨[16, 17, 18], [], [19], [(.slot 40)]⟩ :: ⟨[16, 19], [], [20], [(.slot 41)]⟩ :: ⟨[16, 20], [], [21], [(.slot 42)]⟩ :: [])) (es' := [(_, _), (_, _), (_, _), (42, .v (.bool (v14 != 45)))]) (by kernel_rfl) rfl rfl
            ⟨st_plain rfl (op_move _ _ _ _ rfl rfl),
            st_plain rfl (op_move _ _ _ _ rfl rfl),
            st_plain rfl (op_chr _ _ _ s89 _ Tryd.underlying9 rfl rfl hv10),
            st_plain rfl (op_call _ _ 35 _ _ rfl Tryd.call35 rfl (ok_wherryref11_letter v10 _ hv11) rfl rfl),
            st_plain rfl (op_un _ _ _ _ rfl rfl),
            st_plain rfl (op_move _ _ _ _ (congrArg (fun b => AV.v (Value.bool b)) hg8_5) rfl),
            st_run 5 30 true rfl rfl rfl (List.Mem.head _) (op_move _ _ _ _ rfl rfl),
            st_run 5 30 true rfl rfl rfl (List.Mem.head _) (op_move _ _ _ _ rfl rfl),
            st_run 5 30 true rfl rfl rfl (List.Mem.head _) (op_chr _ _ _ s89 _ Tryd.underlying9 rfl rfl hv12),
            st_run 5 30 true rfl rfl rfl (List.Mem.head _) (op_call _ _ 36 _ _ rfl Tryd.call36 rfl (ok_wherryref11_digit v12 _ hv13) rfl rfl),
            st_run 5 30 true rfl rfl rfl (List.Mem.head _) (op_un _ _ _ _ rfl rfl),
            st_plain rfl (op_pick _ _ true _ rfl rfl),
            st_plain rfl (op_move _ _ _ _ (congrArg (fun b => AV.v (Value.bool b)) hg8_12) rfl),
            st_run 12 37 true rfl rfl rfl (List.Mem.head _) (op_move _ _ _ _ rfl rfl),
            st_run 12 37 true rfl rfl rfl (List.Mem.head _) (op_move _ _ _ _ rfl rfl),
            st_run 12 37 true rfl rfl rfl (List.Mem.head _) (op_chr _ _ _ s89 _ Tryd.underlying9 rfl rfl hv14),
            st_run 12 37 true rfl rfl rfl (List.Mem.head _) (op_bin _ _ _ _ _ rfl rfl rfl),
            st_plain rfl (op_pick _ _ true _ rfl rfl),
            trivial⟩ ?_
           exact hl158 _ (Option.some.inj h).symm
          ·refine ht_seqR hn (El := (_ :: _ :: _ :: _ :: (25, .v (.string s)) :: (26, .v (.int .i64 s89)) :: (27, .v (.int .u8 v10)) :: (28, .v (.bool v11)) :: (29, .v (.bool (!v11))) :: (30, .v (.bool true)) :: (31, .v (.string s)) :: (32, .v (.int .i64 s89)) :: (33, .v (.int .u8 v12)) :: (34, .v (.bool v13)) :: (35, .v (.bool (!v13))) :: (36, .v (.bool (!v13))) :: (37, .v (.bool false)) :: (38, .v undef) :: (39, .v undef) :: (40, .v undef) :: (41, .v undef) :: (42, .v (.bool false)) :: [])) (init := [0, 1, 2, 3]) (fin := [0, 1, 2, 21]) (sps := (⟨[0], [], [4], [(.slot 25)]⟩ :: ⟨[2], [], [5], [(.slot 26)]⟩ :: ⟨[4, 5], [], [6], [(.slot 27)]⟩ :: ⟨[6], [], [7], [(.slot 28)]⟩ :: ⟨[7], [], [8], [(.slot 29)]⟩ :: ⟨[8], [], [9], [(.slot 30)]⟩ :: ⟨[9, 0], [], [10], [(.slot 31)]⟩ :: ⟨[9, 2], [], [11], [(.slot 32)]⟩ :: ⟨[9, 10, 11], [], [12], [(.slot 33)]⟩ :: ⟨[9, 12], [], [13], [(.slot 34)]⟩ :: ⟨[9, 13], [], [14], [(.slot 35)]⟩ :: ⟨[9, 14], [], [15], [(.slot 36)]⟩ :: ⟨[15], [], [16], [(.slot 37)]⟩ :: ⟨[16], [], [17], [(.slot 38)]⟩ :: ⟨[16], [], [18], [(.slot 39)]⟩ :: ⟨[16], [], [19], [(.slot 40)]⟩ :: ⟨[16], [], [20], [(.slot 41)]⟩ :: ⟨[16], [], [21], [(.slot 42)]⟩ :: [])) (es' := [(_, _), (_, _), (_, _), (42, .v (.bool false))]) (by kernel_rfl) rfl rfl
            ⟨st_plain rfl (op_move _ _ _ _ rfl rfl),
            st_plain rfl (op_move _ _ _ _ rfl rfl),
            st_plain rfl (op_chr _ _ _ s89 _ Tryd.underlying9 rfl rfl hv10),
            st_plain rfl (op_call _ _ 35 _ _ rfl Tryd.call35 rfl (ok_wherryref11_letter v10 _ hv11) rfl rfl),
            st_plain rfl (op_un _ _ _ _ rfl rfl),
            st_plain rfl (op_move _ _ _ _ (congrArg (fun b => AV.v (Value.bool b)) hg8_5) rfl),
            st_run 5 30 true rfl rfl rfl (List.Mem.head _) (op_move _ _ _ _ rfl rfl),
            st_run 5 30 true rfl rfl rfl (List.Mem.head _) (op_move _ _ _ _ rfl rfl),
            st_run 5 30 true rfl rfl rfl (List.Mem.head _) (op_chr _ _ _ s89 _ Tryd.underlying9 rfl rfl hv12),
            st_run 5 30 true rfl rfl rfl (List.Mem.head _) (op_call _ _ 36 _ _ rfl Tryd.call36 rfl (ok_wherryref11_digit v12 _ hv13) rfl rfl),
            st_run 5 30 true rfl rfl rfl (List.Mem.head _) (op_un _ _ _ _ rfl rfl),
            st_plain rfl (op_pick _ _ true _ rfl rfl),
            st_plain rfl (op_move _ _ _ _ (congrArg (fun b => AV.v (Value.bool b)) hg8_12) rfl),
            st_skip 12 37 _ true rfl rfl rfl rfl (List.Mem.head _),
            st_skip 12 37 _ true rfl rfl rfl rfl (List.Mem.head _),
            st_skip 12 37 _ true rfl rfl rfl rfl (List.Mem.head _),
            st_skip 12 37 _ true rfl rfl rfl rfl (List.Mem.head _),
            st_plain rfl (op_pick _ _ false _ rfl rfl),
            trivial⟩ ?_
           exact hl158 _ (Option.some.inj h).symm
         ·refine ht_seqR hn (El := (_ :: _ :: _ :: _ :: (25, .v (.string s)) :: (26, .v (.int .i64 s89)) :: (27, .v (.int .u8 v10)) :: (28, .v (.bool v11)) :: (29, .v (.bool (!v11))) :: (30, .v (.bool false)) :: (31, .v undef) :: (32, .v undef) :: (33, .v undef) :: (34, .v undef) :: (35, .v undef) :: (36, .v (.bool false)) :: (37, .v (.bool false)) :: (38, .v undef) :: (39, .v undef) :: (40, .v undef) :: (41, .v undef) :: (42, .v (.bool false)) :: [])) (init := [0, 1, 2, 3]) (fin := [0, 1, 2, 21]) (sps := (⟨[0], [], [4], [(.slot 25)]⟩ :: ⟨[2], [], [5], [(.slot 26)]⟩ :: ⟨[4, 5], [], [6], [(.slot 27)]⟩ :: ⟨[6], [], [7], [(.slot 28)]⟩ :: ⟨[7], [], [8], [(.slot 29)]⟩ :: ⟨[8], [], [9], [(.slot 30)]⟩ :: ⟨[9], [], [10], [(.slot 31)]⟩ :: ⟨[9], [], [11], [(.slot 32)]⟩ :: ⟨[9], [], [12], [(.slot 33)]⟩ :: ⟨[9], [], [13], [(.slot 34)]⟩ :: ⟨[9], [], [14], [(.slot 35)]⟩ :: ⟨[9], [], [15], [(.slot 36)]⟩ :: ⟨[15], [], [16], [(.slot 37)]⟩ :: ⟨[16], [], [17], [(.slot 38)]⟩ :: ⟨[16], [], [18], [(.slot 39)]⟩ :: ⟨[16], [], [19], [(.slot 40)]⟩ :: ⟨[16], [], [20], [(.slot 41)]⟩ :: ⟨[16], [], [21], [(.slot 42)]⟩ :: [])) (es' := [(_, _), (_, _), (_, _), (42, .v (.bool false))]) (by kernel_rfl) rfl rfl
           ⟨st_plain rfl (op_move _ _ _ _ rfl rfl),
           st_plain rfl (op_move _ _ _ _ rfl rfl),
           st_plain rfl (op_chr _ _ _ s89 _ Tryd.underlying9 rfl rfl hv10),
           st_plain rfl (op_call _ _ 35 _ _ rfl Tryd.call35 rfl (ok_wherryref11_letter v10 _ hv11) rfl rfl),
           st_plain rfl (op_un _ _ _ _ rfl rfl),
           st_plain rfl (op_move _ _ _ _ (congrArg (fun b => AV.v (Value.bool b)) hg8_5) rfl),
           st_skip 5 30 _ true rfl rfl rfl rfl (List.Mem.head _),
           st_skip 5 30 _ true rfl rfl rfl rfl (List.Mem.head _),
           st_skip 5 30 _ true rfl rfl rfl rfl (List.Mem.head _),
           st_skip 5 30 _ true rfl rfl rfl rfl (List.Mem.head _),
           st_skip 5 30 _ true rfl rfl rfl rfl (List.Mem.head _),
           st_plain rfl (op_pick _ _ false _ rfl rfl),
           st_plain rfl (op_move _ _ _ _ rfl rfl),
           st_skip 12 37 _ true rfl rfl rfl rfl (List.Mem.head _),
           st_skip 12 37 _ true rfl rfl rfl rfl (List.Mem.head _),
           st_skip 12 37 _ true rfl rfl rfl rfl (List.Mem.head _),
           st_skip 12 37 _ true rfl rfl rfl rfl (List.Mem.head _),
           st_plain rfl (op_pick _ _ false _ rfl rfl),
           trivial⟩ ?_
          exact hl158 _ (Option.some.inj h).symm
       ·have h := cond_f hb155 h
        refine ht_skip ?_
        refine pt_then ?_
        refine ht_seq ?_
        refine ht_seq ?_
        refine ht_joinS h (fun (s161 : Bool) => [(0, .v (.string s)), (4, .v (.int .i64 s89)), (60, .v (.bool s161))]) ?_ ?_
        ·rintro s161 h
         refine pt_then ?_
         refine ht_cond _ rfl (fun hb165 => ?_) (fun hb165 => ?_)
         ·have h := cond_t hb165 h
          refine ht_seq ?_
          refine ht_seqR hn (El := [_, _, _, (2, .v (.bool false))]) (init := [0, 1, 2]) (fin := [3]) (sps := [⟨[], [], [3], [(.slot 2)]⟩]) (es' := [(2, .v (.bool false))]) (by kernel_rfl) rfl rfl
           ⟨st_plain rfl (op_assign _ _ _ _ rfl rfl),
           trivial⟩ ?_
          refine pt_then ?_
          refine ht_ret ?_
          refine pt_r_then ?_
          refine pt_r_in ?_
          refine pt_r_then ?_
          refine pt_r_then ?_
          refine pt_r_in ?_
          refine pt_r_then ?_
          have h := hr150 _ (Option.some.inj h).symm
          have h := hr127 _ (ho128 _ (Option.some.inj h).symm).symm
          obtain rfl := Option.some.inj h
          exact pt_ret hio rfl (.tmp _ _ .nil) rfl rfl
         ·have h := cond_f hb165 h
          refine ht_skip ?_
          refine pt_then ?_
          obtain ⟨v30, hv30, h⟩ := bind_some h
          refine ht_seqR hn (El := [_, _, _, (61, .v (.int .i64 s89)), (62, .v (.int .i64 v30)), (3, .v (.int .i64 v30))]) (init := [0, 1, 2]) (fin := [0, 1, 5]) (sps := [⟨[1], [], [3], [(.slot 61)]⟩, ⟨[3], [], [4], [(.slot 62)]⟩, ⟨[4], [], [5], [(.slot 3)]⟩]) (es' := [(_, _), (_, _), (3, .v (.int .i64 v30))]) (by kernel_rfl) rfl rfl
           ⟨st_plain rfl (op_move _ _ _ _ rfl rfl),
           st_plain rfl (op_bin _ _ _ _ _ rfl rfl (ibind (f := Value.int .i64) (Option.some.inj hv30))),
           st_plain rfl (op_assign _ _ _ _ rfl rfl),
           trivial⟩ ?_
          refine pt_inb ?_
          refine pt_pick [0, 2, 1] (by kernel_rfl) (es' := [(_, _), (_, _), (_, _)]) rfl ?_
          exact hl149 _ (Option.some.inj h).symm
        ·intro u162 h hl163 hr164
         obtain ⟨v20, hv20, h⟩ := bind_some h
         obtain ⟨v21, hv21, h⟩ := bind_some h
         refine cond_some h (fun hg10_5 h => ?_) (fun hg10_5 h => ?_)
         ·refine ht_seqR hn (El := (_ :: _ :: _ :: _ :: (43, .v (.int .i64 s89)) :: (44, .v (.int .i64 s88)) :: (45, .v (.int .i64 v20)) :: (46, .v (.bool v21)) :: (47, .v (.bool (!v21))) :: (48, .v (.bool true)) :: (49, .v undef) :: (50, .v undef) :: (51, .v undef) :: (52, .v undef) :: (53, .v (.bool true)) :: (54, .v (.bool true)) :: (55, .v undef) :: (56, .v undef) :: (57, .v undef) :: (58, .v undef) :: (59, .v undef) :: (60, .v (.bool true)) :: [])) (init := [0, 1, 2, 3]) (fin := [0, 2, 21]) (sps := (⟨[2], [], [4], [(.slot 43)]⟩ :: ⟨[1], [], [5], [(.slot 44)]⟩ :: ⟨[4, 5], [], [6], [(.slot 45)]⟩ :: ⟨[6], [], [7], [(.slot 46)]⟩ :: ⟨[7], [], [8], [(.slot 47)]⟩ :: ⟨[8], [], [9], [(.slot 48)]⟩ :: ⟨[9], [], [10], [(.slot 49)]⟩ :: ⟨[9], [], [11], [(.slot 50)]⟩ :: ⟨[9], [], [12], [(.slot 51)]⟩ :: ⟨[9], [], [13], [(.slot 52)]⟩ :: ⟨[9], [], [14], [(.slot 53)]⟩ :: ⟨[14], [], [15], [(.slot 54)]⟩ :: ⟨[15], [], [16], [(.slot 55)]⟩ :: ⟨[15], [], [17], [(.slot 56)]⟩ :: ⟨[15], [], [18], [(.slot 57)]⟩ :: ⟨[15], [], [19], [(.slot 58)]⟩ :: ⟨[15], [], [20], [(.slot 59)]⟩ :: ⟨[15], [], [21], [(.slot 60)]⟩ :: [])) (es' := [(_, _), (_, _), (60, .v (.bool true))]) (by kernel_rfl) rfl rfl
           ⟨st_plain rfl (op_move _ _ _ _ rfl rfl),
           st_plain rfl (op_move _ _ _ _ rfl rfl),
           st_plain rfl (op_bin _ _ _ _ _ rfl rfl (ibind (f := Value.int .i64) (Option.some.inj hv20))),
           st_plain rfl (op_call _ _ 34 _ _ rfl Tryd.call34 rfl (ok_wherryref11_in v20 1 63 _ hv21) rfl rfl),
           st_plain rfl (op_un _ _ _ _ rfl rfl),
           st_plain rfl (op_move _ _ _ _ (congrArg (fun b => AV.v (Value.bool b)) hg10_5) rfl),
           st_skip 5 48 _ false rfl rfl rfl rfl (List.Mem.head _),
           st_skip 5 48 _ false rfl rfl rfl rfl (List.Mem.head _),
           st_skip 5 48 _ false rfl rfl rfl rfl (List.Mem.head _),
           st_skip 5 48 _ false rfl rfl rfl rfl (List.Mem.head _),
           st_plain rfl (op_pick _ _ true _ rfl rfl),
           st_plain rfl (op_move _ _ _ _ rfl rfl),
           st_skip 11 54 _ false rfl rfl rfl rfl (List.Mem.head _),
           st_skip 11 54 _ false rfl rfl rfl rfl (List.Mem.head _),
           st_skip 11 54 _ false rfl rfl rfl rfl (List.Mem.head _),
           st_skip 11 54 _ false rfl rfl rfl rfl (List.Mem.head _),
           st_skip 11 54 _ false rfl rfl rfl rfl (List.Mem.head _),
           st_plain rfl (op_pick _ _ true _ rfl rfl),
           trivial⟩ ?_
          exact hl163 _ (Option.some.inj h).symm
         ·obtain ⟨v22, hv22, h⟩ := bind_some h
          refine cond_some h (fun hg10_11 h => ?_) (fun hg10_11 h => ?_)
          ·refine ht_seqR hn (El := (_ :: _ :: _ :: _ :: (43, .v (.int .i64 s89)) :: (44, .v (.int .i64 s88)) :: (45, .v (.int .i64 v20)) :: (46, .v (.bool v21)) :: (47, .v (.bool (!v21))) :: (48, .v (.bool false)) :: (49, .v (.string s)) :: (50, .v (.int .i64 s88)) :: (51, .v (.int .u8 v22)) :: (52, .v (.bool (v22 == 45))) :: (53, .v (.bool (v22 == 45))) :: (54, .v (.bool true)) :: (55, .v undef) :: (56, .v undef) :: (57, .v undef) :: (58, .v undef) :: (59, .v undef) :: (60, .v (.bool true)) :: [])) (init := [0, 1, 2, 3]) (fin := [0, 2, 21]) (sps := (⟨[2], [], [4], [(.slot 43)]⟩ :: ⟨[1], [], [5], [(.slot 44)]⟩ :: ⟨[4, 5], [], [6], [(.slot 45)]⟩ :: ⟨[6], [], [7], [(.slot 46)]⟩ :: ⟨[7], [], [8], [(.slot 47)]⟩ :: ⟨[8], [], [9], [(.slot 48)]⟩ :: ⟨[9, 0], [], [10], [(.slot 49)]⟩ :: ⟨[9, 1], [], [11], [(.slot 50)]⟩ :: ⟨[9, 10, 11], [], [12], [(.slot 51)]⟩ :: ⟨[9, 12], [], [13], [(.slot 52)]⟩ :: ⟨[9, 13], [], [14], [(.slot 53)]⟩ :: ⟨[14], [], [15], [(.slot 54)]⟩ :: ⟨[15], [], [16], [(.slot 55)]⟩ :: ⟨[15], [], [17], [(.slot 56)]⟩ :: ⟨[15], [], [18], [(.slot 57)]⟩ :: ⟨[15], [], [19], [(.slot 58)]⟩ :: ⟨[15], [], [20], [(.slot 59)]⟩ :: ⟨[15], [], [21], [(.slot 60)]⟩ :: [])) (es' := [(_, _), (_, _), (60, .v (.bool true))]) (by kernel_rfl) rfl rfl
            ⟨st_plain rfl (op_move _ _ _ _ rfl rfl),
            st_plain rfl (op_move _ _ _ _ rfl rfl),
            st_plain rfl (op_bin _ _ _ _ _ rfl rfl (ibind (f := Value.int .i64) (Option.some.inj hv20))),
            st_plain rfl (op_call _ _ 34 _ _ rfl Tryd.call34 rfl (ok_wherryref11_in v20 1 63 _ hv21) rfl rfl),
            st_plain rfl (op_un _ _ _ _ rfl rfl),
            st_plain rfl (op_move _ _ _ _ (congrArg (fun b => AV.v (Value.bool b)) hg10_5) rfl),
            st_run 5 48 false rfl rfl rfl (List.Mem.head _) (op_move _ _ _ _ rfl rfl),
            st_run 5 48 false rfl rfl rfl (List.Mem.head _) (op_move _ _ _ _ rfl rfl),
            st_run 5 48 false rfl rfl rfl (List.Mem.head _) (op_chr _ _ _ s88 _ Tryd.underlying9 rfl rfl hv22),
            st_run 5 48 false rfl rfl rfl (List.Mem.head _) (op_bin _ _ _ _ _ rfl rfl rfl),
            st_plain rfl (op_pick _ _ false _ rfl rfl),
            st_plain rfl (op_move _ _ _ _ (congrArg (fun b => AV.v (Value.bool b)) hg10_11) rfl),
            st_skip 11 54 _ false rfl rfl rfl rfl (List.Mem.head _),
            st_skip 11 54 _ false rfl rfl rfl rfl (List.Mem.head _),
            st_skip 11 54 _ false rfl rfl rfl rfl (List.Mem.head _),
            st_skip 11 54 _ false rfl rfl rfl rfl (List.Mem.head _),
            st_skip 11 54 _ false rfl rfl rfl rfl (List.Mem.head _),
            st_plain rfl (op_pick _ _ true _ rfl rfl),
            trivial⟩ ?_
           exact hl163 _ (Option.some.inj h).symm
          ·obtain ⟨v23, hv23, h⟩ := bind_some h
           obtain ⟨v24, hv24, h⟩ := bind_some h
           refine ht_seqR hn (El := (_ :: _ :: _ :: _ :: (43, .v (.int .i64 s89)) :: (44, .v (.int .i64 s88)) :: (45, .v (.int .i64 v20)) :: (46, .v (.bool v21)) :: (47, .v (.bool (!v21))) :: (48, .v (.bool false)) :: (49, .v (.string s)) :: (50, .v (.int .i64 s88)) :: (51, .v (.int .u8 v22)) :: (52, .v (.bool (v22 == 45))) :: (53, .v (.bool (v22 == 45))) :: (54, .v (.bool false)) :: (55, .v (.string s)) :: (56, .v (.int .i64 s89)) :: (57, .v (.int .i64 v23)) :: (58, .v (.int .u8 v24)) :: (59, .v (.bool (v24 == 45))) :: (60, .v (.bool (v24 == 45))) :: [])) (init := [0, 1, 2, 3]) (fin := [0, 2, 21]) (sps := (⟨[2], [], [4], [(.slot 43)]⟩ :: ⟨[1], [], [5], [(.slot 44)]⟩ :: ⟨[4, 5], [], [6], [(.slot 45)]⟩ :: ⟨[6], [], [7], [(.slot 46)]⟩ :: ⟨[7], [], [8], [(.slot 47)]⟩ :: ⟨[8], [], [9], [(.slot 48)]⟩ :: ⟨[9, 0], [], [10], [(.slot 49)]⟩ :: ⟨[9, 1], [], [11], [(.slot 50)]⟩ :: ⟨[9, 10, 11], [], [12], [(.slot 51)]⟩ :: ⟨[9, 12], [], [13], [(.slot 52)]⟩ :: ⟨[9, 13], [], [14], [(.slot 53)]⟩ :: ⟨[14], [], [15], [(.slot 54)]⟩ :: ⟨[15, 0], [], [16], [(.slot 55)]⟩ :: ⟨[15, 2], [], [17], [(.slot 56)]⟩ :: ⟨[15, 17], [], [18], [(.slot 57)]⟩ :: ⟨[15, 16, 18], [], [19], [(.slot 58)]⟩ :: ⟨[15, 19], [], [20], [(.slot 59)]⟩ :: ⟨[15, 20], [], [21], [(.slot 60)]⟩ :: [])) (es' := [(_, _), (_, _), (60, .v (.bool (v24 == 45)))]) (by kernel_rfl) rfl rfl
            ⟨st_plain rfl (op_move _ _ _ _ rfl rfl),
            st_plain rfl (op_move _ _ _ _ rfl rfl),
            st_plain rfl (op_bin _ _ _ _ _ rfl rfl (ibind (f := Value.int .i64) (Option.some.inj hv20))),
            st_plain rfl (op_call _ _ 34 _ _ rfl Tryd.call34 rfl (ok_wherryref11_in v20 1 63 _ hv21) rfl rfl),
            st_plain rfl (op_un _ _ _ _ rfl rfl),
            st_plain rfl (op_move _ _ _ _ (congrArg (fun b => AV.v (Value.bool b)) hg10_5) rfl),
            st_run 5 48 false rfl rfl rfl (List.Mem.head _) (op_move _ _ _ _ rfl rfl),
            st_run 5 48 false rfl rfl rfl (List.Mem.head _) (op_move _ _ _ _ rfl rfl),
            st_run 5 48 false rfl rfl rfl (List.Mem.head _) (op_chr _ _ _ s88 _ Tryd.underlying9 rfl rfl hv22),
            st_run 5 48 false rfl rfl rfl (List.Mem.head _) (op_bin _ _ _ _ _ rfl rfl rfl),
            st_plain rfl (op_pick _ _ false _ rfl rfl),
            st_plain rfl (op_move _ _ _ _ (congrArg (fun b => AV.v (Value.bool b)) hg10_11) rfl),
            st_run 11 54 false rfl rfl rfl (List.Mem.head _) (op_move _ _ _ _ rfl rfl),
            st_run 11 54 false rfl rfl rfl (List.Mem.head _) (op_move _ _ _ _ rfl rfl),
            st_run 11 54 false rfl rfl rfl (List.Mem.head _) (op_bin _ _ _ _ _ rfl rfl (ibind (f := Value.int .i64) (Option.some.inj hv23))),
            st_run 11 54 false rfl rfl rfl (List.Mem.head _) (op_chr _ _ _ v23 _ Tryd.underlying9 rfl rfl hv24),
            st_run 11 54 false rfl rfl rfl (List.Mem.head _) (op_bin _ _ _ _ _ rfl rfl rfl),
            st_plain rfl (op_pick _ _ false _ rfl rfl),
            trivial⟩ ?_
           exact hl163 _ (Option.some.inj h).symm
      ·intro u152 h hl153 hr154
       refine cond_some h (fun hg7_4 h => ?_) (fun hg7_4 h => ?_)
       ·obtain ⟨v4, hv4, h⟩ := bind_some h
        refine ht_seqR hn (El := [_, _, _, _, (15, .v (.int .i64 s89)), (16, .v (.string s)), (17, .v (.int .i64 (s.size : Int))), (18, .v (.bool ((decide (s89 < (s.size : Int)))))), (19, .v (.bool true)), (20, .v (.string s)), (21, .v (.int .i64 s89)), (22, .v (.int .u8 v4)), (23, .v (.bool (v4 != 46))), (24, .v (.bool (v4 != 46)))]) (init := [0, 1, 2, 3]) (fin := [0, 1, 2, 13]) (sps := [⟨[2], [], [4], [(.slot 15)]⟩, ⟨[0], [], [5], [(.slot 16)]⟩, ⟨[5], [], [6], [(.slot 17)]⟩, ⟨[4, 6], [], [7], [(.slot 18)]⟩, ⟨[7], [], [8], [(.slot 19)]⟩, ⟨[8, 0], [], [9], [(.slot 20)]⟩, ⟨[8, 2], [], [10], [(.slot 21)]⟩, ⟨[8, 9, 10], [], [11], [(.slot 22)]⟩, ⟨[8, 11], [], [12], [(.slot 23)]⟩, ⟨[8, 12], [], [13], [(.slot 24)]⟩]) (es' := [(_, _), (_, _), (_, _), (24, .v (.bool (v4 != 46)))]) (by kernel_rfl) rfl rfl
         ⟨st_plain rfl (op_move _ _ _ _ rfl rfl),
         st_plain rfl (op_move _ _ _ _ rfl rfl),
         st_plain rfl (op_len_str _ _ _ Tryd.underlying9 rfl),
         st_plain rfl (op_bin _ _ _ _ _ rfl rfl rfl),
         st_plain rfl (op_move _ _ _ _ (congrArg (fun b => AV.v (Value.bool b)) hg7_4) rfl),
         st_run 4 19 true rfl rfl rfl (List.Mem.head _) (op_move _ _ _ _ rfl rfl),
         st_run 4 19 true rfl rfl rfl (List.Mem.head _) (op_move _ _ _ _ rfl rfl),
         st_run 4 19 true rfl rfl rfl (List.Mem.head _) (op_chr _ _ _ s89 _ Tryd.underlying9 rfl rfl hv4),
         st_run 4 19 true rfl rfl rfl (List.Mem.head _) (op_bin _ _ _ _ _ rfl rfl rfl),
         st_plain rfl (op_pick _ _ true _ rfl rfl),
         trivial⟩ ?_
        exact hl153 _ (Option.some.inj h).symm
       ·refine ht_seqR hn (El := [_, _, _, _, (15, .v (.int .i64 s89)), (16, .v (.string s)), (17, .v (.int .i64 (s.size : Int))), (18, .v (.bool ((decide (s89 < (s.size : Int)))))), (19, .v (.bool false)), (20, .v undef), (21, .v undef), (22, .v undef), (23, .v undef), (24, .v (.bool false))]) (init := [0, 1, 2, 3]) (fin := [0, 1, 2, 13]) (sps := [⟨[2], [], [4], [(.slot 15)]⟩, ⟨[0], [], [5], [(.slot 16)]⟩, ⟨[5], [], [6], [(.slot 17)]⟩, ⟨[4, 6], [], [7], [(.slot 18)]⟩, ⟨[7], [], [8], [(.slot 19)]⟩, ⟨[8], [], [9], [(.slot 20)]⟩, ⟨[8], [], [10], [(.slot 21)]⟩, ⟨[8], [], [11], [(.slot 22)]⟩, ⟨[8], [], [12], [(.slot 23)]⟩, ⟨[8], [], [13], [(.slot 24)]⟩]) (es' := [(_, _), (_, _), (_, _), (24, .v (.bool false))]) (by kernel_rfl) rfl rfl
         ⟨st_plain rfl (op_move _ _ _ _ rfl rfl),
         st_plain rfl (op_move _ _ _ _ rfl rfl),
         st_plain rfl (op_len_str _ _ _ Tryd.underlying9 rfl),
         st_plain rfl (op_bin _ _ _ _ _ rfl rfl rfl),
         st_plain rfl (op_move _ _ _ _ (congrArg (fun b => AV.v (Value.bool b)) hg7_4) rfl),
         st_skip 4 19 _ true rfl rfl rfl rfl (List.Mem.head _),
         st_skip 4 19 _ true rfl rfl rfl rfl (List.Mem.head _),
         st_skip 4 19 _ true rfl rfl rfl rfl (List.Mem.head _),
         st_skip 4 19 _ true rfl rfl rfl rfl (List.Mem.head _),
         st_plain rfl (op_pick _ _ false _ rfl rfl),
         trivial⟩ ?_
        exact hl153 _ (Option.some.inj h).symm
    ·have h := cond_f hb131 h
     refine ht_exit ?_
     refine pt_x_then ?_
     refine pt_x_then ?_
     refine pt_x_in ?_
     refine pt_pick [] (by kernel_rfl) (es' := []) rfl ?_
     exact hl126 _ (ho128 _ (Option.some.inj h).symm).symm

set_option maxHeartbeats 1000000 in
theorem ok_wherryref11_Path (p : T_Path) (r : Bool) (h : Sh.wherryref11_Path p = some r) : FnOK Tryd.prog 12 [.agg [.v (.bool p.Null), .v (.string p.Local), .v (.string p.Domain)]] (.v (.bool r)) := by
  unfold Sh.wherryref11_Path at h
  refine fn_ok Tryd.func12 rfl (Nat.le_of_ble_eq_true rfl) rfl rfl fun g0 hn hio => ?_
  refine ht_seq ?_
  refine ht_seqR hn (El := [_, (1, .box 23 [.v (.bool p.Null), .v (.string p.Local), .v (.string p.Domain)]), (2, .v (.bool false))]) (init := [0]) (fin := [1]) (sps := [⟨[0], [], [1], [(.slot 1)]⟩, ⟨[], [], [2], [(.slot 2)]⟩]) (es' := [(1, .box 23 [.v (.bool p.Null), .v (.string p.Local), .v (.string p.Domain)])]) (by kernel_rfl) rfl rfl
   ⟨st_plain rfl (op_box _ _ _ _ rfl rfl rfl),
   st_plain rfl (op_assign _ _ _ _ rfl rfl),
   trivial⟩ ?_
  refine pt_then ?_
  refine ht_seq ?_
  refine ht_seq ?_
  refine ht_seqR hn (El := [_, (3, .ptr 1 0), (4, .v (.bool p.Null))]) (init := [0]) (fin := [0, 2]) (sps := [⟨[0], [], [1], [(.slot 3)]⟩, ⟨[1, 0], [], [2], [(.slot 4)]⟩]) (es' := [(_, _), (4, .v (.bool p.Null))]) (by kernel_rfl) rfl rfl
   ⟨st_plain rfl (op_fieldAddr _ _ _ _ 1 0 _ Tryd.underlying23 rfl sz4 rfl rfl (by decide)),
   st_plain rfl (op_load _ _ _ _ _ _ Tryd.underlying4 rfl rfl rfl (Nat.le_of_ble_eq_true rfl) rfl rfl rfl),
   trivial⟩ ?_
  refine pt_then ?_
  refine ht_cond _ rfl (fun hb1 => ?_) (fun hb1 => ?_)
  ·have h := cond_t hb1 h
   refine ht_seq ?_
   refine ht_joinS h (fun (s2 : Bool) => [(2, .v (.bool s2))]) ?_ ?_
   ·rintro s2 h
    refine pt_then ?_
    refine ht_ret ?_
    refine pt_r_then ?_
    obtain rfl := Option.some.inj h
    exact pt_ret hio rfl (.tmp _ _ .nil) rfl rfl
   ·intro u3 h hl4 hr5
    refine cond_some h (fun hg2_3 h => ?_) (fun hg2_3 h => ?_)
    ·refine ht_seqR hn (El := [_, _, (5, .ptr 1 1), (6, .v (.string p.Local)), (7, .v (.bool ((p.Local.toList == (⟨#[]⟩ : ByteArray).toList)))), (8, .v (.bool true)), (9, .ptr 1 2), (10, .v (.string p.Domain)), (11, .v (.bool ((p.Domain.toList == (⟨#[]⟩ : ByteArray).toList)))), (12, .v (.bool ((p.Domain.toList == (⟨#[]⟩ : ByteArray).toList)))), (2, .v (.bool ((p.Domain.toList == (⟨#[]⟩ : ByteArray).toList))))]) (init := [0, 1]) (fin := [10]) (sps := [⟨[0], [], [2], [(.slot 5)]⟩, ⟨[2, 0], [], [3], [(.slot 6)]⟩, ⟨[3], [], [4], [(.slot 7)]⟩, ⟨[4], [], [5], [(.slot 8)]⟩, ⟨[5, 0], [], [6], [(.slot 9)]⟩, ⟨[5, 6, 0], [], [7], [(.slot 10)]⟩, ⟨[5, 7], [], [8], [(.slot 11)]⟩, ⟨[5, 8], [], [9], [(.slot 12)]⟩, ⟨[9], [], [10], [(.slot 2)]⟩]) (es' := [(2, .v (.bool ((p.Domain.toList == (⟨#[]⟩ : ByteArray).toList))))]) (by kernel_rfl) rfl rfl
      ⟨st_plain rfl (op_fieldAddr _ _ _ _ 1 0 _ Tryd.underlying23 rfl sz9 rfl rfl (by decide)),
      st_plain rfl (op_load _ _ _ _ _ _ Tryd.underlying9 rfl rfl rfl (Nat.le_of_ble_eq_true rfl) rfl rfl rfl),
      st_plain rfl (op_bin _ _ _ _ _ rfl rfl rfl),
      st_plain rfl (op_move _ _ _ _ (congrArg (fun b => AV.v (Value.bool b)) hg2_3) rfl),
      st_run 3 8 true rfl rfl rfl (List.Mem.head _) (op_fieldAddr _ _ _ _ 1 0 _ Tryd.underlying23 rfl sz9 rfl rfl (by decide)),
      st_run 3 8 true rfl rfl rfl (List.Mem.head _) (op_load _ _ _ _ _ _ Tryd.underlying9 rfl rfl rfl (Nat.le_of_ble_eq_true rfl) rfl rfl rfl),
      st_run 3 8 true rfl rfl rfl (List.Mem.head _) (op_bin _ _ _ _ _ rfl rfl rfl),
      st_plain rfl (op_pick _ _ true _ rfl rfl),
      st_plain rfl (op_assign _ _ _ _ rfl rfl),
      trivial⟩ ?_
     exact hl4 _ (Option.some.inj h).symm
    ·refine ht_seqR hn (El := [_, _, (5, .ptr 1 1), (6, .v (.string p.Local)), (7, .v (.bool ((p.Local.toList == (⟨#[]⟩ : ByteArray).toList)))), (8, .v (.bool false)), (9, .v undef), (10, .v undef), (11, .v undef), (12, .v (.bool false)), (2, .v (.bool false))]) (init := [0, 1]) (fin := [10]) (sps := [⟨[0], [], [2], [(.slot 5)]⟩, ⟨[2, 0], [], [3], [(.slot 6)]⟩, ⟨[3], [], [4], [(.slot 7)]⟩, ⟨[4], [], [5], [(.slot 8)]⟩, ⟨[5], [], [6], [(.slot 9)]⟩, ⟨[5], [], [7], [(.slot 10)]⟩, ⟨[5], [], [8], [(.slot 11)]⟩, ⟨[5], [], [9], [(.slot 12)]⟩, ⟨[9], [], [10], [(.slot 2)]⟩]) (es' := [(2, .v (.bool false))]) (by kernel_rfl) rfl rfl
      ⟨st_plain rfl (op_fieldAddr _ _ _ _ 1 0 _ Tryd.underlying23 rfl sz9 rfl rfl (by decide)),
      st_plain rfl (op_load _ _ _ _ _ _ Tryd.underlying9 rfl rfl rfl (Nat.le_of_ble_eq_true rfl) rfl rfl rfl),
      st_plain rfl (op_bin _ _ _ _ _ rfl rfl rfl),
      st_plain rfl (op_move _ _ _ _ (congrArg (fun b => AV.v (Value.bool b)) hg2_3) rfl),
      st_skip 3 8 _ true rfl rfl rfl rfl (List.Mem.head _),
      st_skip 3 8 _ true rfl rfl rfl rfl (List.Mem.head _),
      st_skip 3 8 _ true rfl rfl rfl rfl (List.Mem.head _),
      st_plain rfl (op_pick _ _ false _ rfl rfl),
      st_plain rfl (op_assign _ _ _ _ rfl rfl),
      trivial⟩ ?_
     exact hl4 _ (Option.some.inj h).symm
  ·have h := cond_f hb1 h
   refine ht_skip ?_
   refine pt_then ?_
   refine ht_seq ?_
   refine ht_joinS h (fun (s8 : Bool) => [(2, .v (.bool s8))]) ?_ ?_
   ·rintro s8 h
    refine pt_then ?_
    refine ht_ret ?_
    obtain rfl := Option.some.inj h
    exact pt_ret hio rfl (.tmp _ _ .nil) rfl rfl
   ·intro u9 h hl10 hr11
    obtain ⟨v6, hv6, h⟩ := bind_some h
    refine cond_some h (fun hg3_3 h => ?_) (fun hg3_3 h => ?_)
    ·obtain ⟨v7, hv7, h⟩ := bind_some h
     refine ht_seqR hn (El := [_, _, (13, .ptr 1 1), (14, .v (.string p.Local)), (15, .v (.bool v6)), (16, .v (.bool true)), (17, .ptr 1 2), (18, .v (.string p.Domain)), (19, .v (.bool v7)), (20, .v (.bool v7)), (2, .v (.bool v7))]) (init := [0, 1]) (fin := [10]) (sps := [⟨[0], [], [2], [(.slot 13)]⟩, ⟨[2, 0], [], [3], [(.slot 14)]⟩, ⟨[3], [], [4], [(.slot 15)]⟩, ⟨[4], [], [5], [(.slot 16)]⟩, ⟨[5, 0], [], [6], [(.slot 17)]⟩, ⟨[5, 6, 0], [], [7], [(.slot 18)]⟩, ⟨[5, 7], [], [8], [(.slot 19)]⟩, ⟨[5, 8], [], [9], [(.slot 20)]⟩, ⟨[9], [], [10], [(.slot 2)]⟩]) (es' := [(2, .v (.bool v7))]) (by kernel_rfl) rfl rfl
      ⟨st_plain rfl (op_fieldAddr _ _ _ _ 1 0 _ Tryd.underlying23 rfl sz9 rfl rfl (by decide)),
      st_plain rfl (op_load _ _ _ _ _ _ Tryd.underlying9 rfl rfl rfl (Nat.le_of_ble_eq_true rfl) rfl rfl rfl),
      st_plain rfl (op_call _ _ 30 _ _ rfl Tryd.call30 rfl (ok_wherryref11_Local p.Local _ hv6) rfl rfl),
      st_plain rfl (op_move _ _ _ _ (congrArg (fun b => AV.v (Value.bool b)) hg3_3) rfl),
      st_run 3 16 true rfl rfl rfl (List.Mem.head _) (op_fieldAddr _ _ _ _ 1 0 _ Tryd.underlying23 rfl sz9 rfl rfl (by decide)),
      st_run 3 16 true rfl rfl rfl (List.Mem.head _) (op_load _ _ _ _ _ _ Tryd.underlying9 rfl rfl rfl (Nat.le_of_ble_eq_true rfl) rfl rfl rfl),
      st_run 3 16 true rfl rfl rfl (List.Mem.head _) (op_call _ _ 15 _ _ rfl Tryd.call15 rfl (ok_wherryref11_Domain p.Domain _ hv7) rfl rfl),
      st_plain rfl (op_pick _ _ true _ rfl rfl),
      st_plain rfl (op_assign _ _ _ _ rfl rfl),
      trivial⟩ ?_
     exact hl10 _ (Option.some.inj h).symm
    ·refine ht_seqR hn (El := [_, _, (13, .ptr 1 1), (14, .v (.string p.Local)), (15, .v (.bool v6)), (16, .v (.bool false)), (17, .v undef), (18, .v undef), (19, .v undef), (20, .v (.bool false)), (2, .v (.bool false))]) (init := [0, 1]) (fin := [10]) (sps := [⟨[0], [], [2], [(.slot 13)]⟩, ⟨[2, 0], [], [3], [(.slot 14)]⟩, ⟨[3], [], [4], [(.slot 15)]⟩, ⟨[4], [], [5], [(.slot 16)]⟩, ⟨[5], [], [6], [(.slot 17)]⟩, ⟨[5], [], [7], [(.slot 18)]⟩, ⟨[5], [], [8], [(.slot 19)]⟩, ⟨[5], [], [9], [(.slot 20)]⟩, ⟨[9], [], [10], [(.slot 2)]⟩]) (es' := [(2, .v (.bool false))]) (by kernel_rfl) rfl rfl
      ⟨st_plain rfl (op_fieldAddr _ _ _ _ 1 0 _ Tryd.underlying23 rfl sz9 rfl rfl (by decide)),
      st_plain rfl (op_load _ _ _ _ _ _ Tryd.underlying9 rfl rfl rfl (Nat.le_of_ble_eq_true rfl) rfl rfl rfl),
      st_plain rfl (op_call _ _ 30 _ _ rfl Tryd.call30 rfl (ok_wherryref11_Local p.Local _ hv6) rfl rfl),
      st_plain rfl (op_move _ _ _ _ (congrArg (fun b => AV.v (Value.bool b)) hg3_3) rfl),
      st_skip 3 16 _ true rfl rfl rfl rfl (List.Mem.head _),
      st_skip 3 16 _ true rfl rfl rfl rfl (List.Mem.head _),
      st_skip 3 16 _ true rfl rfl rfl rfl (List.Mem.head _),
      st_plain rfl (op_pick _ _ false _ rfl rfl),
      st_plain rfl (op_assign _ _ _ _ rfl rfl),
      trivial⟩ ?_
     exact hl10 _ (Option.some.inj h).symm

set_option maxHeartbeats 1000000 in
theorem ok_wherryref11_keep (p : T_Path) (ok : Bool) (r : (T_Path × Bool)) (h : Sh.wherryref11_keep p ok = some r) : FnOK Tryd.prog 29 [.agg [.v (.bool p.Null), .v (.string p.Local), .v (.string p.Domain)], .v (.bool ok)] (.tup [.agg [.v (.bool r.1.Null), .v (.string r.1.Local), .v (.string r.1.Domain)], .v (.bool r.2)]) := by
  unfold Sh.wherryref11_keep at h
  refine fn_ok Tryd.func29 rfl (Nat.le_of_ble_eq_true rfl) rfl rfl fun g0 hn hio => ?_
  refine ht_seq ?_
  refine ht_seqR hn (El := [_, _, (2, .box 23 [.v (.bool p.Null), .v (.string p.Local), .v (.string p.Domain)]), (4, .box 23 [.v (.bool false), .v (.string (⟨#[]⟩ : ByteArray)), .v (.string (⟨#[]⟩ : ByteArray))]), (5, .v (.bool false))]) (init := [0, 1]) (fin := [1, 2, 3]) (sps := [⟨[0], [], [2], [(.slot 2)]⟩, ⟨[], [], [3], [(.slot 4)]⟩, ⟨[], [], [4], [(.slot 5)]⟩]) (es' := [(_, _), (2, .box 23 [.v (.bool p.Null), .v (.string p.Local), .v (.string p.Domain)]), (4, .box 23 [.v (.bool false), .v (.string (⟨#[]⟩ : ByteArray)), .v (.string (⟨#[]⟩ : ByteArray))])]) (by kernel_rfl) rfl rfl
   ⟨st_plain rfl (op_box _ _ _ _ rfl rfl rfl),
   st_plain rfl (op_alloc _ _ zr23),
   st_plain rfl (op_assign _ _ _ _ rfl rfl),
   trivial⟩ ?_
  refine pt_then ?_
  refine ht_seq ?_
  refine ht_seq ?_
  refine ht_seqR hn (El := [_, _, _, (6, .v (.bool ok)), (7, .v (.bool (!ok)))]) (init := [0, 1, 2]) (fin := [1, 2, 4]) (sps := [⟨[0], [], [3], [(.slot 6)]⟩, ⟨[3], [], [4], [(.slot 7)]⟩]) (es' := [(_, _), (_, _), (7, .v (.bool (!ok)))]) (by kernel_rfl) rfl rfl
   ⟨st_plain rfl (op_move _ _ _ _ rfl rfl),
   st_plain rfl (op_un _ _ _ _ rfl rfl),
   trivial⟩ ?_
  refine pt_then ?_
  refine ht_cond _ rfl (fun hb1 => ?_) (fun hb1 => ?_)
  ·have h := cond_t hb1 h
   refine ht_seq ?_
   refine ht_seqR hn (El := [_, _, _, (8, .agg [.v (.bool false), .v (.string (⟨#[]⟩ : ByteArray)), .v (.string (⟨#[]⟩ : ByteArray))]), (4, .box 23 [.v (.bool false), .v (.string (⟨#[]⟩ : ByteArray)), .v (.string (⟨#[]⟩ : ByteArray))]), (5, .v (.bool false))]) (init := [0, 1, 2]) (fin := [4, 5]) (sps := [⟨[], [], [3], [(.slot 8)]⟩, ⟨[], [3, 1], [4], [.cell 4 0, .cell 4 1, .cell 4 2]⟩, ⟨[], [], [5], [(.slot 5)]⟩]) (es' := [(4, .box 23 [.v (.bool false), .v (.string (⟨#[]⟩ : ByteArray)), .v (.string (⟨#[]⟩ : ByteArray))]), (5, .v (.bool false))]) (by kernel_rfl) rfl rfl
    ⟨st_plain rfl (op_build _ _ _ _ [1, 1, 1] _ _ Tryd.underlying23 zr23 (fs23 _ Tryd.underlying23) Src.nil rfl rfl rfl),
    st_plain rfl (op_store_self _ _ _ 8 4 3 sz23 rfl rfl rfl rfl rfl (.eq _ (.eq _ (.eq _ (.nil _)))) rfl),
    st_plain rfl (op_assign _ _ _ _ rfl rfl),
    trivial⟩ ?_
   refine pt_then ?_
   refine ht_ret ?_
   refine pt_r_then ?_
   obtain rfl := Option.some.inj h
   exact pt_ret hio rfl (.cellA _ _ _ _ Tryd.underlying23 rfl sz23 (.tmp _ _ .nil)) rfl rfl
  ·have h := cond_f hb1 h
   refine ht_skip ?_
   refine pt_then ?_
   refine ht_seq ?_
   refine ht_seqR hn (El := [_, _, _, (9, .agg [.v (.bool p.Null), .v (.string p.Local), .v (.string p.Domain)]), (4, .box 23 [.v (.bool p.Null), .v (.string p.Local), .v (.string p.Domain)]), (5, .v (.bool true))]) (init := [0, 1, 2]) (fin := [4, 5]) (sps := [⟨[0], [], [3], [(.slot 9)]⟩, ⟨[3], [1], [4], [.cell 4 0, .cell 4 1, .cell 4 2]⟩, ⟨[], [], [5], [(.slot 5)]⟩]) (es' := [(4, .box 23 [.v (.bool p.Null), .v (.string p.Local), .v (.string p.Domain)]), (5, .v (.bool true))]) (by kernel_rfl) rfl rfl
    ⟨st_plain rfl (op_loadA _ _ _ _ _ _ _ Tryd.underlying23 rfl sz23 rfl rfl (Nat.le_of_ble_eq_true rfl) rfl rfl),
    st_plain rfl (op_store _ _ _ _ _ _ _ _ sz23 rfl rfl rfl rfl (Nat.le_of_ble_eq_true rfl) rfl rfl),
    st_plain rfl (op_assign _ _ _ _ rfl rfl),
    trivial⟩ ?_
   refine pt_then ?_
   refine ht_ret ?_
   obtain rfl := Option.some.inj h
   exact pt_ret hio rfl (.cellA _ _ _ _ Tryd.underlying23 rfl sz23 (.tmp _ _ .nil)) rfl rfl

set_option maxHeartbeats 1000000 in
theorem ok_wherryref11_Parse (s : ByteArray) (r : (T_Path × Bool)) (h : Sh.wherryref11_Parse s = some r) : FnOK Tryd.prog 10 [.v (.string s)] (.tup [.agg [.v (.bool r.1.Null), .v (.string r.1.Local), .v (.string r.1.Domain)], .v (.bool r.2)]) := by
  unfold Sh.wherryref11_Parse at h
  refine fn_ok Tryd.func10 rfl (Nat.le_of_ble_eq_true rfl) rfl rfl fun g0 hn hio => ?_
  refine ht_seq ?_
  refine ht_seqR hn (El := [_, (2, .box 23 [.v (.bool false), .v (.string (⟨#[]⟩ : ByteArray)), .v (.string (⟨#[]⟩ : ByteArray))]), (3, .v (.bool false))]) (init := [0]) (fin := [0, 1]) (sps := [⟨[], [], [1], [(.slot 2)]⟩, ⟨[], [], [2], [(.slot 3)]⟩]) (es' := [(_, _), (2, .box 23 [.v (.bool false), .v (.string (⟨#[]⟩ : ByteArray)), .v (.string (⟨#[]⟩ : ByteArray))])]) (by kernel_rfl) rfl rfl
   ⟨st_plain rfl (op_alloc _ _ zr23),
   st_plain rfl (op_assign _ _ _ _ rfl rfl),
   trivial⟩ ?_
  refine pt_then ?_
  refine ht_seq ?_
  refine ht_seq ?_
  refine ht_seqR hn (El := [_, _, (6, .v (.string s)), (7, .v (.bool ((s.toList == (⟨#[60, 62]⟩ : ByteArray).toList))))]) (init := [0, 1]) (fin := [0, 1, 3]) (sps := [⟨[0], [], [2], [(.slot 6)]⟩, ⟨[2], [], [3], [(.slot 7)]⟩]) (es' := [(_, _), (_, _), (7, .v (.bool ((s.toList == (⟨#[60, 62]⟩ : ByteArray).toList))))]) (by kernel_rfl) rfl rfl
   ⟨st_plain rfl (op_move _ _ _ _ rfl rfl),
   st_plain rfl (op_bin _ _ _ _ _ rfl rfl rfl),
   trivial⟩ ?_
  refine pt_then ?_
  refine ht_cond _ rfl (fun hb1 => ?_) (fun hb1 => ?_)
  ·have h := cond_t hb1 h
   refine ht_seq ?_
   refine ht_seqR hn (El := [_, _, _, (8, .agg [.v (.bool true), .v (.string (⟨#[]⟩ : ByteArray)), .v (.string (⟨#[]⟩ : ByteArray))]), (2, .box 23 [.v (.bool true), .v (.string (⟨#[]⟩ : ByteArray)), .v (.string (⟨#[]⟩ : ByteArray))]), (3, .v (.bool true))]) (init := [0, 1, 2]) (fin := [4, 5]) (sps := [⟨[], [], [3], [(.slot 8)]⟩, ⟨[3], [1], [4], [.cell 2 0, .cell 2 1, .cell 2 2]⟩, ⟨[], [], [5], [(.slot 3)]⟩]) (es' := [(2, .box 23 [.v (.bool true), .v (.string (⟨#[]⟩ : ByteArray)), .v (.string (⟨#[]⟩ : ByteArray))]), (3, .v (.bool true))]) (by kernel_rfl) rfl rfl
    ⟨st_plain rfl (op_build _ _ _ _ [1, 1, 1] _ _ Tryd.underlying23 zr23 (fs23 _ Tryd.underlying23) (.copy _ Src.nil) rfl rfl rfl),
    st_plain rfl (op_store _ _ _ _ _ _ _ _ sz23 rfl rfl rfl rfl (Nat.le_of_ble_eq_true rfl) rfl rfl),
    st_plain rfl (op_assign _ _ _ _ rfl rfl),
    trivial⟩ ?_
   refine pt_then ?_
   refine ht_ret ?_
   refine pt_r_then ?_
   obtain rfl := Option.some.inj h
   exact pt_ret hio rfl (.cellA _ _ _ _ Tryd.underlying23 rfl sz23 (.tmp _ _ .nil)) rfl rfl
  ·have h := cond_f hb1 h
   refine ht_skip ?_
   refine pt_then ?_
   refine ht_seq ?_
   refine ht_seq ?_
   refine ht_joinS h (fun (s5 : Bool) => [(0, .v (.string s)), (2, .box 23 [.v (.bool false), .v (.string (⟨#[]⟩ : ByteArray)), .v (.string (⟨#[]⟩ : ByteArray))]), (24, .v (.bool s5))]) ?_ ?_
   ·rintro s5 h
    refine pt_then ?_
    refine ht_cond _ rfl (fun hb9 => ?_) (fun hb9 => ?_)
    ·have h := cond_t hb9 h
     refine ht_seq ?_
     refine ht_seqR hn (El := [_, _, _, (25, .agg [.v (.bool false), .v (.string (⟨#[]⟩ : ByteArray)), .v (.string (⟨#[]⟩ : ByteArray))]), (2, .box 23 [.v (.bool false), .v (.string (⟨#[]⟩ : ByteArray)), .v (.string (⟨#[]⟩ : ByteArray))]), (3, .v (.bool false))]) (init := [0, 1, 2]) (fin := [4, 5]) (sps := [⟨[], [], [3], [(.slot 25)]⟩, ⟨[], [3, 1], [4], [.cell 2 0, .cell 2 1, .cell 2 2]⟩, ⟨[], [], [5], [(.slot 3)]⟩]) (es' := [(2, .box 23 [.v (.bool false), .v (.string (⟨#[]⟩ : ByteArray)), .v (.string (⟨#[]⟩ : ByteArray))]), (3, .v (.bool false))]) (by kernel_rfl) rfl rfl
      ⟨st_plain rfl (op_build _ _ _ _ [1, 1, 1] _ _ Tryd.underlying23 zr23 (fs23 _ Tryd.underlying23) Src.nil rfl rfl rfl),
      st_plain rfl (op_store_self _ _ _ 25 2 3 sz23 rfl rfl rfl rfl rfl (.eq _ (.eq _ (.eq _ (.nil _)))) rfl),
      st_plain rfl (op_assign _ _ _ _ rfl rfl),
      trivial⟩ ?_
     refine pt_then ?_
     refine ht_ret ?_
     refine pt_r_then ?_
     obtain rfl := Option.some.inj h
     exact pt_ret hio rfl (.cellA _ _ _ _ Tryd.underlying23 rfl sz23 (.tmp _ _ .nil)) rfl rfl
    ·have h := cond_f hb9 h
     refine ht_skip ?_
     refine pt_then ?_
     refine ht_seq ?_
     obtain ⟨v10, hv10, h⟩ := bind_some h
     obtain ⟨v11, hv11, h⟩ := bind_some h
     refine ht_seqR hn (El := [_, _, _, (26, .v (.string s)), (27, .v (.string s)), (28, .v (.int .i64 (s.size : Int))), (29, .v (.int .i64 v10)), (30, .v (.string v11)), (0, .v (.string v11))]) (init := [0, 1, 2]) (fin := [1, 8]) (sps := [⟨[0], [], [3], [(.slot 26)]⟩, ⟨[0], [], [4], [(.slot 27)]⟩, ⟨[4], [], [5], [(.slot 28)]⟩, ⟨[5], [], [6], [(.slot 29)]⟩, ⟨[3, 6], [], [7], [(.slot 30)]⟩, ⟨[7], [0], [8], [(.slot 0)]⟩]) (es' := [(_, _), (0, .v (.string v11))]) (by kernel_rfl) rfl rfl
      ⟨st_plain rfl (op_move _ _ _ _ rfl rfl),
      st_plain rfl (op_move _ _ _ _ rfl rfl),
      st_plain rfl (op_len_str _ _ _ Tryd.underlying9 rfl),
      st_plain rfl (op_bin _ _ _ _ _ rfl rfl (ibind (f := Value.int .i64) (Option.some.inj hv10))),
      st_plain rfl (op_substr _ _ _ 1 v10 _ Tryd.underlying9 rfl ⟨_, rfl⟩ ⟨_, rfl⟩ hv11),
      st_plain rfl (LOp.drop [_] (op_assign _ _ _ _ rfl rfl)),
      trivial⟩ ?_
     refine pt_then ?_
     refine ht_seq ?_
     refine ht_seq ?_
     refine ht_seqR hn (El := [_, _, (4, .v (.int .i64 0))]) (init := [0, 1]) (fin := [0, 1, 2]) (sps := [⟨[], [], [2], [(.slot 4)]⟩]) (es' := [(_, _), (_, _), (4, .v (.int .i64 0))]) (by kernel_rfl) rfl rfl
      ⟨st_plain rfl (op_assign _ _ _ _ rfl rfl),
      trivial⟩ ?_
     refine pt_then ?_
     refine ht_loopS h (fun (s24 : Int) => [(2, .box 23 [.v (.bool false), .v (.string (⟨#[]⟩ : ByteArray)), .v (.string (⟨#[]⟩ : ByteArray))]), (0, .v (.string v11)), (4, .v (.int .i64 s24))]) (fun (() : Unit) => [(2, .box 23 [.v (.bool false), .v (.string (⟨#[]⟩ : ByteArray)), .v (.string (⟨#[]⟩ : ByteArray))])]) ?_ ?_
     ·rintro ⟨⟩ h
      refine pt_then ?_
      refine ht_seq ?_
      refine ht_seqR hn (El := [_, (55, .agg [.v (.bool false), .v (.string (⟨#[]⟩ : ByteArray)), .v (.string (⟨#[]⟩ : ByteArray))]), (2, .box 23 [.v (.bool false), .v (.string (⟨#[]⟩ : ByteArray)), .v (.string (⟨#[]⟩ : ByteArray))]), (3, .v (.bool false))]) (init := [0]) (fin := [2, 3]) (sps := [⟨[], [], [1], [(.slot 55)]⟩, ⟨[], [1, 0], [2], [.cell 2 0, .cell 2 1, .cell 2 2]⟩, ⟨[], [], [3], [(.slot 3)]⟩]) (es' := [(2, .box 23 [.v (.bool false), .v (.string (⟨#[]⟩ : ByteArray)), .v (.string (⟨#[]⟩ : ByteArray))]), (3, .v (.bool false))]) (by kernel_rfl) rfl rfl
       ⟨st_plain rfl (op_build _ _ _ _ [1, 1, 1] _ _ Tryd.underlying23 zr23 (fs23 _ Tryd.underlying23) Src.nil rfl rfl rfl),
       st_plain rfl (op_store_self _ _ _ 55 2 3 sz23 rfl rfl rfl rfl rfl (.eq _ (.eq _ (.eq _ (.nil _)))) rfl),
       st_plain rfl (op_assign _ _ _ _ rfl rfl),
       trivial⟩ ?_
      refine pt_then ?_
      refine ht_ret ?_
      obtain rfl := Option.some.inj h
      exact pt_ret hio rfl (.cellA _ _ _ _ Tryd.underlying23 rfl sz23 (.tmp _ _ .nil)) rfl rfl
     ·rintro u27 hl28 hr29 s24 rr32 h ho30
      refine ht_seq ?_
      refine ht_seq ?_
      refine ht_seqR hn (El := [_, _, _, (31, .v (.int .i64 s24)), (32, .v (.string v11)), (33, .v (.int .i64 (v11.size : Int))), (34, .v (.bool ((decide (s24 < (v11.size : Int))))))]) (init := [0, 1, 2]) (fin := [0, 1, 2, 6]) (sps := [⟨[2], [], [3], [(.slot 31)]⟩, ⟨[1], [], [4], [(.slot 32)]⟩, ⟨[4], [], [5], [(.slot 33)]⟩, ⟨[3, 5], [], [6], [(.slot 34)]⟩]) (es' := [(_, _), (_, _), (_, _), (34, .v (.bool ((decide (s24 < (v11.size : Int))))))]) (by kernel_rfl) rfl rfl
       ⟨st_plain rfl (op_move _ _ _ _ rfl rfl),
       st_plain rfl (op_move _ _ _ _ rfl rfl),
       st_plain rfl (op_len_str _ _ _ Tryd.underlying9 rfl),
       st_plain rfl (op_bin _ _ _ _ _ rfl rfl rfl),
       trivial⟩ ?_
      refine pt_then ?_
      refine ht_cond _ rfl (fun hb33 => ?_) (fun hb33 => ?_)
      ·have h := cond_t hb33 h
       refine ht_skip ?_
       refine pt_then ?_
       refine ht_seq ?_
       refine ht_block ?_
       refine ht_seq ?_
       obtain ⟨v13, hv13, h⟩ := bind_some h
       refine ht_seqR hn (El := [_, _, _, _, (37, .v (.string v11)), (38, .v (.int .i64 s24)), (39, .v (.int .u8 v13)), (40, .v (.bool (v13 == 64)))]) (init := [0, 1, 2, 3]) (fin := [0, 1, 2, 7]) (sps := [⟨[1], [], [4], [(.slot 37)]⟩, ⟨[2], [], [5], [(.slot 38)]⟩, ⟨[4, 5], [], [6], [(.slot 39)]⟩, ⟨[6], [], [7], [(.slot 40)]⟩]) (es' := [(_, _), (_, _), (_, _), (40, .v (.bool (v13 == 64)))]) (by kernel_rfl) rfl rfl
        ⟨st_plain rfl (op_move _ _ _ _ rfl rfl),
        st_plain rfl (op_move _ _ _ _ rfl rfl),
        st_plain rfl (op_chr _ _ _ s24 _ Tryd.underlying9 rfl rfl hv13),
        st_plain rfl (op_bin _ _ _ _ _ rfl rfl rfl),
        trivial⟩ ?_
       refine pt_then ?_
       refine ht_cond _ rfl (fun hb34 => ?_) (fun hb34 => ?_)
       ·have h := cond_t hb34 h
        refine ht_seq ?_
        obtain ⟨v15, hv15, h⟩ := bind_some h
        obtain ⟨v16, hv16, h⟩ := bind_some h
        obtain ⟨v17, hv17, h⟩ := bind_some h
        refine ht_anyR (by kernel_rfl) hn (El := [_, _, _, _, (41, .v (.string v11)), (42, .v (.int .i64 s24)), (43, .v (.string v15)), (44, .v (.string v11)), (45, .v (.int .i64 s24)), (46, .v (.int .i64 v16)), (47, .v (.string v17)), (48, .agg [.v (.bool false), .v (.string v15), .v (.string v17)]), (5, .box 23 [.v (.bool false), .v (.string (⟨#[]⟩ : ByteArray)), .v (.string (⟨#[]⟩ : ByteArray))]), (5, .box 23 [.v (.bool false), .v (.string v15), .v (.string v17)])]) (init := [0, 1, 2, 3]) (fin := [0, 13]) (sps := [⟨[1], [], [4], [(.slot 41)]⟩, ⟨[2], [], [5], [(.slot 42)]⟩, ⟨[4, 5], [], [6], [(.slot 43)]⟩, ⟨[1], [], [7], [(.slot 44)]⟩, ⟨[2], [], [8], [(.slot 45)]⟩, ⟨[8], [], [9], [(.slot 46)]⟩, ⟨[7, 9], [], [10], [(.slot 47)]⟩, ⟨[6, 10], [], [11], [(.slot 48)]⟩, ⟨[], [], [12], [(.slot 5)]⟩, ⟨[11], [12], [13], [.cell 5 0, .cell 5 1, .cell 5 2]⟩]) (es' := [(_, _), (5, .box 23 [.v (.bool false), .v (.string v15), .v (.string v17)])]) (by kernel_rfl) rfl rfl
         ⟨st_plain rfl (op_move _ _ _ _ rfl rfl),
         st_plain rfl (op_move _ _ _ _ rfl rfl),
         st_plain rfl (op_substr _ _ _ 0 s24 _ Tryd.underlying9 rfl rfl ⟨_, rfl⟩ hv15),
         st_plain rfl (op_move _ _ _ _ rfl rfl),
         st_plain rfl (op_move _ _ _ _ rfl rfl),
         st_plain rfl (op_bin _ _ _ _ _ rfl rfl (ibind (f := Value.int .i64) (Option.some.inj hv16))),
         st_plain rfl (op_substr _ _ _ v16 (v11.size : Int) _ Tryd.underlying9 rfl ⟨_, rfl⟩ rfl hv17),
         st_plain rfl (op_build _ _ _ _ [1, 1, 1] _ _ Tryd.underlying23 zr23 (fs23 _ Tryd.underlying23) (.copy _ (.copy _ Src.nil)) rfl rfl rfl),
         st_plain rfl (op_alloc _ _ zr23),
         st_plain rfl (op_store _ _ _ _ _ _ _ _ sz23 rfl rfl rfl rfl (Nat.le_of_ble_eq_true rfl) rfl rfl),
         trivial⟩ ?_
        refine pt_then ?_
        refine ht_seq ?_
        obtain ⟨v18, hv18, h⟩ := bind_some h
        obtain ⟨v19, hv19, h⟩ := bind_some h
        refine ht_anyR (by kernel_rfl) hn (El := [_, _, (49, .agg [.v (.bool false), .v (.string v15), .v (.string v17)]), (50, .agg [.v (.bool false), .v (.string v15), .v (.string v17)]), (51, .v (.bool v18)), (52, .tup [.agg [.v (.bool v19.1.Null), .v (.string v19.1.Local), .v (.string v19.1.Domain)], .v (.bool v19.2)]), (53, .agg [.v (.bool v19.1.Null), .v (.string v19.1.Local), .v (.string v19.1.Domain)]), (54, .v (.bool v19.2)), (2, .box 23 [.v (.bool v19.1.Null), .v (.string v19.1.Local), .v (.string v19.1.Domain)]), (3, .v (.bool v19.2))]) (init := [0, 1]) (fin := [8, 9]) (sps := [⟨[1], [], [2], [(.slot 49)]⟩, ⟨[1], [], [3], [(.slot 50)]⟩, ⟨[3], [], [4], [(.slot 51)]⟩, ⟨[2, 4], [], [5], [(.slot 52)]⟩, ⟨[5], [], [6], [(.slot 53)]⟩, ⟨[5], [], [7], [(.slot 54)]⟩, ⟨[6], [0], [8], [.cell 2 0, .cell 2 1, .cell 2 2]⟩, ⟨[7], [], [9], [(.slot 3)]⟩]) (es' := [(2, .box 23 [.v (.bool v19.1.Null), .v (.string v19.1.Local), .v (.string v19.1.Domain)]), (3, .v (.bool v19.2))]) (by kernel_rfl) rfl rfl
         ⟨st_plain rfl (op_loadA _ _ _ _ _ _ _ Tryd.underlying23 rfl sz23 rfl rfl (Nat.le_of_ble_eq_true rfl) rfl rfl),
         st_plain rfl (op_loadA _ _ _ _ _ _ _ Tryd.underlying23 rfl sz23 rfl rfl (Nat.le_of_ble_eq_true rfl) rfl rfl),
         st_plain rfl (op_call _ _ 12 _ _ rfl Tryd.call12 rfl (ok_wherryref11_Path (T_Path.mk false v15 v17) _ hv18) rfl rfl),
         st_plain rfl (op_call _ _ 29 _ _ rfl Tryd.call29 rfl (ok_wherryref11_keep (T_Path.mk false v15 v17) v18 _ hv19) rfl rfl),
         st_plain rfl (op_extract_no _ _ _ _ _ _ rfl rfl (Nat.le_of_ble_eq_true rfl) rfl rfl),
         st_plain rfl (op_extract _ _ _ _ _ rfl rfl (Nat.le_of_ble_eq_true rfl) rfl rfl),
         st_plain rfl (op_store _ _ _ _ _ _ _ _ sz23 rfl rfl rfl rfl (Nat.le_of_ble_eq_true rfl) rfl rfl),
         st_plain rfl (op_assign _ _ _ _ rfl rfl),
         trivial⟩ ?_
        refine pt_then ?_
        refine ht_ret ?_
        refine pt_r_in ?_
        refine pt_r_then ?_
        refine pt_r_then ?_
        refine pt_r_in ?_
        refine pt_r_then ?_
        have h := hr29 _ (ho30 _ (Option.some.inj h).symm).symm
        obtain rfl := Option.some.inj h
        exact pt_ret hio rfl (.cellA _ _ _ _ Tryd.underlying23 rfl sz23 (.tmp _ _ .nil)) rfl rfl
       ·have h := cond_f hb34 h
        refine ht_skip ?_
        refine pt_inb ?_
        refine pt_then ?_
        obtain ⟨v20, hv20, h⟩ := bind_some h
        refine ht_seqR hn (El := [_, _, _, _, (35, .v (.int .i64 s24)), (36, .v (.int .i64 v20)), (4, .v (.int .i64 v20))]) (init := [0, 1, 2, 3]) (fin := [0, 1, 6]) (sps := [⟨[2], [], [4], [(.slot 35)]⟩, ⟨[4], [], [5], [(.slot 36)]⟩, ⟨[5], [2], [6], [(.slot 4)]⟩]) (es' := [(_, _), (_, _), (4, .v (.int .i64 v20))]) (by kernel_rfl) rfl rfl
         ⟨st_plain rfl (op_move _ _ _ _ rfl rfl),
         st_plain rfl (op_bin _ _ _ _ _ rfl rfl (ibind (f := Value.int .i64) (Option.some.inj hv20))),
         st_plain rfl (LOp.drop [_] (op_assign _ _ _ _ rfl rfl)),
         trivial⟩ ?_
        exact pt_next _ (Option.some.inj h).symm rfl
      ·have h := cond_f hb33 h
       refine ht_exit ?_
       refine pt_x_then ?_
       refine pt_x_then ?_
       refine pt_x_in ?_
       refine pt_pick [0] (by kernel_rfl) (es' := [(_, _)]) rfl ?_
       exact hl28 _ (ho30 _ (Option.some.inj h).symm).symm
   ·intro u6 h hl7 hr8
    refine cond_some h (fun hg3_3 h => ?_) (fun hg3_3 h => ?_)
    ·refine ht_seqR hn (El := (_ :: _ :: _ :: (9, .v (.string s)) :: (10, .v (.int .i64 (s.size : Int))) :: (11, .v (.bool ((decide ((s.size : Int) < 2))))) :: (12, .v (.bool true)) :: (13, .v undef) :: (14, .v undef) :: (15, .v undef) :: (16, .v (.bool true)) :: (17, .v (.bool true)) :: (18, .v undef) :: (19, .v undef) :: (20, .v undef) :: (21, .v undef) :: (22, .v undef) :: (23, .v undef) :: (24, .v (.bool true)) :: [])) (init := [0, 1, 2]) (fin := [0, 1, 18]) (sps := (⟨[0], [], [3], [(.slot 9)]⟩ :: ⟨[3], [], [4], [(.slot 10)]⟩ :: ⟨[4], [], [5], [(.slot 11)]⟩ :: ⟨[5], [], [6], [(.slot 12)]⟩ :: ⟨[6], [], [7], [(.slot 13)]⟩ :: ⟨[6], [], [8], [(.slot 14)]⟩ :: ⟨[6], [], [9], [(.slot 15)]⟩ :: ⟨[6], [], [10], [(.slot 16)]⟩ :: ⟨[10], [], [11], [(.slot 17)]⟩ :: ⟨[11], [], [12], [(.slot 18)]⟩ :: ⟨[11], [], [13], [(.slot 19)]⟩ :: ⟨[11], [], [14], [(.slot 20)]⟩ :: ⟨[11], [], [15], [(.slot 21)]⟩ :: ⟨[11], [], [16], [(.slot 22)]⟩ :: ⟨[11], [], [17], [(.slot 23)]⟩ :: ⟨[11], [], [18], [(.slot 24)]⟩ :: [])) (es' := [(_, _), (_, _), (24, .v (.bool true))]) (by kernel_rfl) rfl rfl
      ⟨st_plain rfl (op_move _ _ _ _ rfl rfl),
      st_plain rfl (op_len_str _ _ _ Tryd.underlying9 rfl),
      st_plain rfl (op_bin _ _ _ _ _ rfl rfl rfl),
      st_plain rfl (op_move _ _ _ _ (congrArg (fun b => AV.v (Value.bool b)) hg3_3) rfl),
      st_skip 3 12 _ false rfl rfl rfl rfl (List.Mem.head _),
      st_skip 3 12 _ false rfl rfl rfl rfl (List.Mem.head _),
      st_skip 3 12 _ false rfl rfl rfl rfl (List.Mem.head _),
      st_plain rfl (op_pick _ _ true _ rfl rfl),
      st_plain rfl (op_move _ _ _ _ rfl rfl),
      st_skip 8 17 _ false rfl rfl rfl rfl (List.Mem.head _),
      st_skip 8 17 _ false rfl rfl rfl rfl (List.Mem.head _),
      st_skip 8 17 _ false rfl rfl rfl rfl (List.Mem.head _),
      st_skip 8 17 _ false rfl rfl rfl rfl (List.Mem.head _),
      st_skip 8 17 _ false rfl rfl rfl rfl (List.Mem.head _),
      st_skip 8 17 _ false rfl rfl rfl rfl (List.Mem.head _),
      st_plain rfl (op_pick _ _ true _ rfl rfl),
      trivial⟩ ?_
     exact hl7 _ (Option.some.inj h).symm
    ·obtain ⟨v2, hv2, h⟩ := bind_some h
     refine cond_some h (fun hg3_8 h => ?_) (fun hg3_8 h => ?_)
     ·refine ht_seqR hn (El := (_ :: _ :: _ :: (9, .v (.string s)) :: (10, .v (.int .i64 (s.size : Int))) :: (11, .v (.bool ((decide ((s.size : Int) < 2))))) :: (12, .v (.bool false)) :: (13, .v (.string s)) :: (14, .v (.int .u8 v2)) :: (15, .v (.bool (v2 != 60))) :: (16, .v (.bool (v2 != 60))) :: (17, .v (.bool true)) :: (18, .v undef) :: (19, .v undef) :: (20, .v undef) :: (21, .v undef) :: (22, .v undef) :: (23, .v undef) :: (24, .v (.bool true)) :: [])) (init := [0, 1, 2]) (fin := [0, 1, 18]) (sps := (⟨[0], [], [3], [(.slot 9)]⟩ :: ⟨[3], [], [4], [(.slot 10)]⟩ :: ⟨[4], [], [5], [(.slot 11)]⟩ :: ⟨[5], [], [6], [(.slot 12)]⟩ :: ⟨[6, 0], [], [7], [(.slot 13)]⟩ :: ⟨[6, 7], [], [8], [(.slot 14)]⟩ :: ⟨[6, 8], [], [9], [(.slot 15)]⟩ :: ⟨[6, 9], [], [10], [(.slot 16)]⟩ :: ⟨[10], [], [11], [(.slot 17)]⟩ :: ⟨[11], [], [12], [(.slot 18)]⟩ :: ⟨[11], [], [13], [(.slot 19)]⟩ :: ⟨[11], [], [14], [(.slot 20)]⟩ :: ⟨[11], [], [15], [(.slot 21)]⟩ :: ⟨[11], [], [16], [(.slot 22)]⟩ :: ⟨[11], [], [17], [(.slot 23)]⟩ :: ⟨[11], [], [18], [(.slot 24)]⟩ :: [])) (es' := [(_, _), (_, _), (24, .v (.bool true))]) (by kernel_rfl) rfl rfl
       ⟨st_plain rfl (op_move _ _ _ _ rfl rfl),
       st_plain rfl (op_len_str _ _ _ Tryd.underlying9 rfl),
       st_plain rfl (op_bin _ _ _ _ _ rfl rfl rfl),
       st_plain rfl (op_move _ _ _ _ (congrArg (fun b => AV.v (Value.bool b)) hg3_3) rfl),
       st_run 3 12 false rfl rfl rfl (List.Mem.head _) (op_move _ _ _ _ rfl rfl),
       st_run 3 12 false rfl rfl rfl (List.Mem.head _) (op_chr _ _ _ 0 _ Tryd.underlying9 rfl rfl hv2),
       st_run 3 12 false rfl rfl rfl (List.Mem.head _) (op_bin _ _ _ _ _ rfl rfl rfl),
       st_plain rfl (op_pick _ _ false _ rfl rfl),
       st_plain rfl (op_move _ _ _ _ (congrArg (fun b => AV.v (Value.bool b)) hg3_8) rfl),
       st_skip 8 17 _ false rfl rfl rfl rfl (List.Mem.head _),
       st_skip 8 17 _ false rfl rfl rfl rfl (List.Mem.head _),
       st_skip 8 17 _ false rfl rfl rfl rfl (List.Mem.head _),
       st_skip 8 17 _ false rfl rfl rfl rfl (List.Mem.head _),
       st_skip 8 17 _ false rfl rfl rfl rfl (List.Mem.head _),
       st_skip 8 17 _ false rfl rfl rfl rfl (List.Mem.head _),
       st_plain rfl (op_pick _ _ true _ rfl rfl),
       trivial⟩ ?_
      exact hl7 _ (Option.some.inj h).symm
     ·obtain ⟨v3, hv3, h⟩ := bind_some h
      obtain ⟨v4, hv4, h⟩ := bind_some h
      refine ht_seqR hn (El := (_ :: _ :: _ :: (9, .v (.string s)) :: (10, .v (.int .i64 (s.size : Int))) :: (11, .v (.bool ((decide ((s.size : Int) < 2))))) :: (12, .v (.bool false)) :: (13, .v (.string s)) :: (14, .v (.int .u8 v2)) :: (15, .v (.bool (v2 != 60))) :: (16, .v (.bool (v2 != 60))) :: (17, .v (.bool false)) :: (18, .v (.string s)) :: (19, .v (.string s)) :: (20, .v (.int .i64 (s.size : Int))) :: (21, .v (.int .i64 v3)) :: (22, .v (.int .u8 v4)) :: (23, .v (.bool (v4 != 62))) :: (24, .v (.bool (v4 != 62))) :: [])) (init := [0, 1, 2]) (fin := [0, 1, 18]) (sps := (⟨[0], [], [3], [(.slot 9)]⟩ :: ⟨[3], [], [4], [(.slot 10)]⟩ :: ⟨[4], [], [5], [(.slot 11)]⟩ :: ⟨[5], [], [6], [(.slot 12)]⟩ :: ⟨[6, 0], [], [7], [(.slot 13)]⟩ :: ⟨[6, 7], [], [8], [(.slot 14)]⟩ :: ⟨[6, 8], [], [9], [(.slot 15)]⟩ :: ⟨[6, 9], [], [10], [(.slot 16)]⟩ :: ⟨[10], [], [11], [(.slot 17)]⟩ :: ⟨[11, 0], [], [12], [(.slot 18)]⟩ :: ⟨[11, 0], [], [13], [(.slot 19)]⟩ :: ⟨[11, 13], [], [14], [(.slot 20)]⟩ :: ⟨[11, 14], [], [15], [(.slot 21)]⟩ :: ⟨[11, 12, 15], [], [16], [(.slot 22)]⟩ :: ⟨[11, 16], [], [17], [(.slot 23)]⟩ :: ⟨[11, 17], [], [18], [(.slot 24)]⟩ :: [])) (es' := [(_, _), (_, _), (24, .v (.bool (v4 != 62)))]) (by kernel_rfl) rfl rfl
       ⟨st_plain rfl (op_move _ _ _ _ rfl rfl),
       st_plain rfl (op_len_str _ _ _ Tryd.underlying9 rfl),
       st_plain rfl (op_bin _ _ _ _ _ rfl rfl rfl),
       st_plain rfl (op_move _ _ _ _ (congrArg (fun b => AV.v (Value.bool b)) hg3_3) rfl),
       st_run 3 12 false rfl rfl rfl (List.Mem.head _) (op_move _ _ _ _ rfl rfl),
       st_run 3 12 false rfl rfl rfl (List.Mem.head _) (op_chr _ _ _ 0 _ Tryd.underlying9 rfl rfl hv2),
       st_run 3 12 false rfl rfl rfl (List.Mem.head _) (op_bin _ _ _ _ _ rfl rfl rfl),
       st_plain rfl (op_pick _ _ false _ rfl rfl),
       st_plain rfl (op_move _ _ _ _ (congrArg (fun b => AV.v (Value.bool b)) hg3_8) rfl),
       st_run 8 17 false rfl rfl rfl (List.Mem.head _) (op_move _ _ _ _ rfl rfl),
       st_run 8 17 false rfl rfl rfl (List.Mem.head _) (op_move _ _ _ _ rfl rfl),
       st_run 8 17 false rfl rfl rfl (List.Mem.head _) (op_len_str _ _ _ Tryd.underlying9 rfl),
       st_run 8 17 false rfl rfl rfl (List.Mem.head _) (op_bin _ _ _ _ _ rfl rfl (ibind (f := Value.int .i64) (Option.some.inj hv3))),
       st_run 8 17 false rfl rfl rfl (List.Mem.head _) (op_chr _ _ _ v3 _ Tryd.underlying9 rfl rfl hv4),
       st_run 8 17 false rfl rfl rfl (List.Mem.head _) (op_bin _ _ _ _ _ rfl rfl rfl),
       st_plain rfl (op_pick _ _ false _ rfl rfl),
       trivial⟩ ?_
      exact hl7 _ (Option.some.inj h).symm

set_option maxHeartbeats 1000000 in
theorem ok_wherryref11_Text (p : T_Path) (r : ByteArray) (h : Sh.wherryref11_Text p = some r) : FnOK Tryd.prog 17 [.agg [.v (.bool p.Null), .v (.string p.Local), .v (.string p.Domain)]] (.v (.string r)) := by
  unfold Sh.wherryref11_Text at h
  refine fn_ok Tryd.func17 rfl (Nat.le_of_ble_eq_true rfl) rfl rfl fun g0 hn hio => ?_
  refine ht_seq ?_
  refine ht_seqR hn (El := [_, (1, .box 23 [.v (.bool p.Null), .v (.string p.Local), .v (.string p.Domain)]), (2, .v (.string (⟨#[]⟩ : ByteArray)))]) (init := [0]) (fin := [1]) (sps := [⟨[0], [], [1], [(.slot 1)]⟩, ⟨[], [], [2], [(.slot 2)]⟩]) (es' := [(1, .box 23 [.v (.bool p.Null), .v (.string p.Local), .v (.string p.Domain)])]) (by kernel_rfl) rfl rfl
   ⟨st_plain rfl (op_box _ _ _ _ rfl rfl rfl),
   st_plain rfl (op_assign _ _ _ _ rfl rfl),
   trivial⟩ ?_
  refine pt_then ?_
  refine ht_seq ?_
  refine ht_seq ?_
  refine ht_seqR hn (El := [_, (3, .ptr 1 0), (4, .v (.bool p.Null))]) (init := [0]) (fin := [0, 2]) (sps := [⟨[0], [], [1], [(.slot 3)]⟩, ⟨[1, 0], [], [2], [(.slot 4)]⟩]) (es' := [(_, _), (4, .v (.bool p.Null))]) (by kernel_rfl) rfl rfl
   ⟨st_plain rfl (op_fieldAddr _ _ _ _ 1 0 _ Tryd.underlying23 rfl sz4 rfl rfl (by decide)),
   st_plain rfl (op_load _ _ _ _ _ _ Tryd.underlying4 rfl rfl rfl (Nat.le_of_ble_eq_true rfl) rfl rfl rfl),
   trivial⟩ ?_
  refine pt_then ?_
  refine ht_cond _ rfl (fun hb1 => ?_) (fun hb1 => ?_)
  ·have h := cond_t hb1 h
   refine ht_seq ?_
   refine ht_seqR hn (El := [_, _, (2, .v (.string (⟨#[60, 62]⟩ : ByteArray)))]) (init := [0, 1]) (fin := [2]) (sps := [⟨[], [], [2], [(.slot 2)]⟩]) (es' := [(2, .v (.string (⟨#[60, 62]⟩ : ByteArray)))]) (by kernel_rfl) rfl rfl
    ⟨st_plain rfl (op_assign _ _ _ _ rfl rfl),
    trivial⟩ ?_
   refine pt_then ?_
   refine ht_ret ?_
   refine pt_r_then ?_
   obtain rfl := Option.some.inj h
   exact pt_ret hio rfl (.tmp _ _ .nil) rfl rfl
  ·have h := cond_f hb1 h
   refine ht_skip ?_
   refine pt_then ?_
   refine ht_seq ?_
   obtain ⟨v2, hv2, h⟩ := bind_some h
   obtain ⟨v3, hv3, h⟩ := bind_some h
   obtain ⟨v4, hv4, h⟩ := bind_some h
   obtain ⟨v5, hv5, h⟩ := bind_some h
   refine ht_seqR hn (El := [_, _, (5, .ptr 1 1), (6, .v (.string p.Local)), (7, .v (.string v2)), (8, .v (.string v3)), (9, .ptr 1 2), (10, .v (.string p.Domain)), (11, .v (.string v4)), (12, .v (.string v5)), (2, .v (.string v5))]) (init := [0, 1]) (fin := [10]) (sps := [⟨[0], [], [2], [(.slot 5)]⟩, ⟨[2, 0], [], [3], [(.slot 6)]⟩, ⟨[3], [], [4], [(.slot 7)]⟩, ⟨[4], [], [5], [(.slot 8)]⟩, ⟨[0], [], [6], [(.slot 9)]⟩, ⟨[6, 0], [], [7], [(.slot 10)]⟩, ⟨[5, 7], [], [8], [(.slot 11)]⟩, ⟨[8], [], [9], [(.slot 12)]⟩, ⟨[9], [], [10], [(.slot 2)]⟩]) (es' := [(2, .v (.string v5))]) (by kernel_rfl) rfl rfl
    ⟨st_plain rfl (op_fieldAddr _ _ _ _ 1 0 _ Tryd.underlying23 rfl sz9 rfl rfl (by decide)),
    st_plain rfl (op_load _ _ _ _ _ _ Tryd.underlying9 rfl rfl rfl (Nat.le_of_ble_eq_true rfl) rfl rfl rfl),
    st_plain rfl (op_bin _ _ _ _ _ rfl rfl (cat_ok hv2)),
    st_plain rfl (op_bin _ _ _ _ _ rfl rfl (cat_ok hv3)),
    st_plain rfl (op_fieldAddr _ _ _ _ 1 0 _ Tryd.underlying23 rfl sz9 rfl rfl (by decide)),
    st_plain rfl (op_load _ _ _ _ _ _ Tryd.underlying9 rfl rfl rfl (Nat.le_of_ble_eq_true rfl) rfl rfl rfl),
    st_plain rfl (op_bin _ _ _ _ _ rfl rfl (cat_ok hv4)),
    st_plain rfl (op_bin _ _ _ _ _ rfl rfl (cat_ok hv5)),
    st_plain rfl (op_assign _ _ _ _ rfl rfl),
    trivial⟩ ?_
   refine pt_then ?_
   refine ht_ret ?_
   obtain rfl := Option.some.inj h
   exact pt_ret hio rfl (.tmp _ _ .nil) rfl rfl

set_option maxHeartbeats 1000000 in
theorem ok_wherryref11_Fold (s : ByteArray) (r : ByteArray) (h : Sh.wherryref11_Fold s = some r) : FnOK Tryd.prog 23 [.v (.string s)] (.v (.string r)) := by
  unfold Sh.wherryref11_Fold at h
  refine fn_ok Tryd.func23 rfl (Nat.le_of_ble_eq_true rfl) rfl rfl fun g0 hn hio => ?_
  refine ht_seq ?_
  refine ht_seqR hn (El := [_, (2, .v (.string (⟨#[]⟩ : ByteArray)))]) (init := [0]) (fin := [0]) (sps := [⟨[], [], [1], [(.slot 2)]⟩]) (es' := [(_, _)]) (by kernel_rfl) rfl rfl
   ⟨st_plain rfl (op_assign _ _ _ _ rfl rfl),
   trivial⟩ ?_
  refine pt_then ?_
  refine ht_seq ?_
  refine ht_seqR hn (El := [_, (3, .v (.slice none 0 0))]) (init := [0]) (fin := [0, 1]) (sps := [⟨[], [], [1], [(.slot 3)]⟩]) (es' := [(_, _), (3, .v (.slice none 0 0))]) (by kernel_rfl) rfl rfl
   ⟨st_plain rfl (op_assign _ _ _ _ rfl rfl),
   trivial⟩ ?_
  refine pt_then ?_
  refine ht_seq ?_
  refine ht_seq ?_
  refine ht_seqR hn (El := [_, _, (4, .v (.int .i64 0))]) (init := [0, 1]) (fin := [0, 1, 2]) (sps := [⟨[], [], [2], [(.slot 4)]⟩]) (es' := [(_, _), (_, _), (4, .v (.int .i64 0))]) (by kernel_rfl) rfl rfl
   ⟨st_plain rfl (op_assign _ _ _ _ rfl rfl),
   trivial⟩ ?_
  refine pt_then ?_
  refine ht_sub (fs := [(0, .v (.string s)), (3, .fl (.own 5) 1 (List.map (Value.int .u8) [])), (4, .v (.int .i64 0))]) (.same _ (.sub _ (sub_nil 5 1) rfl (.same _ .nil))) ?_
  refine ht_loopS h (fun ((s37, s38) : (List Int) × Int) => [(0, .v (.string s)), (3, .fl (.own 5) 1 (List.map (Value.int .u8) s37)), (4, .v (.int .i64 s38))]) (fun (s54 : (List Int)) => [(3, .fl (.own 5) 1 (List.map (Value.int .u8) s54))]) ?_ ?_
  ·rintro s54 h
   refine pt_then ?_
   refine ht_seq ?_
   obtain ⟨v76, hv76, h⟩ := bind_some h
   refine ht_seqR hn (El := [_, (27, .fl (.own 5) 1 (List.map (Value.int .u8) s54)), (28, .v (.string v76)), (2, .v (.string v76))]) (init := [0]) (fin := [3]) (sps := [⟨[], [0], [1], [(.slot 27)]⟩, ⟨[1], [], [2], [(.slot 28)]⟩, ⟨[2], [], [3], [(.slot 2)]⟩]) (es' := [(2, .v (.string v76))]) (by kernel_rfl) rfl rfl
    ⟨st_plain rfl (op_move_take _ _ _ _ rfl),
    st_plain rfl ((Option.some.inj hv76) ▸ op_bytes_str _ _ _ s54 Tryd.underlying43 Tryd.underlying9 Tryd.underlying5 rfl),
    st_plain rfl (op_assign _ _ _ _ rfl rfl),
    trivial⟩ ?_
   refine pt_then ?_
   refine ht_ret ?_
   obtain rfl := Option.some.inj h
   exact pt_ret hio rfl (.tmp _ _ .nil) rfl rfl
  ·rintro u55 hl56 hr57 ⟨s37, s38⟩ rr60 h ho58
   refine ht_seq ?_
   refine ht_seq ?_
   refine ht_seqR hn (El := [_, _, _, (6, .v (.int .i64 s38)), (7, .v (.string s)), (8, .v (.int .i64 (s.size : Int))), (9, .v (.bool ((decide (s38 < (s.size : Int))))))]) (init := [0, 1, 2]) (fin := [0, 1, 2, 6]) (sps := [⟨[2], [], [3], [(.slot 6)]⟩, ⟨[0], [], [4], [(.slot 7)]⟩, ⟨[4], [], [5], [(.slot 8)]⟩, ⟨[3, 5], [], [6], [(.slot 9)]⟩]) (es' := [(_, _), (_, _), (_, _), (9, .v (.bool ((decide (s38 < (s.size : Int))))))]) (by kernel_rfl) rfl rfl
    ⟨st_plain rfl (op_move _ _ _ _ rfl rfl),
    st_plain rfl (op_move _ _ _ _ rfl rfl),
    st_plain rfl (op_len_str _ _ _ Tryd.underlying9 rfl),
    st_plain rfl (op_bin _ _ _ _ _ rfl rfl rfl),
    trivial⟩ ?_
   refine pt_then ?_
   refine ht_cond _ rfl (fun hb61 => ?_) (fun hb61 => ?_)
   ·have h := cond_t hb61 h
    refine ht_skip ?_
    refine pt_then ?_
    refine ht_seq ?_
    refine ht_block ?_
    refine ht_seq ?_
    obtain ⟨v2, hv2, h⟩ := bind_some h
    refine ht_seqR hn (El := [_, _, _, _, (12, .v (.string s)), (13, .v (.int .i64 s38)), (14, .v (.int .u8 v2)), (5, .v (.int .u8 v2))]) (init := [0, 1, 2, 3]) (fin := [0, 1, 2, 7]) (sps := [⟨[0], [], [4], [(.slot 12)]⟩, ⟨[2], [], [5], [(.slot 13)]⟩, ⟨[4, 5], [], [6], [(.slot 14)]⟩, ⟨[6], [], [7], [(.slot 5)]⟩]) (es' := [(_, _), (_, _), (_, _), (5, .v (.int .u8 v2))]) (by kernel_rfl) rfl rfl
     ⟨st_plain rfl (op_move _ _ _ _ rfl rfl),
     st_plain rfl (op_move _ _ _ _ rfl rfl),
     st_plain rfl (op_chr _ _ _ s38 _ Tryd.underlying9 rfl rfl hv2),
     st_plain rfl (op_assign _ _ _ _ rfl rfl),
     trivial⟩ ?_
    refine pt_then ?_
    refine ht_seq ?_
    refine ht_joinS h (fun (s67 : Int) => [(0, .v (.string s)), (3, .fl (.own 5) 1 (List.map (Value.int .u8) s37)), (4, .v (.int .i64 s38)), (5, .v (.int .u8 s67))]) ?_ ?_
    ·rintro s67 h
     refine pt_then ?_
     obtain ⟨v18, hv18, h⟩ := bind_some h
     refine ht_seqR hn (El := [_, _, _, _, (23, .fl (.own 5) 1 (List.map (Value.int .u8) s37)), (24, .v (.int .u8 s67)), (25, .fl (.own 5) 1 (List.map (Value.int .u8) [s67])), (26, .fl (.own 5) 1 (List.map (Value.int .u8) v18)), (23, .any), (3, .fl (.own 5) 1 (List.map (Value.int .u8) v18))]) (init := [0, 1, 2, 3]) (fin := [0, 2, 9]) (sps := [⟨[], [1], [4], [(.slot 23)]⟩, ⟨[3], [], [5], [(.slot 24)]⟩, ⟨[5], [], [6], [(.slot 25)]⟩, ⟨[6], [4], [8, 7], [(.slot 26)]⟩, ⟨[], [7], [9], [(.slot 3)]⟩]) (es' := [(_, _), (_, _), (3, .fl (.own 5) 1 (List.map (Value.int .u8) v18))]) (by kernel_rfl) rfl rfl
      ⟨st_plain rfl (op_move_take _ _ _ _ rfl),
      st_plain rfl (op_move _ _ _ _ rfl rfl),
      st_plain rfl (op_buildSlice _ _ 1 (.int .u8 0) (List.map (Value.int .u8) [s67]) [(0, .int .u8 s67)] Tryd.underlying43 sz5 zr5 (fun _ V w o a hv hes => by have e0 := rd_v hv hes (x := .tmp 24) rfl; simp only [List.map_toArray, List.map_cons, List.map_nil, e0]; try rfl) (litfill (by simp [Instr.fill, Value.cells]; rfl) (by simp [List.range, List.range.loop])) (by simp [Value.oneCell']) rfl (by decide) (by decide) (by decide)),
      st_plain rfl (op_app _ _ _ _ _ el43 rfl rfl (map_len _) (map_len _) hv18 ((List.map_append).symm.trans (congrArg (List.map _) (app_eq hv18)))),
      st_plain rfl (op_assign_take _ _ _ _ rfl),
      trivial⟩ ?_
     refine pt_inb ?_
     refine pt_then ?_
     obtain ⟨v19, hv19, h⟩ := bind_some h
     refine ht_seqR hn (El := [_, _, _, (10, .v (.int .i64 s38)), (11, .v (.int .i64 v19)), (4, .v (.int .i64 v19))]) (init := [0, 1, 2]) (fin := [0, 2, 5]) (sps := [⟨[1], [], [3], [(.slot 10)]⟩, ⟨[3], [], [4], [(.slot 11)]⟩, ⟨[4], [1], [5], [(.slot 4)]⟩]) (es' := [(_, _), (_, _), (4, .v (.int .i64 v19))]) (by kernel_rfl) rfl rfl
      ⟨st_plain rfl (op_move _ _ _ _ rfl rfl),
      st_plain rfl (op_bin _ _ _ _ _ rfl rfl (ibind (f := Value.int .i64) (Option.some.inj hv19))),
      st_plain rfl (LOp.drop [_] (op_assign _ _ _ _ rfl rfl)),
      trivial⟩ ?_
     exact pt_next _ (Option.some.inj h).symm rfl
    ·intro u68 h hl69 hr70
     refine ht_seq ?_
     refine ht_joinS h (fun (s71 : Bool) => [(0, .v (.string s)), (3, .fl (.own 5) 1 (List.map (Value.int .u8) s37)), (4, .v (.int .i64 s38)), (5, .v (.int .u8 v2)), (20, .v (.bool s71))]) ?_ ?_
     ·rintro s71 h
      refine pt_then ?_
      refine ht_cond _ rfl (fun hb75 => ?_) (fun hb75 => ?_)
      ·have h := cond_t hb75 h
       obtain ⟨v8, hv8, h⟩ := bind_some h
       refine ht_seqR hn (El := [_, _, _, _, _, (21, .v (.int .u8 v2)), (22, .v (.int .u8 v8)), (5, .v (.int .u8 v8))]) (init := [0, 1, 2, 3, 4]) (fin := [0, 1, 2, 7]) (sps := [⟨[3], [], [5], [(.slot 21)]⟩, ⟨[5], [], [6], [(.slot 22)]⟩, ⟨[6], [3], [7], [(.slot 5)]⟩]) (es' := [(_, _), (_, _), (_, _), (5, .v (.int .u8 v8))]) (by kernel_rfl) rfl rfl
        ⟨st_plain rfl (op_move _ _ _ _ rfl rfl),
        st_plain rfl (op_bin _ _ _ _ _ rfl rfl (ibind (f := Value.int .u8) (Option.some.inj hv8))),
        st_plain rfl (LOp.drop [_] (op_assign _ _ _ _ rfl rfl)),
        trivial⟩ ?_
       exact hl69 _ (Option.some.inj h).symm
      ·have h := cond_f hb75 h
       refine ht_skip ?_
       refine pt_pick [0, 1, 2, 3] (by kernel_rfl) (es' := [(_, _), (_, _), (_, _), (_, _)]) rfl ?_
       exact hl69 _ (Option.some.inj h).symm
     ·intro u72 h hl73 hr74
      refine cond_some h (fun hg6_2 h => ?_) (fun hg6_2 h => ?_)
      ·refine ht_seqR hn (El := [_, _, _, _, (15, .v (.int .u8 v2)), (16, .v (.bool ((decide (65 ≤ v2))))), (17, .v (.bool true)), (18, .v (.int .u8 v2)), (19, .v (.bool ((decide (v2 ≤ 90))))), (20, .v (.bool ((decide (v2 ≤ 90)))))]) (init := [0, 1, 2, 3]) (fin := [0, 1, 2, 3, 9]) (sps := [⟨[3], [], [4], [(.slot 15)]⟩, ⟨[4], [], [5], [(.slot 16)]⟩, ⟨[5], [], [6], [(.slot 17)]⟩, ⟨[6, 3], [], [7], [(.slot 18)]⟩, ⟨[6, 7], [], [8], [(.slot 19)]⟩, ⟨[6, 8], [], [9], [(.slot 20)]⟩]) (es' := [(_, _), (_, _), (_, _), (_, _), (20, .v (.bool ((decide (v2 ≤ 90)))))]) (by kernel_rfl) rfl rfl
        ⟨st_plain rfl (op_move _ _ _ _ rfl rfl),
        st_plain rfl (op_bin _ _ _ _ _ rfl rfl rfl),
        st_plain rfl (op_move _ _ _ _ (congrArg (fun b => AV.v (Value.bool b)) hg6_2) rfl),
        st_run 2 17 true rfl rfl rfl (List.Mem.head _) (op_move _ _ _ _ rfl rfl),
        st_run 2 17 true rfl rfl rfl (List.Mem.head _) (op_bin _ _ _ _ _ rfl rfl rfl),
        st_plain rfl (op_pick _ _ true _ rfl rfl),
        trivial⟩ ?_
       exact hl73 _ (Option.some.inj h).symm
      ·refine ht_seqR hn (El := [_, _, _, _, (15, .v (.int .u8 v2)), (16, .v (.bool ((decide (65 ≤ v2))))), (17, .v (.bool false)), (18, .v undef), (19, .v undef), (20, .v (.bool false))]) (init := [0, 1, 2, 3]) (fin := [0, 1, 2, 3, 9]) (sps := [⟨[3], [], [4], [(.slot 15)]⟩, ⟨[4], [], [5], [(.slot 16)]⟩, ⟨[5], [], [6], [(.slot 17)]⟩, ⟨[6], [], [7], [(.slot 18)]⟩, ⟨[6], [], [8], [(.slot 19)]⟩, ⟨[6], [], [9], [(.slot 20)]⟩]) (es' := [(_, _), (_, _), (_, _), (_, _), (20, .v (.bool false))]) (by kernel_rfl) rfl rfl
        ⟨st_plain rfl (op_move _ _ _ _ rfl rfl),
        st_plain rfl (op_bin _ _ _ _ _ rfl rfl rfl),
        st_plain rfl (op_move _ _ _ _ (congrArg (fun b => AV.v (Value.bool b)) hg6_2) rfl),
        st_skip 2 17 _ true rfl rfl rfl rfl (List.Mem.head _),
        st_skip 2 17 _ true rfl rfl rfl rfl (List.Mem.head _),
        st_plain rfl (op_pick _ _ false _ rfl rfl),
        trivial⟩ ?_
       exact hl73 _ (Option.some.inj h).symm
   ·have h := cond_f hb61 h
    refine ht_exit ?_
    refine pt_x_then ?_
    refine pt_x_then ?_
    refine pt_x_in ?_
    refine pt_pick [1] (by kernel_rfl) (es' := [(_, _)]) rfl ?_
    exact hl56 _ (ho58 _ (Option.some.inj h).symm).symm

set_option maxHeartbeats 1000000 in
theorem ok_wherryref11_Same (a : T_Path) (b : T_Path) (r : Bool) (h : Sh.wherryref11_Same a b = some r) : FnOK Tryd.prog 19 [.agg [.v (.bool a.Null), .v (.string a.Local), .v (.string a.Domain)], .agg [.v (.bool b.Null), .v (.string b.Local), .v (.string b.Domain)]] (.v (.bool r)) := by
  unfold Sh.wherryref11_Same at h
  refine fn_ok Tryd.func19 rfl (Nat.le_of_ble_eq_true rfl) rfl rfl fun g0 hn hio => ?_
  refine ht_seq ?_
  refine ht_seqR hn (El := [_, _, (2, .box 23 [.v (.bool a.Null), .v (.string a.Local), .v (.string a.Domain)]), (3, .box 23 [.v (.bool b.Null), .v (.string b.Local), .v (.string b.Domain)]), (4, .v (.bool false))]) (init := [0, 1]) (fin := [2, 3]) (sps := [⟨[0], [], [2], [(.slot 2)]⟩, ⟨[1], [], [3], [(.slot 3)]⟩, ⟨[], [], [4], [(.slot 4)]⟩]) (es' := [(2, .box 23 [.v (.bool a.Null), .v (.string a.Local), .v (.string a.Domain)]), (3, .box 23 [.v (.bool b.Null), .v (.string b.Local), .v (.string b.Domain)])]) (by kernel_rfl) rfl rfl
   ⟨st_plain rfl (op_box _ _ _ _ rfl rfl rfl),
   st_plain rfl (op_box _ _ _ _ rfl rfl rfl),
   st_plain rfl (op_assign _ _ _ _ rfl rfl),
   trivial⟩ ?_
  refine pt_then ?_
  refine ht_seq ?_
  refine ht_joinS h (fun (s6 : Bool) => [(4, .v (.bool s6))]) ?_ ?_
  ·rintro s6 h
   refine pt_then ?_
   refine ht_ret ?_
   obtain rfl := Option.some.inj h
   exact pt_ret hio rfl (.tmp _ _ .nil) rfl rfl
  ·intro u7 h hl8 hr9
   obtain ⟨v1, hv1, h⟩ := bind_some h
   refine cond_some h (fun hg1_2 h => ?_) (fun hg1_2 h => ?_)
   ·obtain ⟨v2, hv2, h⟩ := bind_some h
    refine cond_some h (fun hg1_6 h => ?_) (fun hg1_6 h => ?_)
    ·obtain ⟨v3, hv3, h⟩ := bind_some h
     refine cond_some h (fun hg1_13 h => ?_) (fun hg1_13 h => ?_)
     ·refine cond_some h (fun hg1_20 h => ?_) (fun hg1_20 h => ?_)
      ·obtain ⟨v4, hv4, h⟩ := bind_some h
       obtain ⟨v5, hv5, h⟩ := bind_some h
       refine ht_anyR (by kernel_rfl) hn (El := (_ :: _ :: (5, .agg [.v (.bool a.Null), .v (.string a.Local), .v (.string a.Domain)]) :: (6, .v (.bool v1)) :: (7, .v (.bool true)) :: (8, .agg [.v (.bool b.Null), .v (.string b.Local), .v (.string b.Domain)]) :: (9, .v (.bool v2)) :: (10, .v (.bool v2)) :: (11, .v (.bool true)) :: (12, .ptr 2 0) :: (13, .v (.bool a.Null)) :: (14, .ptr 3 0) :: (15, .v (.bool b.Null)) :: (16, .v (.bool (a.Null == b.Null))) :: (17, .v (.bool (a.Null == b.Null))) :: (18, .v (.bool true)) :: (19, .ptr 2 1) :: (20, .v (.string a.Local)) :: (21, .ptr 3 1) :: (22, .v (.string b.Local)) :: (23, .v (.bool (a.Local.toList == b.Local.toList))) :: (24, .v (.bool (a.Local.toList == b.Local.toList))) :: (25, .v (.bool true)) :: (26, .ptr 2 2) :: (27, .v (.string a.Domain)) :: (28, .v (.string v4)) :: (29, .ptr 3 2) :: (30, .v (.string b.Domain)) :: (31, .v (.string v5)) :: (32, .v (.bool (v4.toList == v5.toList))) :: (33, .v (.bool (v4.toList == v5.toList))) :: (4, .v (.bool (v4.toList == v5.toList))) :: [])) (init := [0, 1]) (fin := [31]) (sps := (⟨[0], [], [2], [(.slot 5)]⟩ :: ⟨[2], [], [3], [(.slot 6)]⟩ :: ⟨[3], [], [4], [(.slot 7)]⟩ :: ⟨[4, 1], [], [5], [(.slot 8)]⟩ :: ⟨[4, 5], [], [6], [(.slot 9)]⟩ :: ⟨[4, 6], [], [7], [(.slot 10)]⟩ :: ⟨[7], [], [8], [(.slot 11)]⟩ :: ⟨[8, 0], [], [9], [(.slot 12)]⟩ :: ⟨[8, 9, 0], [], [10], [(.slot 13)]⟩ :: ⟨[8, 1], [], [11], [(.slot 14)]⟩ :: ⟨[8, 11, 1], [], [12], [(.slot 15)]⟩ :: ⟨[8, 10, 12], [], [13], [(.slot 16)]⟩ :: ⟨[8, 13], [], [14], [(.slot 17)]⟩ :: ⟨[14], [], [15], [(.slot 18)]⟩ :: ⟨[15, 0], [], [16], [(.slot 19)]⟩ :: ⟨[15, 16, 0], [], [17], [(.slot 20)]⟩ :: ⟨[15, 1], [], [18], [(.slot 21)]⟩ :: ⟨[15, 18, 1], [], [19], [(.slot 22)]⟩ :: ⟨[15, 17, 19], [], [20], [(.slot 23)]⟩ :: ⟨[15, 20], [], [21], [(.slot 24)]⟩ :: ⟨[21], [], [22], [(.slot 25)]⟩ :: ⟨[22, 0], [], [23], [(.slot 26)]⟩ :: ⟨[22, 23, 0], [], [24], [(.slot 27)]⟩ :: ⟨[22, 24], [], [25], [(.slot 28)]⟩ :: ⟨[22, 1], [], [26], [(.slot 29)]⟩ :: ⟨[22, 26, 1], [], [27], [(.slot 30)]⟩ :: ⟨[22, 27], [], [28], [(.slot 31)]⟩ :: ⟨[22, 25, 28], [], [29], [(.slot 32)]⟩ :: ⟨[22, 29], [], [30], [(.slot 33)]⟩ :: ⟨[30], [], [31], [(.slot 4)]⟩ :: [])) (es' := [(4, .v (.bool (v4.toList == v5.toList)))]) (by kernel_rfl) rfl rfl
        ⟨st_plain rfl (op_loadA _ _ _ _ _ _ _ Tryd.underlying23 rfl sz23 rfl rfl (Nat.le_of_ble_eq_true rfl) rfl rfl),
        st_plain rfl (op_call _ _ 12 _ _ rfl Tryd.call12 rfl (ok_wherryref11_Path a _ hv1) rfl rfl),
        st_plain rfl (op_move _ _ _ _ (congrArg (fun b => AV.v (Value.bool b)) hg1_2) rfl),
        st_run 2 7 true rfl rfl rfl (List.Mem.head _) (op_loadA _ _ _ _ _ _ _ Tryd.underlying23 rfl sz23 rfl rfl (Nat.le_of_ble_eq_true rfl) rfl rfl),
        st_run 2 7 true rfl rfl rfl (List.Mem.head _) (op_call _ _ 12 _ _ rfl Tryd.call12 rfl (ok_wherryref11_Path b _ hv2) rfl rfl),
        st_plain rfl (op_pick _ _ true _ rfl rfl),
        st_plain rfl (op_move _ _ _ _ (congrArg (fun b => AV.v (Value.bool b)) hg1_6) rfl),
        st_run 6 11 true rfl rfl rfl (List.Mem.head _) (op_fieldAddr _ _ _ _ 2 0 _ Tryd.underlying23 rfl sz4 rfl rfl (by decide)),
        st_run 6 11 true rfl rfl rfl (List.Mem.head _) (op_load _ _ _ _ _ _ Tryd.underlying4 rfl rfl rfl (Nat.le_of_ble_eq_true rfl) rfl rfl rfl),
        st_run 6 11 true rfl rfl rfl (List.Mem.head _) (op_fieldAddr _ _ _ _ 3 0 _ Tryd.underlying23 rfl sz4 rfl rfl (by decide)),
        st_run 6 11 true rfl rfl rfl (List.Mem.head _) (op_load _ _ _ _ _ _ Tryd.underlying4 rfl rfl rfl (Nat.le_of_ble_eq_true rfl) rfl rfl rfl),
        st_run 6 11 true rfl rfl rfl (List.Mem.head _) (op_beq _ _ _ _ Tryd.underlying4 rfl rfl),
        st_plain rfl (op_pick _ _ true _ rfl rfl),
        st_plain rfl (op_move _ _ _ _ (congrArg (fun b => AV.v (Value.bool b)) hg1_13) rfl),
        st_run 13 18 true rfl rfl rfl (List.Mem.head _) (op_fieldAddr _ _ _ _ 2 0 _ Tryd.underlying23 rfl sz9 rfl rfl (by decide)),
        st_run 13 18 true rfl rfl rfl (List.Mem.head _) (op_load _ _ _ _ _ _ Tryd.underlying9 rfl rfl rfl (Nat.le_of_ble_eq_true rfl) rfl rfl rfl),
        st_run 13 18 true rfl rfl rfl (List.Mem.head _) (op_fieldAddr _ _ _ _ 3 0 _ Tryd.underlying23 rfl sz9 rfl rfl (by decide)),
        st_run 13 18 true rfl rfl rfl (List.Mem.head _) (op_load _ _ _ _ _ _ Tryd.underlying9 rfl rfl rfl (Nat.le_of_ble_eq_true rfl) rfl rfl rfl),
        st_run 13 18 true rfl rfl rfl (List.Mem.head _) (op_bin _ _ _ _ _ rfl rfl rfl),
        st_plain rfl (op_pick _ _ true _ rfl rfl),
        st_plain rfl (op_move _ _ _ _ (congrArg (fun b => AV.v (Value.bool b)) hg1_20) rfl),
        st_run 20 25 true rfl rfl rfl (List.Mem.head _) (op_fieldAddr _ _ _ _ 2 0 _ Tryd.underlying23 rfl sz9 rfl rfl (by decide)),
        st_run 20 25 true rfl rfl rfl (List.Mem.head _) (op_load _ _ _ _ _ _ Tryd.underlying9 rfl rfl rfl (Nat.le_of_ble_eq_true rfl) rfl rfl rfl),
        st_run 20 25 true rfl rfl rfl (List.Mem.head _) (op_call _ _ 23 _ _ rfl Tryd.call23 rfl (ok_wherryref11_Fold a.Domain _ hv4) rfl rfl),
        st_run 20 25 true rfl rfl rfl (List.Mem.head _) (op_fieldAddr _ _ _ _ 3 0 _ Tryd.underlying23 rfl sz9 rfl rfl (by decide)),
        st_run 20 25 true rfl rfl rfl (List.Mem.head _) (op_load _ _ _ _ _ _ Tryd.underlying9 rfl rfl rfl (Nat.le_of_ble_eq_true rfl) rfl rfl rfl),
        st_run 20 25 true rfl rfl rfl (List.Mem.head _) (op_call _ _ 23 _ _ rfl Tryd.call23 rfl (ok_wherryref11_Fold b.Domain _ hv5) rfl rfl),
        st_run 20 25 true rfl rfl rfl (List.Mem.head _) (op_bin _ _ _ _ _ rfl rfl rfl),
        st_plain rfl (op_pick _ _ true _ rfl rfl),
        st_plain rfl (op_assign _ _ _ _ rfl rfl),
        trivial⟩ ?_
       exact hl8 _ (Option.some.inj h).symm
      ·refine ht_anyR (by kernel_rfl) hn (El := (_ :: _ :: (5, .agg [.v (.bool a.Null), .v (.string a.Local), .v (.string a.Domain)]) :: (6, .v (.bool v1)) :: (7, .v (.bool true)) :: (8, .agg [.v (.bool b.Null), .v (.string b.Local), .v (.string b.Domain)]) :: (9, .v (.bool v2)) :: (10, .v (.bool v2)) :: (11, .v (.bool true)) :: (12, .ptr 2 0) :: (13, .v (.bool a.Null)) :: (14, .ptr 3 0) :: (15, .v (.bool b.Null)) :: (16, .v (.bool (a.Null == b.Null))) :: (17, .v (.bool (a.Null == b.Null))) :: (18, .v (.bool true)) :: (19, .ptr 2 1) :: (20, .v (.string a.Local)) :: (21, .ptr 3 1) :: (22, .v (.string b.Local)) :: (23, .v (.bool (a.Local.toList == b.Local.toList))) :: (24, .v (.bool (a.Local.toList == b.Local.toList))) :: (25, .v (.bool false)) :: (26, .v undef) :: (27, .v undef) :: (28, .v undef) :: (29, .v undef) :: (30, .v undef) :: (31, .v undef) :: (32, .v undef) :: (33, .v (.bool false)) :: (4, .v (.bool false)) :: [])) (init := [0, 1]) (fin := [31]) (sps := (⟨[0], [], [2], [(.slot 5)]⟩ :: ⟨[2], [], [3], [(.slot 6)]⟩ :: ⟨[3], [], [4], [(.slot 7)]⟩ :: ⟨[4, 1], [], [5], [(.slot 8)]⟩ :: ⟨[4, 5], [], [6], [(.slot 9)]⟩ :: ⟨[4, 6], [], [7], [(.slot 10)]⟩ :: ⟨[7], [], [8], [(.slot 11)]⟩ :: ⟨[8, 0], [], [9], [(.slot 12)]⟩ :: ⟨[8, 9, 0], [], [10], [(.slot 13)]⟩ :: ⟨[8, 1], [], [11], [(.slot 14)]⟩ :: ⟨[8, 11, 1], [], [12], [(.slot 15)]⟩ :: ⟨[8, 10, 12], [], [13], [(.slot 16)]⟩ :: ⟨[8, 13], [], [14], [(.slot 17)]⟩ :: ⟨[14], [], [15], [(.slot 18)]⟩ :: ⟨[15, 0], [], [16], [(.slot 19)]⟩ :: ⟨[15, 16, 0], [], [17], [(.slot 20)]⟩ :: ⟨[15, 1], [], [18], [(.slot 21)]⟩ :: ⟨[15, 18, 1], [], [19], [(.slot 22)]⟩ :: ⟨[15, 17, 19], [], [20], [(.slot 23)]⟩ :: ⟨[15, 20], [], [21], [(.slot 24)]⟩ :: ⟨[21], [], [22], [(.slot 25)]⟩ :: ⟨[22], [], [23], [(.slot 26)]⟩ :: ⟨[22], [], [24], [(.slot 27)]⟩ :: ⟨[22], [], [25], [(.slot 28)]⟩ :: ⟨[22], [], [26], [(.slot 29)]⟩ :: ⟨[22], [], [27], [(.slot 30)]⟩ :: ⟨[22], [], [28], [(.slot 31)]⟩ :: ⟨[22], [], [29], [(.slot 32)]⟩ :: ⟨[22], [], [30], [(.slot 33)]⟩ :: ⟨[30], [], [31], [(.slot 4)]⟩ :: [])) (es' := [(4, .v (.bool false))]) (by kernel_rfl) rfl rfl
        ⟨st_plain rfl (op_loadA _ _ _ _ _ _ _ Tryd.underlying23 rfl sz23 rfl rfl (Nat.le_of_ble_eq_true rfl) rfl rfl),
        st_plain rfl (op_call _ _ 12 _ _ rfl Tryd.call12 rfl (ok_wherryref11_Path a _ hv1) rfl rfl),
        st_plain rfl (op_move _ _ _ _ (congrArg (fun b => AV.v (Value.bool b)) hg1_2) rfl),
        st_run 2 7 true rfl rfl rfl (List.Mem.head _) (op_loadA _ _ _ _ _ _ _ Tryd.underlying23 rfl sz23 rfl rfl (Nat.le_of_ble_eq_true rfl) rfl rfl),
        st_run 2 7 true rfl rfl rfl (List.Mem.head _) (op_call _ _ 12 _ _ rfl Tryd.call12 rfl (ok_wherryref11_Path b _ hv2) rfl rfl),
        st_plain rfl (op_pick _ _ true _ rfl rfl),
        st_plain rfl (op_move _ _ _ _ (congrArg (fun b => AV.v (Value.bool b)) hg1_6) rfl),
        st_run 6 11 true rfl rfl rfl (List.Mem.head _) (op_fieldAddr _ _ _ _ 2 0 _ Tryd.underlying23 rfl sz4 rfl rfl (by decide)),
        st_run 6 11 true rfl rfl rfl (List.Mem.head _) (op_load _ _ _ _ _ _ Tryd.underlying4 rfl rfl rfl (Nat.le_of_ble_eq_true rfl) rfl rfl rfl),
        st_run 6 11 true rfl rfl rfl (List.Mem.head _) (op_fieldAddr _ _ _ _ 3 0 _ Tryd.underlying23 rfl sz4 rfl rfl (by decide)),
        st_run 6 11 true rfl rfl rfl (List.Mem.head _) (op_load _ _ _ _ _ _ Tryd.underlying4 rfl rfl rfl (Nat.le_of_ble_eq_true rfl) rfl rfl rfl),
        st_run 6 11 true rfl rfl rfl (List.Mem.head _) (op_beq _ _ _ _ Tryd.underlying4 rfl rfl),
        st_plain rfl (op_pick _ _ true _ rfl rfl),
        st_plain rfl (op_move _ _ _ _ (congrArg (fun b => AV.v (Value.bool b)) hg1_13) rfl),
        st_run 13 18 true rfl rfl rfl (List.Mem.head _) (op_fieldAddr _ _ _ _ 2 0 _ Tryd.underlying23 rfl sz9 rfl rfl (by decide)),
        st_run 13 18 true rfl rfl rfl (List.Mem.head _) (op_load _ _ _ _ _ _ Tryd.underlying9 rfl rfl rfl (Nat.le_of_ble_eq_true rfl) rfl rfl rfl),
        st_run 13 18 true rfl rfl rfl (List.Mem.head _) (op_fieldAddr _ _ _ _ 3 0 _ Tryd.underlying23 rfl sz9 rfl rfl (by decide)),
        st_run 13 18 true rfl rfl rfl (List.Mem.head _) (op_load _ _ _ _ _ _ Tryd.underlying9 rfl rfl rfl (Nat.le_of_ble_eq_true rfl) rfl rfl rfl),
        st_run 13 18 true rfl rfl rfl (List.Mem.head _) (op_bin _ _ _ _ _ rfl rfl rfl),
        st_plain rfl (op_pick _ _ true _ rfl rfl),
        st_plain rfl (op_move _ _ _ _ (congrArg (fun b => AV.v (Value.bool b)) hg1_20) rfl),
        st_skip 20 25 _ true rfl rfl rfl rfl (List.Mem.head _),
        st_skip 20 25 _ true rfl rfl rfl rfl (List.Mem.head _),
        st_skip 20 25 _ true rfl rfl rfl rfl (List.Mem.head _),
        st_skip 20 25 _ true rfl rfl rfl rfl (List.Mem.head _),
        st_skip 20 25 _ true rfl rfl rfl rfl (List.Mem.head _),
        st_skip 20 25 _ true rfl rfl rfl rfl (List.Mem.head _),
        st_skip 20 25 _ true rfl rfl rfl rfl (List.Mem.head _),
        st_plain rfl (op_pick _ _ false _ rfl rfl),
        st_plain rfl (op_assign _ _ _ _ rfl rfl),
        trivial⟩ ?_
       exact hl8 _ (Option.some.inj h).symm
     ·refine ht_anyR (by kernel_rfl) hn (El := (_ :: _ :: (5, .agg [.v (.bool a.Null), .v (.string a.Local), .v (.string a.Domain)]) :: (6, .v (.bool v1)) :: (7, .v (.bool true)) :: (8, .agg [.v (.bool b.Null), .v (.string b.Local), .v (.string b.Domain)]) :: (9, .v (.bool v2)) :: (10, .v (.bool v2)) :: (11, .v (.bool true)) :: (12, .ptr 2 0) :: (13, .v (.bool a.Null)) :: (14, .ptr 3 0) :: (15, .v (.bool b.Null)) :: (16, .v (.bool (a.Null == b.Null))) :: (17, .v (.bool (a.Null == b.Null))) :: (18, .v (.bool false)) :: (19, .v undef) :: (20, .v undef) :: (21, .v undef) :: (22, .v undef) :: (23, .v undef) :: (24, .v (.bool false)) :: (25, .v (.bool false)) :: (26, .v undef) :: (27, .v undef) :: (28, .v undef) :: (29, .v undef) :: (30, .v undef) :: (31, .v undef) :: (32, .v undef) :: (33, .v (.bool false)) :: (4, .v (.bool false)) :: [])) (init := [0, 1]) (fin := [31]) (sps := (⟨[0], [], [2], [(.slot 5)]⟩ :: ⟨[2], [], [3], [(.slot 6)]⟩ :: ⟨[3], [], [4], [(.slot 7)]⟩ :: ⟨[4, 1], [], [5], [(.slot 8)]⟩ :: ⟨[4, 5], [], [6], [(.slot 9)]⟩ :: ⟨[4, 6], [], [7], [(.slot 10)]⟩ :: ⟨[7], [], [8], [(.slot 11)]⟩ :: ⟨[8, 0], [], [9], [(.slot 12)]⟩ :: ⟨[8, 9, 0], [], [10], [(.slot 13)]⟩ :: ⟨[8, 1], [], [11], [(.slot 14)]⟩ :: ⟨[8, 11, 1], [], [12], [(.slot 15)]⟩ :: ⟨[8, 10, 12], [], [13], [(.slot 16)]⟩ :: ⟨[8, 13], [], [14], [(.slot 17)]⟩ :: ⟨[14], [], [15], [(.slot 18)]⟩ :: ⟨[15], [], [16], [(.slot 19)]⟩ :: ⟨[15], [], [17], [(.slot 20)]⟩ :: ⟨[15], [], [18], [(.slot 21)]⟩ :: ⟨[15], [], [19], [(.slot 22)]⟩ :: ⟨[15], [], [20], [(.slot 23)]⟩ :: ⟨[15], [], [21], [(.slot 24)]⟩ :: ⟨[21], [], [22], [(.slot 25)]⟩ :: ⟨[22], [], [23], [(.slot 26)]⟩ :: ⟨[22], [], [24], [(.slot 27)]⟩ :: ⟨[22], [], [25], [(.slot 28)]⟩ :: ⟨[22], [], [26], [(.slot 29)]⟩ :: ⟨[22], [], [27], [(.slot 30)]⟩ :: ⟨[22], [], [28], [(.slot 31)]⟩ :: ⟨[22], [], [29], [(.slot 32)]⟩ :: ⟨[22], [], [30], [(.slot 33)]⟩ :: ⟨[30], [], [31], [(.slot 4)]⟩ :: [])) (es' := [(4, .v (.bool false))]) (by kernel_rfl) rfl rfl
       ⟨st_plain rfl (op_loadA _ _ _ _ _ _ _ Tryd.underlying23 rfl sz23 rfl rfl (Nat.le_of_ble_eq_true rfl) rfl rfl),
       st_plain rfl (op_call _ _ 12 _ _ rfl Tryd.call12 rfl (ok_wherryref11_Path a _ hv1) rfl rfl),
       st_plain rfl (op_move _ _ _ _ (congrArg (fun b => AV.v (Value.bool b)) hg1_2) rfl),
       st_run 2 7 true rfl rfl rfl (List.Mem.head _) (op_loadA _ _ _ _ _ _ _ Tryd.underlying23 rfl sz23 rfl rfl (Nat.le_of_ble_eq_true rfl) rfl rfl),
       st_run 2 7 true rfl rfl rfl (List.Mem.head _) (op_call _ _ 12 _ _ rfl Tryd.call12 rfl (ok_wherryref11_Path b _ hv2) rfl rfl),
       st_plain rfl (op_pick _ _ true _ rfl rfl),
       st_plain rfl (op_move _ _ _ _ (congrArg (fun b => AV.v (Value.bool b)) hg1_6) rfl),
       st_run 6 11 true rfl rfl rfl (List.Mem.head _) (op_fieldAddr _ _ _ _ 2 0 _ Tryd.underlying23 rfl sz4 rfl rfl (by decide)),
       st_run 6 11 true rfl rfl rfl (List.Mem.head _) (op_load _ _ _ _ _ _ Tryd.underlying4 rfl rfl rfl (Nat.le_of_ble_eq_true rfl) rfl rfl rfl),
       st_run 6 11 true rfl rfl rfl (List.Mem.head _) (op_fieldAddr _ _ _ _ 3 0 _ Tryd.underlying23 rfl sz4 rfl rfl (by decide)),
       st_run 6 11 true rfl rfl rfl (List.Mem.head _) (op_load _ _ _ _ _ _ Tryd.underlying4 rfl rfl rfl (Nat.le_of_ble_eq_true rfl) rfl rfl rfl),
       st_run 6 11 true rfl rfl rfl (List.Mem.head _) (op_beq _ _ _ _ Tryd.underlying4 rfl rfl),
       st_plain rfl (op_pick _ _ true _ rfl rfl),
       st_plain rfl (op_move _ _ _ _ (congrArg (fun b => AV.v (Value.bool b)) hg1_13) rfl),
       st_skip 13 18 _ true rfl rfl rfl rfl (List.Mem.head _),
       st_skip 13 18 _ true rfl rfl rfl rfl (List.Mem.head _),
       st_skip 13 18 _ true rfl rfl rfl rfl (List.Mem.head _),
       st_skip 13 18 _ true rfl rfl rfl rfl (List.Mem.head _),
       st_skip 13 18 _ true rfl rfl rfl rfl (List.Mem.head _),
       st_plain rfl (op_pick _ _ false _ rfl rfl),
       st_plain rfl (op_move _ _ _ _ rfl rfl),
       st_skip 20 25 _ true rfl rfl rfl rfl (List.Mem.head _),
       st_skip 20 25 _ true rfl rfl rfl rfl (List.Mem.head _),
       st_skip 20 25 _ true rfl rfl rfl rfl (List.Mem.head _),
       st_skip 20 25 _ true rfl rfl rfl rfl (List.Mem.head _),
       st_skip 20 25 _ true rfl rfl rfl rfl (List.Mem.head _),
       st_skip 20 25 _ true rfl rfl rfl rfl (List.Mem.head _),
       st_skip 20 25 _ true rfl rfl rfl rfl (List.Mem.head _),
       st_plain rfl (op_pick _ _ false _ rfl rfl),
       st_plain rfl (op_assign _ _ _ _ rfl rfl),
       trivial⟩ ?_
      exact hl8 _ (Option.some.inj h).symm
    ·refine ht_anyR (by kernel_rfl) hn (El := (_ :: _ :: (5, .agg [.v (.bool a.Null), .v (.string a.Local), .v (.string a.Domain)]) :: (6, .v (.bool v1)) :: (7, .v (.bool true)) :: (8, .agg [.v (.bool b.Null), .v (.string b.Local), .v (.string b.Domain)]) :: (9, .v (.bool v2)) :: (10, .v (.bool v2)) :: (11, .v (.bool false)) :: (12, .v undef) :: (13, .v undef) :: (14, .v undef) :: (15, .v undef) :: (16, .v undef) :: (17, .v (.bool false)) :: (18, .v (.bool false)) :: (19, .v undef) :: (20, .v undef) :: (21, .v undef) :: (22, .v undef) :: (23, .v undef) :: (24, .v (.bool false)) :: (25, .v (.bool false)) :: (26, .v undef) :: (27, .v undef) :: (28, .v undef) :: (29, .v undef) :: (30, .v undef) :: (31, .v undef) :: (32, .v undef) :: (33, .v (.bool false)) :: (4, .v (.bool false)) :: [])) (init := [0, 1]) (fin := [31]) (sps := (⟨[0], [], [2], [(.slot 5)]⟩ :: ⟨[2], [], [3], [(.slot 6)]⟩ :: ⟨[3], [], [4], [(.slot 7)]⟩ :: ⟨[4, 1], [], [5], [(.slot 8)]⟩ :: ⟨[4, 5], [], [6], [(.slot 9)]⟩ :: ⟨[4, 6], [], [7], [(.slot 10)]⟩ :: ⟨[7], [], [8], [(.slot 11)]⟩ :: ⟨[8], [], [9], [(.slot 12)]⟩ :: ⟨[8], [], [10], [(.slot 13)]⟩ :: ⟨[8], [], [11], [(.slot 14)]⟩ :: ⟨[8], [], [12], [(.slot 15)]⟩ :: ⟨[8], [], [13], [(.slot 16)]⟩ :: ⟨[8], [], [14], [(.slot 17)]⟩ :: ⟨[14], [], [15], [(.slot 18)]⟩ :: ⟨[15], [], [16], [(.slot 19)]⟩ :: ⟨[15], [], [17], [(.slot 20)]⟩ :: ⟨[15], [], [18], [(.slot 21)]⟩ :: ⟨[15], [], [19], [(.slot 22)]⟩ :: ⟨[15], [], [20], [(.slot 23)]⟩ :: ⟨[15], [], [21], [(.slot 24)]⟩ :: ⟨[21], [], [22], [(.slot 25)]⟩ :: ⟨[22], [], [23], [(.slot 26)]⟩ :: ⟨[22], [], [24], [(.slot 27)]⟩ :: ⟨[22], [], [25], [(.slot 28)]⟩ :: ⟨[22], [], [26], [(.slot 29)]⟩ :: ⟨[22], [], [27], [(.slot 30)]⟩ :: ⟨[22], [], [28], [(.slot 31)]⟩ :: ⟨[22], [], [29], [(.slot 32)]⟩ :: ⟨[22], [], [30], [(.slot 33)]⟩ :: ⟨[30], [], [31], [(.slot 4)]⟩ :: [])) (es' := [(4, .v (.bool false))]) (by kernel_rfl) rfl rfl
      ⟨st_plain rfl (op_loadA _ _ _ _ _ _ _ Tryd.underlying23 rfl sz23 rfl rfl (Nat.le_of_ble_eq_true rfl) rfl rfl),
      st_plain rfl (op_call _ _ 12 _ _ rfl Tryd.call12 rfl (ok_wherryref11_Path a _ hv1) rfl rfl),
      st_plain rfl (op_move _ _ _ _ (congrArg (fun b => AV.v (Value.bool b)) hg1_2) rfl),
      st_run 2 7 true rfl rfl rfl (List.Mem.head _) (op_loadA _ _ _ _ _ _ _ Tryd.underlying23 rfl sz23 rfl rfl (Nat.le_of_ble_eq_true rfl) rfl rfl),
      st_run 2 7 true rfl rfl rfl (List.Mem.head _) (op_call _ _ 12 _ _ rfl Tryd.call12 rfl (ok_wherryref11_Path b _ hv2) rfl rfl),
      st_plain rfl (op_pick _ _ true _ rfl rfl),
      st_plain rfl (op_move _ _ _ _ (congrArg (fun b => AV.v (Value.bool b)) hg1_6) rfl),
      st_skip 6 11 _ true rfl rfl rfl rfl (List.Mem.head _),
      st_skip 6 11 _ true rfl rfl rfl rfl (List.Mem.head _),
      st_skip 6 11 _ true rfl rfl rfl rfl (List.Mem.head _),
      st_skip 6 11 _ true rfl rfl rfl rfl (List.Mem.head _),
      st_skip 6 11 _ true rfl rfl rfl rfl (List.Mem.head _),
      st_plain rfl (op_pick _ _ false _ rfl rfl),
      st_plain rfl (op_move _ _ _ _ rfl rfl),
      st_skip 13 18 _ true rfl rfl rfl rfl (List.Mem.head _),
      st_skip 13 18 _ true rfl rfl rfl rfl (List.Mem.head _),
      st_skip 13 18 _ true rfl rfl rfl rfl (List.Mem.head _),
      st_skip 13 18 _ true rfl rfl rfl rfl (List.Mem.head _),
      st_skip 13 18 _ true rfl rfl rfl rfl (List.Mem.head _),
      st_plain rfl (op_pick _ _ false _ rfl rfl),
      st_plain rfl (op_move _ _ _ _ rfl rfl),
      st_skip 20 25 _ true rfl rfl rfl rfl (List.Mem.head _),
      st_skip 20 25 _ true rfl rfl rfl rfl (List.Mem.head _),
      st_skip 20 25 _ true rfl rfl rfl rfl (List.Mem.head _),
      st_skip 20 25 _ true rfl rfl rfl rfl (List.Mem.head _),
      st_skip 20 25 _ true rfl rfl rfl rfl (List.Mem.head _),
      st_skip 20 25 _ true rfl rfl rfl rfl (List.Mem.head _),
      st_skip 20 25 _ true rfl rfl rfl rfl (List.Mem.head _),
      st_plain rfl (op_pick _ _ false _ rfl rfl),
      st_plain rfl (op_assign _ _ _ _ rfl rfl),
      trivial⟩ ?_
     exact hl8 _ (Option.some.inj h).symm
   ·refine ht_anyR (by kernel_rfl) hn (El := (_ :: _ :: (5, .agg [.v (.bool a.Null), .v (.string a.Local), .v (.string a.Domain)]) :: (6, .v (.bool v1)) :: (7, .v (.bool false)) :: (8, .v undef) :: (9, .v undef) :: (10, .v (.bool false)) :: (11, .v (.bool false)) :: (12, .v undef) :: (13, .v undef) :: (14, .v undef) :: (15, .v undef) :: (16, .v undef) :: (17, .v (.bool false)) :: (18, .v (.bool false)) :: (19, .v undef) :: (20, .v undef) :: (21, .v undef) :: (22, .v undef) :: (23, .v undef) :: (24, .v (.bool false)) :: (25, .v (.bool false)) :: (26, .v undef) :: (27, .v undef) :: (28, .v undef) :: (29, .v undef) :: (30, .v undef) :: (31, .v undef) :: (32, .v undef) :: (33, .v (.bool false)) :: (4, .v (.bool false)) :: [])) (init := [0, 1]) (fin := [31]) (sps := (⟨[0], [], [2], [(.slot 5)]⟩ :: ⟨[2], [], [3], [(.slot 6)]⟩ :: ⟨[3], [], [4], [(.slot 7)]⟩ :: ⟨[4], [], [5], [(.slot 8)]⟩ :: ⟨[4], [], [6], [(.slot 9)]⟩ :: ⟨[4], [], [7], [(.slot 10)]⟩ :: ⟨[7], [], [8], [(.slot 11)]⟩ :: ⟨[8], [], [9], [(.slot 12)]⟩ :: ⟨[8], [], [10], [(.slot 13)]⟩ :: ⟨[8], [], [11], [(.slot 14)]⟩ :: ⟨[8], [], [12], [(.slot 15)]⟩ :: ⟨[8], [], [13], [(.slot 16)]⟩ :: ⟨[8], [], [14], [(.slot 17)]⟩ :: ⟨[14], [], [15], [(.slot 18)]⟩ :: ⟨[15], [], [16], [(.slot 19)]⟩ :: ⟨[15], [], [17], [(.slot 20)]⟩ :: ⟨[15], [], [18], [(.slot 21)]⟩ :: ⟨[15], [], [19], [(.slot 22)]⟩ :: ⟨[15], [], [20], [(.slot 23)]⟩ :: ⟨[15], [], [21], [(.slot 24)]⟩ :: ⟨[21], [], [22], [(.slot 25)]⟩ :: ⟨[22], [], [23], [(.slot 26)]⟩ :: ⟨[22], [], [24], [(.slot 27)]⟩ :: ⟨[22], [], [25], [(.slot 28)]⟩ :: ⟨[22], [], [26], [(.slot 29)]⟩ :: ⟨[22], [], [27], [(.slot 30)]⟩ :: ⟨[22], [], [28], [(.slot 31)]⟩ :: ⟨[22], [], [29], [(.slot 32)]⟩ :: ⟨[22], [], [30], [(.slot 33)]⟩ :: ⟨[30], [], [31], [(.slot 4)]⟩ :: [])) (es' := [(4, .v (.bool false))]) (by kernel_rfl) rfl rfl
     ⟨st_plain rfl (op_loadA _ _ _ _ _ _ _ Tryd.underlying23 rfl sz23 rfl rfl (Nat.le_of_ble_eq_true rfl) rfl rfl),
     st_plain rfl (op_call _ _ 12 _ _ rfl Tryd.call12 rfl (ok_wherryref11_Path a _ hv1) rfl rfl),
     st_plain rfl (op_move _ _ _ _ (congrArg (fun b => AV.v (Value.bool b)) hg1_2) rfl),
     st_skip 2 7 _ true rfl rfl rfl rfl (List.Mem.head _),
     st_skip 2 7 _ true rfl rfl rfl rfl (List.Mem.head _),
     st_plain rfl (op_pick _ _ false _ rfl rfl),
     st_plain rfl (op_move _ _ _ _ rfl rfl),
     st_skip 6 11 _ true rfl rfl rfl rfl (List.Mem.head _),
     st_skip 6 11 _ true rfl rfl rfl rfl (List.Mem.head _),
     st_skip 6 11 _ true rfl rfl rfl rfl (List.Mem.head _),
     st_skip 6 11 _ true rfl rfl rfl rfl (List.Mem.head _),
     st_skip 6 11 _ true rfl rfl rfl rfl (List.Mem.head _),
     st_plain rfl (op_pick _ _ false _ rfl rfl),
     st_plain rfl (op_move _ _ _ _ rfl rfl),
     st_skip 13 18 _ true rfl rfl rfl rfl (List.Mem.head _),
     st_skip 13 18 _ true rfl rfl rfl rfl (List.Mem.head _),
     st_skip 13 18 _ true rfl rfl rfl rfl (List.Mem.head _),
     st_skip 13 18 _ true rfl rfl rfl rfl (List.Mem.head _),
     st_skip 13 18 _ true rfl rfl rfl rfl (List.Mem.head _),
     st_plain rfl (op_pick _ _ false _ rfl rfl),
     st_plain rfl (op_move _ _ _ _ rfl rfl),
     st_skip 20 25 _ true rfl rfl rfl rfl (List.Mem.head _),
     st_skip 20 25 _ true rfl rfl rfl rfl (List.Mem.head _),
     st_skip 20 25 _ true rfl rfl rfl rfl (List.Mem.head _),
     st_skip 20 25 _ true rfl rfl rfl rfl (List.Mem.head _),
     st_skip 20 25 _ true rfl rfl rfl rfl (List.Mem.head _),
     st_skip 20 25 _ true rfl rfl rfl rfl (List.Mem.head _),
     st_skip 20 25 _ true rfl rfl rfl rfl (List.Mem.head _),
     st_plain rfl (op_pick _ _ false _ rfl rfl),
     st_plain rfl (op_assign _ _ _ _ rfl rfl),
     trivial⟩ ?_
    exact hl8 _ (Option.some.inj h).symm

set_option maxHeartbeats 1000000 in
theorem ok_wherryref11_At (p : T_Path) (domain : ByteArray) (r : Bool) (h : Sh.wherryref11_At p domain = some r) : FnOK Tryd.prog 21 [.agg [.v (.bool p.Null), .v (.string p.Local), .v (.string p.Domain)], .v (.string domain)] (.v (.bool r)) := by
  unfold Sh.wherryref11_At at h
  refine fn_ok Tryd.func21 rfl (Nat.le_of_ble_eq_true rfl) rfl rfl fun g0 hn hio => ?_
  refine ht_seq ?_
  refine ht_seqR hn (El := [_, _, (2, .box 23 [.v (.bool p.Null), .v (.string p.Local), .v (.string p.Domain)]), (4, .v (.bool false))]) (init := [0, 1]) (fin := [1, 2]) (sps := [⟨[0], [], [2], [(.slot 2)]⟩, ⟨[], [], [3], [(.slot 4)]⟩]) (es' := [(_, _), (2, .box 23 [.v (.bool p.Null), .v (.string p.Local), .v (.string p.Domain)])]) (by kernel_rfl) rfl rfl
   ⟨st_plain rfl (op_box _ _ _ _ rfl rfl rfl),
   st_plain rfl (op_assign _ _ _ _ rfl rfl),
   trivial⟩ ?_
  refine pt_then ?_
  refine ht_seq ?_
  refine ht_joinS h (fun (s4 : Bool) => [(4, .v (.bool s4))]) ?_ ?_
  ·rintro s4 h
   refine pt_then ?_
   refine ht_ret ?_
   obtain rfl := Option.some.inj h
   exact pt_ret hio rfl (.tmp _ _ .nil) rfl rfl
  ·intro u5 h hl6 hr7
   obtain ⟨v1, hv1, h⟩ := bind_some h
   refine cond_some h (fun hg1_2 h => ?_) (fun hg1_2 h => ?_)
   ·refine cond_some h (fun hg1_7 h => ?_) (fun hg1_7 h => ?_)
    ·obtain ⟨v2, hv2, h⟩ := bind_some h
     obtain ⟨v3, hv3, h⟩ := bind_some h
     refine ht_seqR hn (El := (_ :: _ :: (5, .agg [.v (.bool p.Null), .v (.string p.Local), .v (.string p.Domain)]) :: (6, .v (.bool v1)) :: (7, .v (.bool true)) :: (8, .ptr 2 0) :: (9, .v (.bool p.Null)) :: (10, .v (.bool (!p.Null))) :: (11, .v (.bool (!p.Null))) :: (12, .v (.bool true)) :: (13, .ptr 2 2) :: (14, .v (.string p.Domain)) :: (15, .v (.string v2)) :: (16, .v (.string domain)) :: (17, .v (.string v3)) :: (18, .v (.bool (v2.toList == v3.toList))) :: (19, .v (.bool (v2.toList == v3.toList))) :: (4, .v (.bool (v2.toList == v3.toList))) :: [])) (init := [0, 1]) (fin := [17]) (sps := (⟨[1], [], [2], [(.slot 5)]⟩ :: ⟨[2], [], [3], [(.slot 6)]⟩ :: ⟨[3], [], [4], [(.slot 7)]⟩ :: ⟨[4, 1], [], [5], [(.slot 8)]⟩ :: ⟨[4, 5, 1], [], [6], [(.slot 9)]⟩ :: ⟨[4, 6], [], [7], [(.slot 10)]⟩ :: ⟨[4, 7], [], [8], [(.slot 11)]⟩ :: ⟨[8], [], [9], [(.slot 12)]⟩ :: ⟨[9, 1], [], [10], [(.slot 13)]⟩ :: ⟨[9, 10, 1], [], [11], [(.slot 14)]⟩ :: ⟨[9, 11], [], [12], [(.slot 15)]⟩ :: ⟨[9, 0], [], [13], [(.slot 16)]⟩ :: ⟨[9, 13], [], [14], [(.slot 17)]⟩ :: ⟨[9, 12, 14], [], [15], [(.slot 18)]⟩ :: ⟨[9, 15], [], [16], [(.slot 19)]⟩ :: ⟨[16], [], [17], [(.slot 4)]⟩ :: [])) (es' := [(4, .v (.bool (v2.toList == v3.toList)))]) (by kernel_rfl) rfl rfl
      ⟨st_plain rfl (op_loadA _ _ _ _ _ _ _ Tryd.underlying23 rfl sz23 rfl rfl (Nat.le_of_ble_eq_true rfl) rfl rfl),
      st_plain rfl (op_call _ _ 12 _ _ rfl Tryd.call12 rfl (ok_wherryref11_Path p _ hv1) rfl rfl),
      st_plain rfl (op_move _ _ _ _ (congrArg (fun b => AV.v (Value.bool b)) hg1_2) rfl),
      st_run 2 7 true rfl rfl rfl (List.Mem.head _) (op_fieldAddr _ _ _ _ 2 0 _ Tryd.underlying23 rfl sz4 rfl rfl (by decide)),
      st_run 2 7 true rfl rfl rfl (List.Mem.head _) (op_load _ _ _ _ _ _ Tryd.underlying4 rfl rfl rfl (Nat.le_of_ble_eq_true rfl) rfl rfl rfl),
      st_run 2 7 true rfl rfl rfl (List.Mem.head _) (op_un _ _ _ _ rfl rfl),
      st_plain rfl (op_pick _ _ true _ rfl rfl),
      st_plain rfl (op_move _ _ _ _ (congrArg (fun b => AV.v (Value.bool b)) hg1_7) rfl),
      st_run 7 12 true rfl rfl rfl (List.Mem.head _) (op_fieldAddr _ _ _ _ 2 0 _ Tryd.underlying23 rfl sz9 rfl rfl (by decide)),
      st_run 7 12 true rfl rfl rfl (List.Mem.head _) (op_load _ _ _ _ _ _ Tryd.underlying9 rfl rfl rfl (Nat.le_of_ble_eq_true rfl) rfl rfl rfl),
      st_run 7 12 true rfl rfl rfl (List.Mem.head _) (op_call _ _ 23 _ _ rfl Tryd.call23 rfl (ok_wherryref11_Fold p.Domain _ hv2) rfl rfl),
      st_run 7 12 true rfl rfl rfl (List.Mem.head _) (op_move _ _ _ _ rfl rfl),
      st_run 7 12 true rfl rfl rfl (List.Mem.head _) (op_call _ _ 23 _ _ rfl Tryd.call23 rfl (ok_wherryref11_Fold domain _ hv3) rfl rfl),
      st_run 7 12 true rfl rfl rfl (List.Mem.head _) (op_bin _ _ _ _ _ rfl rfl rfl),
      st_plain rfl (op_pick _ _ true _ rfl rfl),
      st_plain rfl (op_assign _ _ _ _ rfl rfl),
      trivial⟩ ?_
     exact hl6 _ (Option.some.inj h).symm
    ·refine ht_seqR hn (El := (_ :: _ :: (5, .agg [.v (.bool p.Null), .v (.string p.Local), .v (.string p.Domain)]) :: (6, .v (.bool v1)) :: (7, .v (.bool true)) :: (8, .ptr 2 0) :: (9, .v (.bool p.Null)) :: (10, .v (.bool (!p.Null))) :: (11, .v (.bool (!p.Null))) :: (12, .v (.bool false)) :: (13, .v undef) :: (14, .v undef) :: (15, .v undef) :: (16, .v undef) :: (17, .v undef) :: (18, .v undef) :: (19, .v (.bool false)) :: (4, .v (.bool false)) :: [])) (init := [0, 1]) (fin := [17]) (sps := (⟨[1], [], [2], [(.slot 5)]⟩ :: ⟨[2], [], [3], [(.slot 6)]⟩ :: ⟨[3], [], [4], [(.slot 7)]⟩ :: ⟨[4, 1], [], [5], [(.slot 8)]⟩ :: ⟨[4, 5, 1], [], [6], [(.slot 9)]⟩ :: ⟨[4, 6], [], [7], [(.slot 10)]⟩ :: ⟨[4, 7], [], [8], [(.slot 11)]⟩ :: ⟨[8], [], [9], [(.slot 12)]⟩ :: ⟨[9], [], [10], [(.slot 13)]⟩ :: ⟨[9], [], [11], [(.slot 14)]⟩ :: ⟨[9], [], [12], [(.slot 15)]⟩ :: ⟨[9], [], [13], [(.slot 16)]⟩ :: ⟨[9], [], [14], [(.slot 17)]⟩ :: ⟨[9], [], [15], [(.slot 18)]⟩ :: ⟨[9], [], [16], [(.slot 19)]⟩ :: ⟨[16], [], [17], [(.slot 4)]⟩ :: [])) (es' := [(4, .v (.bool false))]) (by kernel_rfl) rfl rfl
      ⟨st_plain rfl (op_loadA _ _ _ _ _ _ _ Tryd.underlying23 rfl sz23 rfl rfl (Nat.le_of_ble_eq_true rfl) rfl rfl),
      st_plain rfl (op_call _ _ 12 _ _ rfl Tryd.call12 rfl (ok_wherryref11_Path p _ hv1) rfl rfl),
      st_plain rfl (op_move _ _ _ _ (congrArg (fun b => AV.v (Value.bool b)) hg1_2) rfl),
      st_run 2 7 true rfl rfl rfl (List.Mem.head _) (op_fieldAddr _ _ _ _ 2 0 _ Tryd.underlying23 rfl sz4 rfl rfl (by decide)),
      st_run 2 7 true rfl rfl rfl (List.Mem.head _) (op_load _ _ _ _ _ _ Tryd.underlying4 rfl rfl rfl (Nat.le_of_ble_eq_true rfl) rfl rfl rfl),
      st_run 2 7 true rfl rfl rfl (List.Mem.head _) (op_un _ _ _ _ rfl rfl),
      st_plain rfl (op_pick _ _ true _ rfl rfl),
      st_plain rfl (op_move _ _ _ _ (congrArg (fun b => AV.v (Value.bool b)) hg1_7) rfl),
      st_skip 7 12 _ true rfl rfl rfl rfl (List.Mem.head _),
      st_skip 7 12 _ true rfl rfl rfl rfl (List.Mem.head _),
      st_skip 7 12 _ true rfl rfl rfl rfl (List.Mem.head _),
      st_skip 7 12 _ true rfl rfl rfl rfl (List.Mem.head _),
      st_skip 7 12 _ true rfl rfl rfl rfl (List.Mem.head _),
      st_skip 7 12 _ true rfl rfl rfl rfl (List.Mem.head _),
      st_plain rfl (op_pick _ _ false _ rfl rfl),
      st_plain rfl (op_assign _ _ _ _ rfl rfl),
      trivial⟩ ?_
     exact hl6 _ (Option.some.inj h).symm
   ·refine ht_seqR hn (El := (_ :: _ :: (5, .agg [.v (.bool p.Null), .v (.string p.Local), .v (.string p.Domain)]) :: (6, .v (.bool v1)) :: (7, .v (.bool false)) :: (8, .v undef) :: (9, .v undef) :: (10, .v undef) :: (11, .v (.bool false)) :: (12, .v (.bool false)) :: (13, .v undef) :: (14, .v undef) :: (15, .v undef) :: (16, .v undef) :: (17, .v undef) :: (18, .v undef) :: (19, .v (.bool false)) :: (4, .v (.bool false)) :: [])) (init := [0, 1]) (fin := [17]) (sps := (⟨[1], [], [2], [(.slot 5)]⟩ :: ⟨[2], [], [3], [(.slot 6)]⟩ :: ⟨[3], [], [4], [(.slot 7)]⟩ :: ⟨[4], [], [5], [(.slot 8)]⟩ :: ⟨[4], [], [6], [(.slot 9)]⟩ :: ⟨[4], [], [7], [(.slot 10)]⟩ :: ⟨[4], [], [8], [(.slot 11)]⟩ :: ⟨[8], [], [9], [(.slot 12)]⟩ :: ⟨[9], [], [10], [(.slot 13)]⟩ :: ⟨[9], [], [11], [(.slot 14)]⟩ :: ⟨[9], [], [12], [(.slot 15)]⟩ :: ⟨[9], [], [13], [(.slot 16)]⟩ :: ⟨[9], [], [14], [(.slot 17)]⟩ :: ⟨[9], [], [15], [(.slot 18)]⟩ :: ⟨[9], [], [16], [(.slot 19)]⟩ :: ⟨[16], [], [17], [(.slot 4)]⟩ :: [])) (es' := [(4, .v (.bool false))]) (by kernel_rfl) rfl rfl
     ⟨st_plain rfl (op_loadA _ _ _ _ _ _ _ Tryd.underlying23 rfl sz23 rfl rfl (Nat.le_of_ble_eq_true rfl) rfl rfl),
     st_plain rfl (op_call _ _ 12 _ _ rfl Tryd.call12 rfl (ok_wherryref11_Path p _ hv1) rfl rfl),
     st_plain rfl (op_move _ _ _ _ (congrArg (fun b => AV.v (Value.bool b)) hg1_2) rfl),
     st_skip 2 7 _ true rfl rfl rfl rfl (List.Mem.head _),
     st_skip 2 7 _ true rfl rfl rfl rfl (List.Mem.head _),
     st_skip 2 7 _ true rfl rfl rfl rfl (List.Mem.head _),
     st_plain rfl (op_pick _ _ false _ rfl rfl),
     st_plain rfl (op_move _ _ _ _ rfl rfl),
     st_skip 7 12 _ true rfl rfl rfl rfl (List.Mem.head _),
     st_skip 7 12 _ true rfl rfl rfl rfl (List.Mem.head _),
     st_skip 7 12 _ true rfl rfl rfl rfl (List.Mem.head _),
     st_skip 7 12 _ true rfl rfl rfl rfl (List.Mem.head _),
     st_skip 7 12 _ true rfl rfl rfl rfl (List.Mem.head _),
     st_skip 7 12 _ true rfl rfl rfl rfl (List.Mem.head _),
     st_plain rfl (op_pick _ _ false _ rfl rfl),
     st_plain rfl (op_assign _ _ _ _ rfl rfl),
     trivial⟩ ?_
    exact hl6 _ (Option.some.inj h).symm

end Go.Proofs.YtpmngahekkagpaaDoor
